/-
  What is read at a site of the program, as the model runs it (site.Site.Read).
-/
import Derived.Test.YtemiamjnhoeniaaGreatDoorSiteB
import Derived.Test.YtemiamjnhoeniaaGreatDoorSiteD
import Derived.Test.YtemiamjnhoeniaaGreatDoorQRead
import Derived.Test.YtemiamjnhoeniaaGreatDoorSiteA
namespace Go.Proofs.YtemiamjnhoeniaaGreatDoor
open Go.RowKit

theorem pRead_results {tmps : Array Value} {w : World} {b : Nat} {v : Ver} {ev : Value} (h : RowL w b (verL v)) (h2 : tmps[6]? = some (.pointer (some ⟨b, 0, none⟩))) (h3 : tmps[7]? = some ev) :
    (results Tryz.f101 tmps).run Tryz.prog w = .ok (.tuple #[.agg (verL v).toArray, ev]) w := by
  have z0 := h.cell 0 _ rfl
  have z1 := h.cell 1 _ rfl
  have z2 := h.cell 2 _ rfl
  have z3 := h.cell 3 _ rfl
  have z4 := h.cell 4 _ rfl
  have z5 := h.cell 5 _ rfl
  simp [results, Tryz.results101, go_sem, h2, h3, z0, z1, z2, z3, z4, z5, verL]

set_option maxHeartbeats 4000000 in
theorem pread_any {b : Nat} {lv : Value} {bm : Nat} {F : Nat → Prop} {S : SiteS} {log waits : List TxM} (key a0 a1 a2 a3 : Int) (w : World) (h : PMem w b lv bm F S log waits) (hI : InvS S) :
    Calls Tryz.prog 101 #[.pointer (some ⟨b, 0, none⟩), .int .i64 key, .agg #[.int .i64 a0, .int .i64 a1, .int .i64 a2, .int .i64 a3]] w fun e w' =>
      e = .returned (.tuple #[.agg (verL (readS S key a0 a1 a2 a3).1).toArray, errV (readS S key a0 a1 a2 a3).2]) ∧ Below w.heap.size w w' := by
  have RA := (Row4.new w 47 a0 a1 a2 a3).boxed (.cells #[.int .i64 0, .int .i64 0, .int .i64 0, .int .i64 0, .string ⟨#[]⟩, .bool false] 130)
  have RR : RowL ((w.alloc (.cells #[.int .i64 a0, .int .i64 a1, .int .i64 a2, .int .i64 a3] 47)).alloc (.cells #[.int .i64 0, .int .i64 0, .int .i64 0, .int .i64 0, .string ⟨#[]⟩, .bool false] 130)) (w.heap.size + 1) (verL ver0) := RowL.new (w := w.alloc (.cells #[.int .i64 a0, .int .i64 a1, .int .i64 a2, .int .i64 a3] 47)) (T := 130) (n := w.heap.size + 1) [.int .i64 0, .int .i64 0, .int .i64 0, .int .i64 0, .string ⟨#[]⟩, .bool false] (by simp)
  have hb := boxed (boxed (Below.refl _ w) (.cells #[.int .i64 a0, .int .i64 a1, .int .i64 a2, .int .i64 a3] 47)) (.cells #[.int .i64 0, .int .i64 0, .int .i64 0, .int .i64 0, .string ⟨#[]⟩, .bool false] 130)
  have M1 : Hid (PMem _ b lv bm F S log waits) := h.later hb
  have HH : Hid (PMem w b lv bm F S log waits) := h
  clear h
  have k1 := Later.cell (M1.out.box.cell 1 _ rfl)
  have k2 := Later.cell (M1.out.box.cell 2 _ rfl)
  have k3 := Later.cell (M1.out.box.cell 3 _ rfl)
  have k4 := Later.cell (M1.out.box.cell 4 _ rfl)
  have c0 := Later.cell RA.c0
  have c1 := Later.cell RA.c1
  have c2 := Later.cell RA.c2
  have c3 := Later.cell RA.c3
  go_enter Tryz.func101, Tryz.ntmps101
  go_wp2_with fail
  refine wp_region_later (by kernel_rfl) (by kernel_rfl) ?_
  repeat (go_big_quiet_step (first | rfl | (go_at_call 21; exact calls_later (covers_any _ _ _ _ _ _ _ _ _))))
  refine wpQuiet_nil ?_
  rintro w1 ⟨⟨_, hb1⟩, rfl⟩
  replace RR := RR.later hb1
  replace RA := Row4.later hb1 RA
  replace hb := behind hb hb1
  have M2 : Hid (PMem w1 b lv bm F S log waits) := M1.out.later hb1
  clear M1 k1 k2 k3 k4 c0 c1 c2 c3 hb1
  cases hc : covB S.a0 S.a1 S.a2 S.a3 a0 a1 a2 a3
  · have RV : Hid (readS S key a0 a1 a2 a3 = (ver0, 10)) := by show readS S key a0 a1 a2 a3 = (ver0, 10); unfold readS; rw [hc]; rfl
    have r0 := RR.cell 0 _ rfl
    have p0 := RR.free 0 (by simp [verL])
    have r1 := RR.cell 1 _ rfl
    have p1 := RR.free 1 (by simp [verL])
    have r2 := RR.cell 2 _ rfl
    have p2 := RR.free 2 (by simp [verL])
    have r3 := RR.cell 3 _ rfl
    have p3 := RR.free 3 (by simp [verL])
    have r4 := RR.cell 4 _ rfl
    have p4 := RR.free 4 (by simp [verL])
    have r5 := RR.cell 5 _ rfl
    have p5 := RR.free 5 (by simp [verL])
    have RZ := ver_set RR 0 0 0 0 ⟨#[]⟩ false
    have hbZ := ver_far hb (show w.heap.size ≤ w.heap.size + 1 by omega) 0 0 0 0 ⟨#[]⟩ false
    clear hc
    go_wp2_with fail
    refine bodyPost_ret (pRead_results (v := ver0) (ev := errV 10) RZ rfl rfl) rfl ⟨?_, hbZ⟩
    rw [RV.out]
  · obtain ⟨⟨⟨wl, ct, st, sq, dt, gn⟩, ev⟩, hrv⟩ : ∃ x, readV key a0 a1 a2 a3 S.l = x := ⟨_, rfl⟩
    have RV : Hid (readS S key a0 a1 a2 a3 = (⟨wl, ct, st, sq, dt, gn⟩, ev)) := by show readS S key a0 a1 a2 a3 = _; unfold readS; rw [hc, ← hrv]; rfl
    have PR : Hid (Calls Tryz.prog 124 #[.pointer (some ⟨b, 25, none⟩), .int .i64 key, .agg #[.int .i64 a0, .int .i64 a1, .int .i64 a2, .int .i64 a3]] w1.drew fun e w' => e = .returned (.tuple #[.agg #[.int .i64 wl, .int .i64 ct, .int .i64 st, .int .i64 sq, .string dt, .bool gn], errV ev]) ∧ Row4 w' w.heap.size a0 a1 a2 a3 ∧ RowL w' (w.heap.size + 1) (verL ver0) ∧ Below w.heap.size w w') := by
      refine (qRead_any key a0 a1 a2 a3 w1.drew (M2.out.later (Below.refl _ w1).drew).st (by have := hI.len; have := hI.log; omega) hI.apart hI.ok).mono ?_
      rintro e w' ⟨rfl, hb'⟩
      refine ⟨by rw [hrv]; rfl, Row4.later hb' RA.drew, RR.drew.later hb', behind hb.drew hb'⟩
    have HRV : Hid (readV key a0 a1 a2 a3 S.l = (⟨wl, ct, st, sq, dt, gn⟩, ev)) := hrv
    have T0 := fun (w' : World) (h : Row4 w' w.heap.size a0 a1 a2 a3) => h.c0
    have T1 := fun (w' : World) (h : Row4 w' w.heap.size a0 a1 a2 a3) => h.c1
    have T2 := fun (w' : World) (h : Row4 w' w.heap.size a0 a1 a2 a3) => h.c2
    have T3 := fun (w' : World) (h : Row4 w' w.heap.size a0 a1 a2 a3) => h.c3
    have RA0 := RA.drew
    have hne : w.heap.size + 1 ≠ w.heap.size := by omega
    clear hc hrv RA RR
    go_wp2_with fail
    go_region_held3 (fun w' => Row4 w' w.heap.size a0 a1 a2 a3) (first | (with_reducible assumption) | (with_reducible exact row4_ver (by with_reducible assumption) hne _ _ _ _ _ _))
      (first | (go_at_call 124; with_reducible refine PR.out.mono ?_; rintro e w5 ⟨rfl, RA5, RR5, hb5⟩; have r0 := RR5.cell 0 _ rfl; have p0 := RR5.free 0 (by simp [verL]); have r1 := RR5.cell 1 _ rfl; have p1 := RR5.free 1 (by simp [verL]); have r2 := RR5.cell 2 _ rfl; have p2 := RR5.free 2 (by simp [verL]); have r3 := RR5.cell 3 _ rfl; have p3 := RR5.free 3 (by simp [verL]); have r4 := RR5.cell 4 _ rfl; have p4 := RR5.free 4 (by simp [verL]); have r5 := RR5.cell 5 _ rfl; have p5 := RR5.free 5 (by simp [verL])))
    all_goals
      have RZ := ver_set RR5 wl ct st sq dt gn
      have hbZ := ver_far hb5 (show w.heap.size ≤ w.heap.size + 1 by omega) wl ct st sq dt gn
      go_wp2_with fail
      refine bodyPost_ret (pRead_results (v := ⟨wl, ct, st, sq, dt, gn⟩) (ev := errV ev) RZ rfl rfl) rfl ⟨?_, hbZ⟩
      rw [RV.out]

end Go.Proofs.YtemiamjnhoeniaaGreatDoor

