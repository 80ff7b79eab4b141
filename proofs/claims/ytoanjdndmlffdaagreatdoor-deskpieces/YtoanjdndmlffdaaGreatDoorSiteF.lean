import Derived.Test.YtoanjdndmlffdaaGreatDoorQRead
import Derived.Test.YtoanjdndmlffdaaGreatDoorSiteE
namespace Go.Proofs.YtoanjdndmlffdaaGreatDoor
open Go.RowKit
section
theorem pRead_results {tmps : Array Value} {w : World} {b : Nat} {v : Ver} {ev : Value} (h : RowL w b (verL v)) (h2 : tmps[6]? = some (.pointer (some ⟨b, 0, none⟩))) (h3 : tmps[7]? = some ev) :
    (results Tryz.f216 tmps).run Tryz.prog w = .ok (.tuple #[.agg (verL v).toArray, ev]) w := by
  have z0 := h.cell 0 _ rfl
  have z1 := h.cell 1 _ rfl
  have z2 := h.cell 2 _ rfl
  have z3 := h.cell 3 _ rfl
  have z4 := h.cell 4 _ rfl
  have z5 := h.cell 5 _ rfl
  simp [results, Tryz.results216, go_sem, h2, h3, z0, z1, z2, z3, z4, z5, verL]

set_option maxHeartbeats 4000000 in
theorem pread_any {b : Nat} {lv : Value} {bm : Nat} {F : Nat → Prop} {S : SiteS} {log waits : List TxM} (key a0 a1 a2 a3 : Int) (w : World) (h : PMem w b lv bm F S log waits) (hI : InvS S) :
    Calls Tryz.prog 216 #[.pointer (some ⟨b, 0, none⟩), .int .i64 key, .agg #[.int .i64 a0, .int .i64 a1, .int .i64 a2, .int .i64 a3]] w fun e w' =>
      e = .returned (.tuple #[.agg (verL (readS S key a0 a1 a2 a3).1).toArray, errV (readS S key a0 a1 a2 a3).2]) ∧ Below w.heap.size w w' := by
  have RA := (Row4.new w 77 a0 a1 a2 a3).boxed (.cells #[.int .i64 0, .int .i64 0, .int .i64 0, .int .i64 0, .string ⟨#[]⟩, .bool false] 130)
  have RR : RowL ((w.alloc (.cells #[.int .i64 a0, .int .i64 a1, .int .i64 a2, .int .i64 a3] 77)).alloc (.cells #[.int .i64 0, .int .i64 0, .int .i64 0, .int .i64 0, .string ⟨#[]⟩, .bool false] 130)) (w.heap.size + 1) (verL ver0) := RowL.new (w := w.alloc (.cells #[.int .i64 a0, .int .i64 a1, .int .i64 a2, .int .i64 a3] 77)) (T := 130) (n := w.heap.size + 1) [.int .i64 0, .int .i64 0, .int .i64 0, .int .i64 0, .string ⟨#[]⟩, .bool false] (by simp)
  have hb := boxed (boxed (Below.refl _ w) (.cells #[.int .i64 a0, .int .i64 a1, .int .i64 a2, .int .i64 a3] 77)) (.cells #[.int .i64 0, .int .i64 0, .int .i64 0, .int .i64 0, .string ⟨#[]⟩, .bool false] 130)
  have M1 : Hid (PMem _ b lv bm F S log waits) := h.later hb
  have HH : Hid (PMem w b lv bm F S log waits) := h
  clear h
  have k1 := Later.cell (M1.out.box.cell 1 _ rfl)
  have k2 := Later.cell (M1.out.box.cell 2 _ rfl)
  have k3 := Later.cell (M1.out.box.cell 3 _ rfl)
  have k4 := Later.cell (M1.out.box.cell 4 _ rfl)
  have c0 := Later.cell RA.c0
  have c1 := Later.cell RA.c1
  have c2 := Later.cell RA.c2
  have c3 := Later.cell RA.c3
  go_enter Tryz.func216, Tryz.ntmps216
  go_wp2_with fail
  refine wp_region_later (by kernel_rfl) (by kernel_rfl) ?_
  repeat (go_big_quiet_step (first | rfl | (go_at_call 205; exact calls_later (covers_any _ _ _ _ _ _ _ _ _))))
  refine wpQuiet_nil ?_
  rintro w1 ⟨⟨_, hb1⟩, rfl⟩
  replace RR := RR.later hb1
  replace RA := Row4.later hb1 RA
  replace hb := behind hb hb1
  have M2 : Hid (PMem w1 b lv bm F S log waits) := M1.out.later hb1
  clear M1 k1 k2 k3 k4 c0 c1 c2 c3 hb1
  cases hc : covB S.a0 S.a1 S.a2 S.a3 a0 a1 a2 a3
  · have RV : Hid (readS S key a0 a1 a2 a3 = (ver0, 10)) := by show readS S key a0 a1 a2 a3 = (ver0, 10); unfold readS; rw [hc]; rfl
    have r0 := RR.cell 0 _ rfl
    have p0 := RR.free 0 (by simp [verL])
    have r1 := RR.cell 1 _ rfl
    have p1 := RR.free 1 (by simp [verL])
    have r2 := RR.cell 2 _ rfl
    have p2 := RR.free 2 (by simp [verL])
    have r3 := RR.cell 3 _ rfl
    have p3 := RR.free 3 (by simp [verL])
    have r4 := RR.cell 4 _ rfl
    have p4 := RR.free 4 (by simp [verL])
    have r5 := RR.cell 5 _ rfl
    have p5 := RR.free 5 (by simp [verL])
    have RZ := ver_set RR 0 0 0 0 ⟨#[]⟩ false
    have hbZ := ver_far hb (show w.heap.size ≤ w.heap.size + 1 by omega) 0 0 0 0 ⟨#[]⟩ false
    clear hc
    go_wp2_with fail
    refine bodyPost_ret (pRead_results (v := ver0) (ev := errV 10) RZ rfl rfl) rfl ⟨?_, hbZ⟩
    rw [RV.out]
  · obtain ⟨⟨⟨wl, ct, st, sq, dt, gn⟩, ev⟩, hrv⟩ : ∃ x, readV key a0 a1 a2 a3 S.l = x := ⟨_, rfl⟩
    have RV : Hid (readS S key a0 a1 a2 a3 = (⟨wl, ct, st, sq, dt, gn⟩, ev)) := by show readS S key a0 a1 a2 a3 = _; unfold readS; rw [hc, ← hrv]; rfl
    have PR : Hid (Calls Tryz.prog 259 #[.pointer (some ⟨b, 25, none⟩), .int .i64 key, .agg #[.int .i64 a0, .int .i64 a1, .int .i64 a2, .int .i64 a3]] w1.drew fun e w' => e = .returned (.tuple #[.agg #[.int .i64 wl, .int .i64 ct, .int .i64 st, .int .i64 sq, .string dt, .bool gn], errV ev]) ∧ Row4 w' w.heap.size a0 a1 a2 a3 ∧ RowL w' (w.heap.size + 1) (verL ver0) ∧ Below w.heap.size w w') := by
      refine (qRead_any key a0 a1 a2 a3 w1.drew (M2.out.later (Below.refl _ w1).drew).st (by have := hI.len; have := hI.log; omega) hI.apart hI.ok).mono ?_
      rintro e w' ⟨rfl, hb'⟩
      refine ⟨by rw [hrv]; rfl, Row4.later hb' RA.drew, RR.drew.later hb', behind hb.drew hb'⟩
    have HRV : Hid (readV key a0 a1 a2 a3 S.l = (⟨wl, ct, st, sq, dt, gn⟩, ev)) := hrv
    have T0 := fun (w' : World) (h : Row4 w' w.heap.size a0 a1 a2 a3) => h.c0
    have T1 := fun (w' : World) (h : Row4 w' w.heap.size a0 a1 a2 a3) => h.c1
    have T2 := fun (w' : World) (h : Row4 w' w.heap.size a0 a1 a2 a3) => h.c2
    have T3 := fun (w' : World) (h : Row4 w' w.heap.size a0 a1 a2 a3) => h.c3
    have RA0 := RA.drew
    have hne : w.heap.size + 1 ≠ w.heap.size := by omega
    clear hc hrv RA RR
    go_wp2_with fail
    go_region_held3 (fun w' => Row4 w' w.heap.size a0 a1 a2 a3) (first | (with_reducible assumption) | (with_reducible exact row4_ver (by with_reducible assumption) hne _ _ _ _ _ _))
      (first | (go_at_call 259; with_reducible refine PR.out.mono ?_; rintro e w5 ⟨rfl, RA5, RR5, hb5⟩; have r0 := RR5.cell 0 _ rfl; have p0 := RR5.free 0 (by simp [verL]); have r1 := RR5.cell 1 _ rfl; have p1 := RR5.free 1 (by simp [verL]); have r2 := RR5.cell 2 _ rfl; have p2 := RR5.free 2 (by simp [verL]); have r3 := RR5.cell 3 _ rfl; have p3 := RR5.free 3 (by simp [verL]); have r4 := RR5.cell 4 _ rfl; have p4 := RR5.free 4 (by simp [verL]); have r5 := RR5.cell 5 _ rfl; have p5 := RR5.free 5 (by simp [verL])))
    all_goals
      have RZ := ver_set RR5 wl ct st sq dt gn
      have hbZ := ver_far hb5 (show w.heap.size ≤ w.heap.size + 1 by omega) wl ct st sq dt gn
      go_wp2_with fail
      refine bodyPost_ret (pRead_results (v := ⟨wl, ct, st, sq, dt, gn⟩) (ev := errV ev) RZ rfl rfl) rfl ⟨?_, hbZ⟩
      rw [RV.out]
end
set_option maxRecDepth 100000 in
set_option maxHeartbeats 8000000 in
theorem qAll_any {b so : Nat} {F : Nat → Prop} {l : List Hd} (a0 a1 a2 a3 : Int) (w : World) (hS : QStP w b so F l) (hl : l.length ≤ 1000) (ha : Apart l) (ho : ∀ h ∈ l, okVer h.v = true) :
    Calls Tryz.prog 217 #[.pointer (some ⟨b, so, none⟩), .agg #[.int .i64 a0, .int .i64 a1, .int .i64 a2, .int .i64 a3]] w fun e w' => ∃ v, e = .returned v ∧ w'.ownsRow w.heap.size 9 1 v 8 (toldC a0 a1 a2 a3 l 8) ∧ Below w.heap.size w w' := by
  have RA := RowL.new (w := w) (T := 77) [.int .i64 a0, .int .i64 a1, .int .i64 a2, .int .i64 a3] rfl
  have hb := boxed (Below.refl _ w) (.cells #[.int .i64 a0, .int .i64 a1, .int .i64 a2, .int .i64 a3] 77)
  have HS : Hid (QStP w b so F l) := hS
  have HA : Hid (Apart l) := ha
  have HO : Hid (∀ h ∈ l, okVer h.v = true) := ho
  clear hS ha ho
  obtain ⟨i0, hi, hz0, hz1, hz2⟩ := info_parts strInfo
  obtain ⟨W2, hmk, own0, gr0⟩ := run_make_full (P := Tryz.prog) (w.alloc (.cells #[.int .i64 a0, .int .i64 a1, .int .i64 a2, .int .i64 a3] 77)) w.heap.size 42 9 i0 (.string ⟨#[]⟩) 1 Tryz.underlying42 hi hz0 hz1 .i64 .i64 8 (by rw [hz2]; decide) (by simp [maxLen]) (by simp)
  have hmk2 : (Instr.makeSlice 42 (.int .i64 8) (.int .i64 8)).run Tryz.prog (w.alloc (.cells #[.int .i64 a0, .int .i64 a1, .int .i64 a2, .int .i64 a3] 77)) = .ok (.slice (some ⟨w.heap.size + 1, 0, none⟩) 8 8) W2 := by
    rw [World.size_alloc] at hmk
    exact hmk
  have ownA : W2.ownsRow w.heap.size 9 1 (.slice (some ⟨w.heap.size + 1, 0, none⟩) 8 8) 8 (allC a0 a1 a2 a3 l 0) := by
    rw [World.size_alloc, show (Value.string ⟨#[]⟩).cells = #[Value.string ⟨#[]⟩] from rfl, toList_madeCells_one] at own0
    exact own0
  have RA2 := RA.grown gr0 (by simp)
  have hb2 : Below w.heap.size w W2 := hb.grown gr0 hb.size (fun k e => by cases e)
  clear hmk own0 RA hb gr0 hi hz0 hz1 hz2
  go_enter Tryz.func217, Tryz.ntmps217
  go_wp2_with fail
  clear hmk2
  go_loopw [12] (fun iv wr => ∃ (k : Nat) (z : Int), k ≤ 8 ∧ z = k ∧ iv = .int .i64 z ∧ wr.ownsRow w.heap.size 9 1 (.slice (some ⟨w.heap.size + 1, 0, none⟩) 8 8) 8 (allC a0 a1 a2 a3 l k) ∧ RowL wr w.heap.size [.int .i64 a0, .int .i64 a1, .int .i64 a2, .int .i64 a3] ∧ Below w.heap.size w wr) (fun i _ => 8 - (intOf i).toNat)
  case atStart => exact ⟨0, 0, by omega, rfl, rfl, ownA, RA2, hb2⟩
  case round =>
    clear ownA RA2 hb2
    obtain ⟨k, z, hk, hz, rfl, ownk, RA, hb⟩ := hrel
    have HZ : Hid (z = k) := hz
    by_cases hlt : k < 8
    · have h1 : z < 8 := by omega
      have h3 : 0 ≤ z := by omega
      have h2 : z.toNat = k := by omega
      have S4 := HS.out.kept (fun j hj => hb.block j (HS.out.lt j hj)) hb.size
      have c0 := RA.cell 0 _ rfl
      have c1 := RA.cell 1 _ rfl
      have c2 := RA.cell 2 _ rfl
      have c3 := RA.cell 3 _ rfl
      clear hz
      go_wp2_with fail
      refine (qRead_any z a0 a1 a2 a3 _ S4 hl HA.out HO.out).mono ?_
      rintro e w2 ⟨rfl, hb2⟩
      clear c0 c1 c2 c3 S4
      have hsize := readV_size (key := z) (a0 := a0) (a1 := a1) (a2 := a2) (a3 := a3) HO.out
      have TK0 : Hid (toldV a0 a1 a2 a3 l k = if (readV z a0 a1 a2 a3 l).2 = 0 then (⟨#[61]⟩ : ByteArray) ++ (readV z a0 a1 a2 a3 l).1.data else ⟨#[]⟩) := by
        show toldV a0 a1 a2 a3 l k = _
        rw [HZ.out]
        rfl
      obtain ⟨⟨rv, re⟩, hrd⟩ : ∃ x, readV z a0 a1 a2 a3 l = x := ⟨_, rfl⟩
      rw [hrd] at TK0 hsize ⊢
      simp only at TK0 hsize ⊢
      clear hrd
      obtain ⟨bw, bc, bs, bq, bd, bg⟩ := rv
      simp only at TK0 hsize
      rw [show verL ⟨bw, bc, bs, bq, bd, bg⟩ = [.int .i64 bw, .int .i64 bc, .int .i64 bs, .int .i64 bq, .string bd, .bool bg] from rfl]
      replace RA := (RA.later hb2).boxed (.cells #[.int .i64 bw, .int .i64 bc, .int .i64 bs, .int .i64 bq, .string bd, .bool bg] 130)
      have ownk1 : w2.ownsRow w.heap.size 9 1 (.slice (some ⟨w.heap.size + 1, 0, none⟩) 8 8) 8 (allC a0 a1 a2 a3 l k) := ownk.kept (row := none) ⟨hb2.os, hb2.tape, hb2.output, hb2.size, fun j hj _ => hb2.block j hj⟩ (by simp [Value.ownBlock])
      replace ownk := ownk1.alloc (.cells #[.int .i64 bw, .int .i64 bc, .int .i64 bs, .int .i64 bq, .string bd, .bool bg] 130)
      replace hb := boxed (behind hb hb2) (.cells #[.int .i64 bw, .int .i64 bc, .int .i64 bs, .int .i64 bq, .string bd, .bool bg] 130)
      have RB := RowL.new (w := w2) (T := 130) [.int .i64 bw, .int .i64 bc, .int .i64 bs, .int .i64 bq, .string bd, .bool bg] rfl
      clear hb2 ownk1
      have d3 := RB.cell 4 _ rfl
      clear RB
      by_cases he0 : re = 0
      · subst he0
        have TK : Hid (toldV a0 a1 a2 a3 l k = (⟨#[61]⟩ : ByteArray) ++ bd) := by show toldV a0 a1 a2 a3 l k = _; rw [TK0.out, if_pos rfl]
        have ad := fun w => addS (P := Tryz.prog) (⟨#[61]⟩ : ByteArray) bd (by have z : (⟨#[61]⟩ : ByteArray).size = 1 := rfl; omega) w
        have ev : errV 0 = .nilIface := rfl
        rw [ev]
        have cc := ownk.cellAt k (by omega)
        have cx : ∃ u, (allC a0 a1 a2 a3 l k)[k]? = some u := ⟨_, List.getElem?_eq_getElem (by simp [allC, toldC_length]; omega)⟩
        obtain ⟨ux, hux⟩ := cx
        rw [hux] at cc
        have ff := ownk.frozenAt k
        have ST := ownk.stored k (.string ((⟨#[61]⟩ : ByteArray) ++ bd))
        have hbl := RA.lt
        have RA9 := RA.grown ST.2 (by simp)
        have hb9 := hb.grown ST.2 (by have := hb.size; omega) (fun j e => by cases e; omega)
        have own9 : ((w2.alloc (.cells #[.int .i64 bw, .int .i64 bc, .int .i64 bs, .int .i64 bq, .string bd, .bool bg] 130)).setCell ⟨w.heap.size + 1, k, none⟩ (.string ((⟨#[61]⟩ : ByteArray) ++ bd))).ownsRow w.heap.size 9 1 (.slice (some ⟨w.heap.size + 1, 0, none⟩) 8 8) 8 (allC a0 a1 a2 a3 l (k + 1)) := by
          rw [← allC_set hlt, TK.out]
          exact ST.1
        clear TK0 hux ST ownk
        go_wp2_with fail
        go_roundw
        case rel => exact ⟨k + 1, z + 1, by omega, by have := HZ.out; omega, by go_num, own9, RA9, hb9⟩
        case measure => simp [intOf]; have := HZ.out; omega
      · have ev : errV re = .iface 26 (.int .i64 re) := by unfold errV; rw [if_neg he0]
        rw [ev]
        have TK : Hid (toldV a0 a1 a2 a3 l k = ⟨#[]⟩) := by show toldV a0 a1 a2 a3 l k = _; rw [TK0.out, if_neg he0]
        have own9 : (w2.alloc (.cells #[.int .i64 bw, .int .i64 bc, .int .i64 bs, .int .i64 bq, .string bd, .bool bg] 130)).ownsRow w.heap.size 9 1 (.slice (some ⟨w.heap.size + 1, 0, none⟩) 8 8) 8 (allC a0 a1 a2 a3 l (k + 1)) := by
          rw [← allC_keep hlt TK.out]
          exact ownk
        clear TK0 ownk ev
        go_wp2_with fail
        go_roundw
        case rel => exact ⟨k + 1, z + 1, by omega, by have := HZ.out; omega, by go_num, own9, RA, hb⟩
        case measure => simp [intOf]; have := HZ.out; omega
    · obtain rfl : k = 8 := by omega
      have h1 : ¬ z < 8 := by omega
      clear hz
      have own9 : wr.ownsRow w.heap.size 9 1 (.slice (some ⟨w.heap.size + 1, 0, none⟩) 8 8) 8 (toldC a0 a1 a2 a3 l 8) := by
        have e : allC a0 a1 a2 a3 l 8 = toldC a0 a1 a2 a3 l 8 := by unfold allC; simp
        rw [← e]
        exact ownk
      clear ownk
      go_wp2_with fail
      go_ret
      exact ⟨_, rfl, own9, hb⟩
end Go.Proofs.YtoanjdndmlffdaaGreatDoor
