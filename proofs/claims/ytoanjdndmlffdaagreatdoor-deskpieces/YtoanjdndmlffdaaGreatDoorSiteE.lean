import Derived.Test.YtoanjdndmlffdaaGreatDoorPSmall
import Derived.Test.YtoanjdndmlffdaaGreatDoorPgRead
namespace Go.Proofs.YtoanjdndmlffdaaGreatDoor
open Go.RowKit
section
theorem wrap_next {x : Int} (h : small x) : wrap64 (x + 1) = x + 1 := by
  obtain ⟨h0, h1⟩ := h
  unfold wrap64
  omega
set_option maxRecDepth 100000 in
set_option maxHeartbeats 8000000 in
theorem isReady_any {b : Nat} {lv : Value} {bm : Nat} {F : Nat → Prop} {S : SiteS} {log waits : List TxM} {v : Bool} (m : TxM) (w : World) (h : PMem w b lv bm F S log waits) (h0 : 0 ≤ m.t.site) (h3 : m.t.site ≤ 3) (hd : small (depOf m.t.site S.a0 S.a1 S.a2 S.a3)) (hv : readyS S m.t = v) :
    Calls Tryz.prog 254 #[.pointer (some ⟨b, 0, none⟩), txV m] w fun e w' => e = .returned (.bool v) ∧ Below w.heap.size w w' := by
  obtain ⟨⟨site, seq, wall, count, d0, d1, d2, d3, ws⟩, a, cap⟩ := m
  simp only at h0 h3 hd hv
  have hb := boxed (Below.refl _ w) (.cells #[.int .i64 site, .int .i64 seq, .int .i64 wall, .int .i64 count, .int .i64 d0, .int .i64 d1, .int .i64 d2, .int .i64 d3, .slice a ws.length cap] 102)
  have RB := RowL.new (w := w) (T := 102) [.int .i64 site, .int .i64 seq, .int .i64 wall, .int .i64 count, .int .i64 d0, .int .i64 d1, .int .i64 d2, .int .i64 d3, .slice a ws.length cap] rfl
  have hne := Later.one
  have PM := h.later hb
  have t0 := Later.cell (RB.cell 0 _ rfl)
  have t1 := Later.cell (RB.cell 1 _ rfl)
  have t4 := Later.cell (RB.cell 4 _ rfl)
  have t5 := Later.cell (RB.cell 5 _ rfl)
  have t6 := Later.cell (RB.cell 6 _ rfl)
  have t7 := Later.cell (RB.cell 7 _ rfl)
  have k1 := Later.cell (PM.box.cell 1 _ rfl)
  have k2 := Later.cell (PM.box.cell 2 _ rfl)
  have k3 := Later.cell (PM.box.cell 3 _ rfl)
  have k4 := Later.cell (PM.box.cell 4 _ rfl)
  have ks := Later.cell (PM.box.cell _ _ (app_at h0 h3))
  have HR : readyS S ⟨site, seq, wall, count, d0, d1, d2, d3, ws⟩ = (decide (seq = depOf site S.a0 S.a1 S.a2 S.a3 + 1) && covB S.a0 S.a1 S.a2 S.a3 d0 d1 d2 d3) := rfl
  obtain ⟨D, hD⟩ : ∃ D, depOf site S.a0 S.a1 S.a2 S.a3 = D := ⟨_, rfl⟩
  rw [hD] at ks hd HR
  rw [HR] at hv
  have hw : wrap64 (D + 1) = D + 1 := wrap_next hd
  clear HR h PM RB hD
  show Calls Tryz.prog 254 #[.pointer (some ⟨b, 0, none⟩), .agg #[.int .i64 site, .int .i64 seq, .int .i64 wall, .int .i64 count, .int .i64 d0, .int .i64 d1, .int .i64 d2, .int .i64 d3, .slice a ws.length cap]] w _
  by_cases hq : seq = D + 1
  · have q1 : (seq == D + 1) = true := by simp [hq]
    have q2 : decide (seq = D + 1) = true := by simp [hq]
    have HC : Hid (covB S.a0 S.a1 S.a2 S.a3 d0 d1 d2 d3 = v) := by
      show _ = _
      rw [q2] at hv
      simpa using hv
    clear hv hd hq
    go_enter Tryz.func254, Tryz.ntmps254
    go_wp2_with fail
    refine wp_region_later (by kernel_rfl) (by kernel_rfl) ?_
    repeat (go_big_quiet_step (first | rfl | (go_at_call 205; with_reducible exact calls_later (covers_is HC.out _))))
    refine wpQuiet_nil ?_
    rintro w2 ⟨⟨_, hb2⟩, rfl⟩
    go_wp2_with fail
    go_ret
    exact ⟨rfl, behind hb hb2⟩
  · have q1 : (seq == D + 1) = false := by simp [hq]
    have q2 : decide (seq = D + 1) = false := by simp [hq]
    have HV : Hid (false = v) := by
      show _ = _
      rw [q2] at hv
      simpa using hv
    clear hv hd hq
    go_enter Tryz.func254, Tryz.ntmps254
    go_wp2_with fail
    refine wp_region_later (by kernel_rfl) (by kernel_rfl) ?_
    repeat (go_big_quiet_step (first | rfl | fail))
    refine wpQuiet_nil ?_
    rintro w2 ⟨⟨_, hb2⟩, rfl⟩
    go_wp2_with fail
    go_ret
    exact ⟨by rw [← HV.out]; rfl, behind hb hb2⟩
end
/-- the first k told, the others still empty -/
def allC (a0 a1 a2 a3 : Int) (l : List Hd) (k : Nat) : List Value := toldC a0 a1 a2 a3 l k ++ List.replicate (8 - k) (.string ⟨#[]⟩)
theorem toldC_length (a0 a1 a2 a3 : Int) (l : List Hd) (k : Nat) : (toldC a0 a1 a2 a3 l k).length = k := by simp [toldC]
theorem allC_set {a0 a1 a2 a3 : Int} {l : List Hd} {k : Nat} (hk : k < 8) : (allC a0 a1 a2 a3 l k).set k (.string (toldV a0 a1 a2 a3 l k)) = allC a0 a1 a2 a3 l (k + 1) := by
  unfold allC
  rw [List.set_append_right _ _ (by rw [toldC_length]; omega), toldC_length, Nat.sub_self, toldC_succ, show 8 - k = 8 - (k + 1) + 1 by omega, List.replicate_succ, List.set_cons_zero, List.append_assoc]
  rfl
theorem allC_keep {a0 a1 a2 a3 : Int} {l : List Hd} {k : Nat} (hk : k < 8) (h : toldV a0 a1 a2 a3 l k = ⟨#[]⟩) : allC a0 a1 a2 a3 l k = allC a0 a1 a2 a3 l (k + 1) := by
  unfold allC
  rw [toldC_succ, h, show 8 - k = 8 - (k + 1) + 1 by omega, List.replicate_succ, List.append_assoc]
  rfl
end Go.Proofs.YtoanjdndmlffdaaGreatDoor
