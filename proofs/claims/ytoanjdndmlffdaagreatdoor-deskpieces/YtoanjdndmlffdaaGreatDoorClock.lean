import Derived.Test.YtoanjdndmlffdaaGreatDoorSiteA
namespace Go.Proofs.YtoanjdndmlffdaaGreatDoor
open Go.RowKit
set_option maxHeartbeats 400000 in
theorem isNaN_any (x : Int) (w : World) :
    Calls Tryz.prog 292 #[.int .i64 x] w fun e w' => e = .returned (.bool false) ∧ w' = w := by
  go_enter Tryz.func292, Tryz.ntmps292
  go_wp2
  go_ret
  exact ⟨by simp, rfl⟩

set_option maxHeartbeats 400000 in
theorem cmp_any (x y : Int) (w : World) :
    Calls Tryz.prog 289 #[.int .i64 x, .int .i64 y] w fun e w' => e = .returned (.int .i64 (cmpZ x y)) ∧ w' = w := by
  rcases Int.lt_trichotomy x y with h | h | h
  · rw [cmpZ_lt h]
    go_enter Tryz.func289, Tryz.ntmps289
    go_wp2_with (go_at_call 292; refine (isNaN_any _ _).mono ?_; rintro e w' ⟨rfl, rfl⟩)
    go_ret
    exact ⟨rfl, rfl⟩
  · subst h
    rw [cmpZ_eq]
    go_enter Tryz.func289, Tryz.ntmps289
    go_wp2_with (go_at_call 292; refine (isNaN_any _ _).mono ?_; rintro e w' ⟨rfl, rfl⟩)
    go_ret
    exact ⟨rfl, rfl⟩
  · rw [cmpZ_gt h]
    have h' : ¬ x < y := by omega
    go_enter Tryz.func289, Tryz.ntmps289
    go_wp2_with (go_at_call 292; refine (isNaN_any _ _).mono ?_; rintro e w' ⟨rfl, rfl⟩)
    go_ret
    exact ⟨rfl, rfl⟩

set_option maxHeartbeats 400000 in
theorem compare_any (aw ac bw bc : Int) (w : World) :
    Calls Tryz.prog 287 #[.agg #[.int .i64 aw, .int .i64 ac], .agg #[.int .i64 bw, .int .i64 bc]] w fun e w' => e = .returned (.int .i64 (cmpS aw ac bw bc)) ∧ Below w.heap.size w w' := by
  by_cases h : cmpZ aw bw = 0
  · have e : cmpS aw ac bw bc = cmpZ ac bc := by simp [cmpS, h]
    rw [e]
    have hb : (cmpZ aw bw == 0) = true := by simp [h]
    clear h
    go_enter Tryz.func287, Tryz.ntmps287
    go_wp2_with (go_at_call 289; refine (cmp_any _ _ _).mono ?_; rintro e w' ⟨rfl, rfl⟩)
    go_ret
    exact ⟨rfl, ((Below.refl _ _).alloc (Nat.le_refl _) _).alloc (by simp) _⟩
  · have e : cmpS aw ac bw bc = cmpZ aw bw := by simp [cmpS, h]
    rw [e]
    have hb : (cmpZ aw bw == 0) = false := by simp [h]
    clear h
    go_enter Tryz.func287, Tryz.ntmps287
    go_wp2_with (go_at_call 289; refine (cmp_any _ _ _).mono ?_; rintro e w' ⟨rfl, rfl⟩)
    go_ret
    exact ⟨rfl, ((Below.refl _ _).alloc (Nat.le_refl _) _).alloc (by simp) _⟩

set_option maxHeartbeats 400000 in
theorem later_b (aw ac bw bc : Int) (w : World) (h : cmpS aw ac bw bc < 0) :
    Calls Tryz.prog 273 #[.agg #[.int .i64 aw, .int .i64 ac], .agg #[.int .i64 bw, .int .i64 bc]] w fun e w' => e = .returned (.agg #[.int .i64 bw, .int .i64 bc]) ∧ Below w.heap.size w w' := by
  go_enter Tryz.func273, Tryz.ntmps273
  go_wp2_with fail
  refine (compare_any _ _ _ _ _).mono ?_
  rintro e w1 ⟨rfl, hb⟩
  obtain ⟨hc, hf⟩ := bcell hb
  have hz : w.heap.size + 2 < w1.heap.size := by have := hb.size; simp at this; omega
  go_wp2
  exact bodyPost_ret (v := .agg #[.int .i64 bw, .int .i64 bc]) (by simp [results, Tryz.results273, go_sem, hc]) rfl ⟨rfl, ((below3 hb).setCell (by simp; omega) _).setCell (by simp; omega) _⟩

set_option maxHeartbeats 400000 in
theorem later_a (aw ac bw bc : Int) (w : World) (h : ¬ cmpS aw ac bw bc < 0) :
    Calls Tryz.prog 273 #[.agg #[.int .i64 aw, .int .i64 ac], .agg #[.int .i64 bw, .int .i64 bc]] w fun e w' => e = .returned (.agg #[.int .i64 aw, .int .i64 ac]) ∧ Below w.heap.size w w' := by
  go_enter Tryz.func273, Tryz.ntmps273
  go_wp2_with fail
  refine (compare_any _ _ _ _ _).mono ?_
  rintro e w1 ⟨rfl, hb⟩
  obtain ⟨hc, hf⟩ := bcell hb
  have hz : w.heap.size + 2 < w1.heap.size := by have := hb.size; simp at this; omega
  go_wp2
  exact bodyPost_ret (v := .agg #[.int .i64 aw, .int .i64 ac]) (by simp [results, Tryz.results273, go_sem, hc]) rfl ⟨rfl, ((below3 hb).setCell (by simp; omega) _).setCell (by simp; omega) _⟩

set_option maxHeartbeats 400000 in
theorem next_range1 (lw lc now : Int) (w : World) (h : (timeB lw && timeB lc) = false) :
    Calls Tryz.prog 243 #[.agg #[.int .i64 lw, .int .i64 lc], .int .i64 now] w fun e w' => e = .returned (.tuple #[.agg #[.int .i64 0, .int .i64 0], .iface 26 (.int .i64 2)]) ∧ Below w.heap.size w w' := by
  go_enter Tryz.func243, Tryz.ntmps243
  go_wp2_with fail
  refine (right_any _ _ _).mono ?_
  rintro e w1 ⟨rfl, hb⟩
  obtain ⟨hc, hf⟩ := bcell hb
  have hz : w.heap.size + 1 < w1.heap.size := by have := hb.size; simp at this; omega
  go_wp2_with (go_at_call 271; refine (isTime_any _ _).mono ?_; rintro e w' ⟨rfl, rfl⟩)
  exact bodyPost_ret (v := .tuple #[.agg #[.int .i64 0, .int .i64 0], .iface 26 (.int .i64 2)]) (by simp [results, Tryz.results243, go_sem, hc]) rfl ⟨rfl, ((below2 hb).setCell (by simp) _).setCell (by simp) _⟩

set_option maxHeartbeats 400000 in
theorem next_range2 (lw lc now : Int) (w : World) (h : (timeB lw && timeB lc) = true) (h2 : timeB now = false) :
    Calls Tryz.prog 243 #[.agg #[.int .i64 lw, .int .i64 lc], .int .i64 now] w fun e w' => e = .returned (.tuple #[.agg #[.int .i64 0, .int .i64 0], .iface 26 (.int .i64 2)]) ∧ Below w.heap.size w w' := by
  go_enter Tryz.func243, Tryz.ntmps243
  go_wp2_with fail
  refine (right_any _ _ _).mono ?_
  rintro e w1 ⟨rfl, hb⟩
  obtain ⟨hc, hf⟩ := bcell hb
  have hz : w.heap.size + 1 < w1.heap.size := by have := hb.size; simp at this; omega
  go_wp2_with (go_at_call 271; refine (isTime_any _ _).mono ?_; rintro e w' ⟨rfl, rfl⟩)
  exact bodyPost_ret (v := .tuple #[.agg #[.int .i64 0, .int .i64 0], .iface 26 (.int .i64 2)]) (by simp [results, Tryz.results243, go_sem, hc]) rfl ⟨rfl, ((below2 hb).setCell (by simp) _).setCell (by simp) _⟩

set_option maxHeartbeats 400000 in
theorem next_wall (lw lc now : Int) (w : World) (h : (timeB lw && timeB lc) = true) (h2 : timeB now = true) (h3 : lw < now) :
    Calls Tryz.prog 243 #[.agg #[.int .i64 lw, .int .i64 lc], .int .i64 now] w fun e w' => e = .returned (.tuple #[.agg #[.int .i64 now, .int .i64 0], .nilIface]) ∧ Below w.heap.size w w' := by
  go_enter Tryz.func243, Tryz.ntmps243
  go_wp2_with fail
  refine (right_any _ _ _).mono ?_
  rintro e w1 ⟨rfl, hb⟩
  obtain ⟨hc, hf⟩ := bcell hb
  have hz : w.heap.size + 1 < w1.heap.size := by have := hb.size; simp at this; omega
  go_wp2_with (go_at_call 271; refine (isTime_any _ _).mono ?_; rintro e w' ⟨rfl, rfl⟩)
  exact bodyPost_ret (v := .tuple #[.agg #[.int .i64 now, .int .i64 0], .nilIface]) (by simp [results, Tryz.results243, go_sem, hc]) rfl ⟨rfl, ((below2 hb).setCell (by simp) _).setCell (by simp) _⟩

set_option maxHeartbeats 400000 in
theorem next_full (lw lc now : Int) (w : World) (h : (timeB lw && timeB lc) = true) (h2 : timeB now = true) (h3 : ¬ lw < now) (h4 : (lc == 1099511627776) = true) :
    Calls Tryz.prog 243 #[.agg #[.int .i64 lw, .int .i64 lc], .int .i64 now] w fun e w' => e = .returned (.tuple #[.agg #[.int .i64 0, .int .i64 0], .iface 26 (.int .i64 12)]) ∧ Below w.heap.size w w' := by
  go_enter Tryz.func243, Tryz.ntmps243
  go_wp2_with fail
  refine (right_any _ _ _).mono ?_
  rintro e w1 ⟨rfl, hb⟩
  obtain ⟨hc, hf⟩ := bcell hb
  have hz : w.heap.size + 1 < w1.heap.size := by have := hb.size; simp at this; omega
  go_wp2_with (go_at_call 271; refine (isTime_any _ _).mono ?_; rintro e w' ⟨rfl, rfl⟩)
  exact bodyPost_ret (v := .tuple #[.agg #[.int .i64 0, .int .i64 0], .iface 26 (.int .i64 12)]) (by simp [results, Tryz.results243, go_sem, hc]) rfl ⟨rfl, ((below2 hb).setCell (by simp) _).setCell (by simp) _⟩

set_option maxHeartbeats 400000 in
theorem next_count (lw lc now : Int) (w : World) (h : (timeB lw && timeB lc) = true) (h2 : timeB now = true) (h3 : ¬ lw < now) (h4 : (lc == 1099511627776) = false) (h5 : 0 ≤ lc) (h6 : lc < 1099511627776) :
    Calls Tryz.prog 243 #[.agg #[.int .i64 lw, .int .i64 lc], .int .i64 now] w fun e w' => e = .returned (.tuple #[.agg #[.int .i64 lw, .int .i64 (lc + 1)], .nilIface]) ∧ Below w.heap.size w w' := by
  go_enter Tryz.func243, Tryz.ntmps243
  go_wp2_with fail
  refine (right_any _ _ _).mono ?_
  rintro e w1 ⟨rfl, hb⟩
  obtain ⟨hc, hf⟩ := bcell hb
  have hz : w.heap.size + 1 < w1.heap.size := by have := hb.size; simp at this; omega
  go_wp2_with (go_at_call 271; refine (isTime_any _ _).mono ?_; rintro e w' ⟨rfl, rfl⟩)
  exact bodyPost_ret (v := .tuple #[.agg #[.int .i64 lw, .int .i64 (lc + 1)], .nilIface]) (by simp [results, Tryz.results243, go_sem, hc]) rfl ⟨rfl, ((below2 hb).setCell (by simp) _).setCell (by simp) _⟩
end Go.Proofs.YtoanjdndmlffdaaGreatDoor
