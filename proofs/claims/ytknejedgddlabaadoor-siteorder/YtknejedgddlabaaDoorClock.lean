/-
  What each function of package clock does, as the model runs it: contracts, leaves first.
-/
import Derived.Test.YtknejedgddlabaaDoorChecked
import Derived.Test.YtknejedgddlabaaDoorSiteA
import Derived.WalkKit
import Derived.WalkSpells
import Derived.WalkLawsBesides
namespace Go.Proofs.YtknejedgddlabaaDoor
open Go.RowKit

set_option maxHeartbeats 400000 in
theorem isNaN_any (x : Int) (w : World) :
    Calls Tryd.prog 92 #[.int .i64 x] w fun e w' => e = .returned (.bool false) ∧ w' = w := by
  go_enter Tryd.func92, Tryd.ntmps92
  go_wp2
  go_ret
  exact ⟨by simp, rfl⟩

set_option maxHeartbeats 400000 in
theorem cmp_any (x y : Int) (w : World) :
    Calls Tryd.prog 57 #[.int .i64 x, .int .i64 y] w fun e w' => e = .returned (.int .i64 (cmpZ x y)) ∧ w' = w := by
  rcases Int.lt_trichotomy x y with h | h | h
  · rw [cmpZ_lt h]
    go_enter Tryd.func57, Tryd.ntmps57
    go_wp2_with (go_at_call 92; refine (isNaN_any _ _).mono ?_; rintro e w' ⟨rfl, rfl⟩)
    go_ret
    exact ⟨rfl, rfl⟩
  · subst h
    rw [cmpZ_eq]
    go_enter Tryd.func57, Tryd.ntmps57
    go_wp2_with (go_at_call 92; refine (isNaN_any _ _).mono ?_; rintro e w' ⟨rfl, rfl⟩)
    go_ret
    exact ⟨rfl, rfl⟩
  · rw [cmpZ_gt h]
    have h' : ¬ x < y := by omega
    go_enter Tryd.func57, Tryd.ntmps57
    go_wp2_with (go_at_call 92; refine (isNaN_any _ _).mono ?_; rintro e w' ⟨rfl, rfl⟩)
    go_ret
    exact ⟨rfl, rfl⟩

set_option maxHeartbeats 400000 in
theorem compare_any (aw ac bw bc : Int) (w : World) :
    Calls Tryd.prog 15 #[.agg #[.int .i64 aw, .int .i64 ac], .agg #[.int .i64 bw, .int .i64 bc]] w fun e w' => e = .returned (.int .i64 (cmpS aw ac bw bc)) ∧ Below w.heap.size w w' := by
  by_cases h : cmpZ aw bw = 0
  · have e : cmpS aw ac bw bc = cmpZ ac bc := by simp [cmpS, h]
    rw [e]
    have hb : (cmpZ aw bw == 0) = true := by simp [h]
    clear h
    go_enter Tryd.func15, Tryd.ntmps15
    go_wp2_with (go_at_call 57; refine (cmp_any _ _ _).mono ?_; rintro e w' ⟨rfl, rfl⟩)
    go_ret
    exact ⟨rfl, ((Below.refl _ _).alloc (Nat.le_refl _) _).alloc (by simp) _⟩
  · have e : cmpS aw ac bw bc = cmpZ aw bw := by simp [cmpS, h]
    rw [e]
    have hb : (cmpZ aw bw == 0) = false := by simp [h]
    clear h
    go_enter Tryd.func15, Tryd.ntmps15
    go_wp2_with (go_at_call 57; refine (cmp_any _ _ _).mono ?_; rintro e w' ⟨rfl, rfl⟩)
    go_ret
    exact ⟨rfl, ((Below.refl _ _).alloc (Nat.le_refl _) _).alloc (by simp) _⟩

set_option maxHeartbeats 400000 in
theorem later_b (aw ac bw bc : Int) (w : World) (h : cmpS aw ac bw bc < 0) :
    Calls Tryd.prog 16 #[.agg #[.int .i64 aw, .int .i64 ac], .agg #[.int .i64 bw, .int .i64 bc]] w fun e w' => e = .returned (.agg #[.int .i64 bw, .int .i64 bc]) ∧ Below w.heap.size w w' := by
  go_enter Tryd.func16, Tryd.ntmps16
  go_wp2_with fail
  refine (compare_any _ _ _ _ _).mono ?_
  rintro e w1 ⟨rfl, hb⟩
  obtain ⟨hc, hf⟩ := bcell hb
  have hz : w.heap.size + 2 < w1.heap.size := by have := hb.size; simp at this; omega
  go_wp2
  exact bodyPost_ret (v := .agg #[.int .i64 bw, .int .i64 bc]) (by simp [results, Tryd.results16, go_sem, hc]) rfl ⟨rfl, ((below3 hb).setCell (by simp; omega) _).setCell (by simp; omega) _⟩

set_option maxHeartbeats 400000 in
theorem later_a (aw ac bw bc : Int) (w : World) (h : ¬ cmpS aw ac bw bc < 0) :
    Calls Tryd.prog 16 #[.agg #[.int .i64 aw, .int .i64 ac], .agg #[.int .i64 bw, .int .i64 bc]] w fun e w' => e = .returned (.agg #[.int .i64 aw, .int .i64 ac]) ∧ Below w.heap.size w w' := by
  go_enter Tryd.func16, Tryd.ntmps16
  go_wp2_with fail
  refine (compare_any _ _ _ _ _).mono ?_
  rintro e w1 ⟨rfl, hb⟩
  obtain ⟨hc, hf⟩ := bcell hb
  have hz : w.heap.size + 2 < w1.heap.size := by have := hb.size; simp at this; omega
  go_wp2
  exact bodyPost_ret (v := .agg #[.int .i64 aw, .int .i64 ac]) (by simp [results, Tryd.results16, go_sem, hc]) rfl ⟨rfl, ((below3 hb).setCell (by simp; omega) _).setCell (by simp; omega) _⟩

set_option maxHeartbeats 400000 in
theorem next_range1 (lw lc now : Int) (w : World) (h : (timeB lw && timeB lc) = false) :
    Calls Tryd.prog 10 #[.agg #[.int .i64 lw, .int .i64 lc], .int .i64 now] w fun e w' => e = .returned (.tuple #[.agg #[.int .i64 0, .int .i64 0], .iface 24 (.int .i64 2)]) ∧ Below w.heap.size w w' := by
  go_enter Tryd.func10, Tryd.ntmps10
  go_wp2_with fail
  refine (right_any _ _ _).mono ?_
  rintro e w1 ⟨rfl, hb⟩
  obtain ⟨hc, hf⟩ := bcell hb
  have hz : w.heap.size + 1 < w1.heap.size := by have := hb.size; simp at this; omega
  go_wp2_with (go_at_call 55; refine (isTime_any _ _).mono ?_; rintro e w' ⟨rfl, rfl⟩)
  exact bodyPost_ret (v := .tuple #[.agg #[.int .i64 0, .int .i64 0], .iface 24 (.int .i64 2)]) (by simp [results, Tryd.results10, go_sem, hc]) rfl ⟨rfl, ((below2 hb).setCell (by simp) _).setCell (by simp) _⟩

set_option maxHeartbeats 400000 in
theorem next_range2 (lw lc now : Int) (w : World) (h : (timeB lw && timeB lc) = true) (h2 : timeB now = false) :
    Calls Tryd.prog 10 #[.agg #[.int .i64 lw, .int .i64 lc], .int .i64 now] w fun e w' => e = .returned (.tuple #[.agg #[.int .i64 0, .int .i64 0], .iface 24 (.int .i64 2)]) ∧ Below w.heap.size w w' := by
  go_enter Tryd.func10, Tryd.ntmps10
  go_wp2_with fail
  refine (right_any _ _ _).mono ?_
  rintro e w1 ⟨rfl, hb⟩
  obtain ⟨hc, hf⟩ := bcell hb
  have hz : w.heap.size + 1 < w1.heap.size := by have := hb.size; simp at this; omega
  go_wp2_with (go_at_call 55; refine (isTime_any _ _).mono ?_; rintro e w' ⟨rfl, rfl⟩)
  exact bodyPost_ret (v := .tuple #[.agg #[.int .i64 0, .int .i64 0], .iface 24 (.int .i64 2)]) (by simp [results, Tryd.results10, go_sem, hc]) rfl ⟨rfl, ((below2 hb).setCell (by simp) _).setCell (by simp) _⟩

set_option maxHeartbeats 400000 in
theorem next_wall (lw lc now : Int) (w : World) (h : (timeB lw && timeB lc) = true) (h2 : timeB now = true) (h3 : lw < now) :
    Calls Tryd.prog 10 #[.agg #[.int .i64 lw, .int .i64 lc], .int .i64 now] w fun e w' => e = .returned (.tuple #[.agg #[.int .i64 now, .int .i64 0], .nilIface]) ∧ Below w.heap.size w w' := by
  go_enter Tryd.func10, Tryd.ntmps10
  go_wp2_with fail
  refine (right_any _ _ _).mono ?_
  rintro e w1 ⟨rfl, hb⟩
  obtain ⟨hc, hf⟩ := bcell hb
  have hz : w.heap.size + 1 < w1.heap.size := by have := hb.size; simp at this; omega
  go_wp2_with (go_at_call 55; refine (isTime_any _ _).mono ?_; rintro e w' ⟨rfl, rfl⟩)
  exact bodyPost_ret (v := .tuple #[.agg #[.int .i64 now, .int .i64 0], .nilIface]) (by simp [results, Tryd.results10, go_sem, hc]) rfl ⟨rfl, ((below2 hb).setCell (by simp) _).setCell (by simp) _⟩

set_option maxHeartbeats 400000 in
theorem next_full (lw lc now : Int) (w : World) (h : (timeB lw && timeB lc) = true) (h2 : timeB now = true) (h3 : ¬ lw < now) (h4 : (lc == 1099511627776) = true) :
    Calls Tryd.prog 10 #[.agg #[.int .i64 lw, .int .i64 lc], .int .i64 now] w fun e w' => e = .returned (.tuple #[.agg #[.int .i64 0, .int .i64 0], .iface 24 (.int .i64 12)]) ∧ Below w.heap.size w w' := by
  go_enter Tryd.func10, Tryd.ntmps10
  go_wp2_with fail
  refine (right_any _ _ _).mono ?_
  rintro e w1 ⟨rfl, hb⟩
  obtain ⟨hc, hf⟩ := bcell hb
  have hz : w.heap.size + 1 < w1.heap.size := by have := hb.size; simp at this; omega
  go_wp2_with (go_at_call 55; refine (isTime_any _ _).mono ?_; rintro e w' ⟨rfl, rfl⟩)
  exact bodyPost_ret (v := .tuple #[.agg #[.int .i64 0, .int .i64 0], .iface 24 (.int .i64 12)]) (by simp [results, Tryd.results10, go_sem, hc]) rfl ⟨rfl, ((below2 hb).setCell (by simp) _).setCell (by simp) _⟩

set_option maxHeartbeats 400000 in
theorem next_count (lw lc now : Int) (w : World) (h : (timeB lw && timeB lc) = true) (h2 : timeB now = true) (h3 : ¬ lw < now) (h4 : (lc == 1099511627776) = false) (h5 : 0 ≤ lc) (h6 : lc < 1099511627776) :
    Calls Tryd.prog 10 #[.agg #[.int .i64 lw, .int .i64 lc], .int .i64 now] w fun e w' => e = .returned (.tuple #[.agg #[.int .i64 lw, .int .i64 (lc + 1)], .nilIface]) ∧ Below w.heap.size w w' := by
  go_enter Tryd.func10, Tryd.ntmps10
  go_wp2_with fail
  refine (right_any _ _ _).mono ?_
  rintro e w1 ⟨rfl, hb⟩
  obtain ⟨hc, hf⟩ := bcell hb
  have hz : w.heap.size + 1 < w1.heap.size := by have := hb.size; simp at this; omega
  go_wp2_with (go_at_call 55; refine (isTime_any _ _).mono ?_; rintro e w' ⟨rfl, rfl⟩)
  exact bodyPost_ret (v := .tuple #[.agg #[.int .i64 lw, .int .i64 (lc + 1)], .nilIface]) (by simp [results, Tryd.results10, go_sem, hc]) rfl ⟨rfl, ((below2 hb).setCell (by simp) _).setCell (by simp) _⟩

/-- six cells, and that nothing old has turned, are kept behind a call that leaves alone what lay below it -/
theorem keep6 {w w1 w2 : World} {p1 p2 p3 p4 p5 p6 : Addr} {v1 v2 v3 v4 v5 v6 : Value} (hb : Below w1.heap.size w1 w2)
    (h : Below w.heap.size w w1 ∧ w1.cell? p1 = some v1 ∧ w1.cell? p2 = some v2 ∧ w1.cell? p3 = some v3 ∧ w1.cell? p4 = some v4 ∧ w1.cell? p5 = some v5 ∧ w1.cell? p6 = some v6) :
    Below w.heap.size w w2 ∧ w2.cell? p1 = some v1 ∧ w2.cell? p2 = some v2 ∧ w2.cell? p3 = some v3 ∧ w2.cell? p4 = some v4 ∧ w2.cell? p5 = some v5 ∧ w2.cell? p6 = some v6 :=
  ⟨behind h.1 hb, cell_later hb h.2.1, cell_later hb h.2.2.1, cell_later hb h.2.2.2.1, cell_later hb h.2.2.2.2.1, cell_later hb h.2.2.2.2.2.1, cell_later hb h.2.2.2.2.2.2⟩

/-- WHAT Next GIVES, in two ways: a stamp that may be, behind the last one and no earlier than the wall; or an error. -/
theorem next_any (lw lc now : Int) (w : World) :
    Calls Tryd.prog 10 #[.agg #[.int .i64 lw, .int .i64 lc], .int .i64 now] w fun e w' => (∃ sw sc : Int, e = .returned (.tuple #[.agg #[.int .i64 sw, .int .i64 sc], .nilIface]) ∧ cmpS lw lc sw sc = -1 ∧ ¬ sw < now ∧ (timeB sw && timeB sc) = true ∧ Below w.heap.size w w') ∨ (∃ n : Int, e = .returned (.tuple #[.agg #[.int .i64 0, .int .i64 0], .iface 24 (.int .i64 n)]) ∧ Below w.heap.size w w') := by
  by_cases h : (timeB lw && timeB lc) = true
  · by_cases h2 : timeB now = true
    · by_cases h3 : lw < now
      · refine (next_wall lw lc now w h h2 h3).mono ?_
        rintro e w' ⟨he, hb⟩
        refine .inl ⟨now, 0, he, ?_, by omega, ?_, hb⟩
        · have := cmpS_cases lw lc now 0; omega
        · rw [h2]; rfl
      · by_cases h4 : lc = 1099511627776
        · refine (next_full lw lc now w h h2 h3 (by simp [h4])).mono ?_
          rintro e w' ⟨he, hb⟩
          exact .inr ⟨12, he, hb⟩
        · simp only [Bool.and_eq_true, timeB_iff] at h h2
          refine (next_count lw lc now w (by simp [timeB_iff]; omega) (by simp [timeB_iff]; omega) h3 (by simp [h4]) (by omega) (by omega)).mono ?_
          rintro e w' ⟨he, hb⟩
          refine .inl ⟨lw, lc + 1, he, ?_, by omega, ?_, hb⟩
          · have := cmpS_cases lw lc lw (lc + 1); omega
          · simp only [Bool.and_eq_true, timeB_iff]; omega
    · refine (next_range2 lw lc now w h (by simpa using h2)).mono ?_
      rintro e w' ⟨he, hb⟩
      exact .inr ⟨2, he, hb⟩
  · refine (next_range1 lw lc now w (by simpa using h)).mono ?_
    rintro e w' ⟨he, hb⟩
    exact .inr ⟨2, he, hb⟩

end Go.Proofs.YtknejedgddlabaaDoor
