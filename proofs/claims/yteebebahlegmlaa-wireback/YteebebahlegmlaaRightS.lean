/-
  What Right of package clock does, as the model runs it.
-/
import Derived.Test.YteebebahlegmlaaChecked
import Derived.Test.YteebebahlegmlaaPlain
import Derived.WalkKit
import Derived.WalkSpells
import Derived.WalkLawsBesides
import Derived.Test.YteebebahlegmlaaLater
import Derived.LoopN
namespace Go.Proofs.Yteebebahlegmlaa
open Go.RowKit

set_option maxHeartbeats 400000 in
theorem isTime_any (n : Int) (w : World) :
    Calls Try.prog 28 #[.int .i64 n] w fun e w' => e = .returned (.bool (timeB n)) ∧ w' = w := by
  by_cases h0 : 0 ≤ n
  · by_cases h1 : n ≤ 1099511627776
    · rw [timeB_true h0 h1]
      go_enter Try.func28, Try.ntmps28
      go_wp2
      go_ret
      exact ⟨rfl, rfl⟩
    · have e : timeB n = false := by simp [timeB, h1]
      rw [e]
      go_enter Try.func28, Try.ntmps28
      go_wp2
      go_ret
      exact ⟨rfl, rfl⟩
  · have e : timeB n = false := by simp [timeB, h0]
    rw [e]
    go_enter Try.func28, Try.ntmps28
    go_wp2
    go_ret
    exact ⟨rfl, rfl⟩

set_option maxHeartbeats 400000 in
theorem right_any (x c : Int) (w : World) :
    Calls Try.prog 10 #[.agg #[.int .i64 x, .int .i64 c]] w fun e w' => e = .returned (.bool (timeB x && timeB c)) ∧ Below w.heap.size w w' := by
  by_cases h : timeB x = true
  · rw [h]
    go_enter Try.func10, Try.ntmps10
    go_wp2_with (go_at_call 28; refine (isTime_any _ _).mono ?_; rintro e w' ⟨rfl, rfl⟩)
    go_ret
    exact ⟨by simp, (Below.refl _ _).alloc (Nat.le_refl _) _⟩
  · have h' : timeB x = false := by simpa using h
    rw [h']
    go_enter Try.func10, Try.ntmps10
    go_wp2_with (go_at_call 28; refine (isTime_any _ _).mono ?_; rintro e w' ⟨rfl, rfl⟩)
    go_ret
    exact ⟨by simp, (Below.refl _ _).alloc (Nat.le_refl _) _⟩

end Go.Proofs.Yteebebahlegmlaa
