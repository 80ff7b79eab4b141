/-
  What Right of package clock does, as the model runs it.
-/
import Derived.Test.YtnbgjiibpnoieaaDoorChecked
import Derived.Test.YtnbgjiibpnoieaaDoorPlain
import Derived.WalkKit
import Derived.WalkSpells
import Derived.WalkLawsBesides
import Derived.Test.YtnbgjiibpnoieaaDoorLater
import Derived.LoopN
namespace Go.Proofs.YtnbgjiibpnoieaaDoor
open Go.RowKit

set_option maxHeartbeats 400000 in
theorem isTime_any (n : Int) (w : World) :
    Calls Tryd.prog 45 #[.int .i64 n] w fun e w' => e = .returned (.bool (timeB n)) ∧ w' = w := by
  by_cases h0 : 0 ≤ n
  · by_cases h1 : n ≤ 1099511627776
    · rw [timeB_true h0 h1]
      go_enter Tryd.func45, Tryd.ntmps45
      go_wp2
      go_ret
      exact ⟨rfl, rfl⟩
    · have e : timeB n = false := by simp [timeB, h1]
      rw [e]
      go_enter Tryd.func45, Tryd.ntmps45
      go_wp2
      go_ret
      exact ⟨rfl, rfl⟩
  · have e : timeB n = false := by simp [timeB, h0]
    rw [e]
    go_enter Tryd.func45, Tryd.ntmps45
    go_wp2
    go_ret
    exact ⟨rfl, rfl⟩

set_option maxHeartbeats 400000 in
theorem right_any (x c : Int) (w : World) :
    Calls Tryd.prog 12 #[.agg #[.int .i64 x, .int .i64 c]] w fun e w' => e = .returned (.bool (timeB x && timeB c)) ∧ Below w.heap.size w w' := by
  by_cases h : timeB x = true
  · rw [h]
    go_enter Tryd.func12, Tryd.ntmps12
    go_wp2_with (go_at_call 45; refine (isTime_any _ _).mono ?_; rintro e w' ⟨rfl, rfl⟩)
    go_ret
    exact ⟨by simp, (Below.refl _ _).alloc (Nat.le_refl _) _⟩
  · have h' : timeB x = false := by simpa using h
    rw [h']
    go_enter Tryd.func12, Tryd.ntmps12
    go_wp2_with (go_at_call 45; refine (isTime_any _ _).mono ?_; rintro e w' ⟨rfl, rfl⟩)
    go_ret
    exact ⟨by simp, (Below.refl _ _).alloc (Nat.le_refl _) _⟩

end Go.Proofs.YtnbgjiibpnoieaaDoor
