/-
  What the document's own RightStamp does, as the model runs it (package copseref).
-/
import Derived.Test.YtnbgjiibpnoieaaDoorChecked
import Derived.Test.YtnbgjiibpnoieaaDoorPlain
import Derived.WalkKit
import Derived.WalkSpells
import Derived.WalkLawsBesides
import Derived.Test.YtnbgjiibpnoieaaDoorLater
import Derived.LoopN
import Derived.Test.YtnbgjiibpnoieaaDoorRefIn
namespace Go.Proofs.YtnbgjiibpnoieaaDoor
open Go.RowKit

set_option maxHeartbeats 400000 in
theorem refRight_any (x c : Int) (w : World) :
    Calls Tryd.prog 13 #[.agg #[.int .i64 x, .int .i64 c]] w fun e w' => e = .returned (.bool (timeB x && timeB c)) ∧ Below w.heap.size w w' := by
  by_cases h : timeB x = true
  · rw [h]
    go_enter Tryd.func13, Tryd.ntmps13
    go_wp2_with (go_at_call 44; refine (in_any _ _).mono ?_; rintro e w' ⟨rfl, rfl⟩)
    go_ret
    exact ⟨by simp, boxed (Below.refl _ _) _⟩
  · have h' : timeB x = false := by simpa using h
    rw [h']
    go_enter Tryd.func13, Tryd.ntmps13
    go_wp2_with (go_at_call 44; refine (in_any _ _).mono ?_; rintro e w' ⟨rfl, rfl⟩)
    go_ret
    exact ⟨by simp, boxed (Below.refl _ _) _⟩

/-- the same, where the answer is known -/
theorem refRight_is {x c : Int} {v : Bool} (h : (timeB x && timeB c) = v) (w : World) :
    Calls Tryd.prog 13 #[.agg #[.int .i64 x, .int .i64 c]] w fun e w' => e = .returned (.bool v) ∧ Below w.heap.size w w' := by
  subst h
  exact refRight_any x c w

end Go.Proofs.YtnbgjiibpnoieaaDoor
