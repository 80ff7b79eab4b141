/-
  Errors that are the same: of the program, of the document.
-/
import Derived.Test.YtnbgjiibpnoieaaDoorBareE
namespace Go.Proofs.YtnbgjiibpnoieaaDoor
open Go.RowKit

/-- the error of both is the same one -/
def SameErr (ev : Value) (n : Int) : Prop := ∀ w : World, w.cell? ⟨0, 0, none⟩ = some (.iface 157 (.agg #[.pointer (some ⟨1, 28, none⟩)])) →
    Calls Tryd.prog 11 #[ev, .int .i64 n] w fun e w' => e = .returned (.bool true) ∧ Below w.heap.size w w'
theorem sameErr_nil : SameErr .nilIface 0 := fun w _ => bare_nil w
theorem sameErr_no (n : Int) : SameErr (.iface 24 (.int .i64 n)) n := fun w hg => bare_errno n w hg

end Go.Proofs.YtnbgjiibpnoieaaDoor
