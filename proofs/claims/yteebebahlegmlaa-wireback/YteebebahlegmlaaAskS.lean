/-
  An ask's bytes; no Go in sight.
-/
import Derived.Test.YteebebahlegmlaaBytes
namespace Go.Proofs.Yteebebahlegmlaa

/-- an ask's bytes -/
def askS (site a0 a1 a2 a3 : Int) : ByteArray := (⟨#[97]⟩ : ByteArray) ++ numS 5 site ++ numS 5 a0 ++ numS 5 a1 ++ numS 5 a2 ++ numS 5 a3

end Go.Proofs.Yteebebahlegmlaa
