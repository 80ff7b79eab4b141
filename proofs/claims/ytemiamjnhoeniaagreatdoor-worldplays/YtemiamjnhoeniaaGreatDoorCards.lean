/-
  DERIVED. GIVEN WITH THE SEED: THE CARDS: each row of YtemiamjnhoeniaaGreatDoorRows.lean that lists a variable, with what it lists TIED to the program's text (the seventh form; the later family's looks); each row that meets fmt, with fmt's text TOLD by the authors' own Lean function (tested against real Go, not proved from fmt's source: count such statements apart). THE CARD IS WHAT COUNTS. Prove the row's statement (the work); the ties are given (YtemiamjnhoeniaaGreatDoorTie.lean); close each card by the builder's one call (the guide's Derived/Test/ToyasCard.lean, 'card_holds'). Laid BY PROGRAM, IN A SANDBOX (cutbox-door.mjs). By AI agents, Wed Nov 11 2026. No macro, syntax, notation, axiom, sorry.
-/
import Derived.Test.YtemiamjnhoeniaaGreatDoorRows
import GoSem.ClaimSeven
namespace Go.Proofs.YtemiamjnhoeniaaGreatDoor
namespace Rows

/-- THE TIED CARD OF 'copselaw.WorldPlays'. -/
def worldPlaysCard : Claim7 := { stood := { row := worldPlaysRow, standIns := [], harness := (true, "44487707cb6e0cc6196e7244b63cc601322244607b1d74d2fb035d54487db801"), looks := true }, kinds := [], alts := [], laidByText := true, laidKinds := [.handle], laidTests := true, laidLooks := .later }
def WorldPlaysCardSaid : Prop := Claim7.holds Tryz.pinned (.plain (OpenSpec.ofChange worldPlaysSpec)) worldPlaysCard

/-- THE TIED CARD OF 'copsekeep.WorldCausal'. -/
def worldCausalCard : Claim7 := { stood := { row := worldCausalRow, standIns := [], harness := (true, "44487707cb6e0cc6196e7244b63cc601322244607b1d74d2fb035d54487db801"), looks := true }, kinds := [], alts := [], laidByText := true, laidKinds := [.handle], laidTests := true, laidLooks := .later }
def WorldCausalCardSaid : Prop := Claim7.holds Tryz.pinned (.plain (OpenSpec.ofChange worldCausalSpec)) worldCausalCard

/-- THE TIED CARD OF 'copsekeep.WorldMeets'. -/
def worldMeetsCard : Claim7 := { stood := { row := worldMeetsRow, standIns := [], harness := (true, "44487707cb6e0cc6196e7244b63cc601322244607b1d74d2fb035d54487db801"), looks := true }, kinds := [], alts := [], laidByText := true, laidKinds := [.handle], laidTests := true, laidLooks := .later }
def WorldMeetsCardSaid : Prop := Claim7.holds Tryz.pinned (.plain (OpenSpec.ofChange worldMeetsSpec)) worldMeetsCard

/-- THE TIED CARD OF 'copsekeep.WorldSwept'. -/
def worldSweptCard : Claim7 := { stood := { row := worldSweptRow, standIns := [], harness := (true, "44487707cb6e0cc6196e7244b63cc601322244607b1d74d2fb035d54487db801"), looks := true }, kinds := [], alts := [], laidByText := true, laidKinds := [.handle], laidTests := true, laidLooks := .later }
def WorldSweptCardSaid : Prop := Claim7.holds Tryz.pinned (.plain (OpenSpec.ofChange worldSweptSpec)) worldSweptCard

/-- THE SECOND FORM's CARD OF 'copselaw.WorldPlays'. -/
def worldPlaysUptoCard : Claim7 := { stood := { row := worldPlaysUptoRow, standIns := [], harness := (true, "44487707cb6e0cc6196e7244b63cc601322244607b1d74d2fb035d54487db801"), looks := true }, kinds := [], alts := [], laidByText := true, laidKinds := [.handle], laidTests := true, laidLooks := .later }
def WorldPlaysUptoCardSaid : Prop := Claim7.holds Tryz.pinned (.plain (OpenSpec.upto worldPlaysSpec)) worldPlaysUptoCard

/-- THE SECOND FORM's CARD OF 'copsekeep.WorldCausal'. -/
def worldCausalUptoCard : Claim7 := { stood := { row := worldCausalUptoRow, standIns := [], harness := (true, "44487707cb6e0cc6196e7244b63cc601322244607b1d74d2fb035d54487db801"), looks := true }, kinds := [], alts := [], laidByText := true, laidKinds := [.handle], laidTests := true, laidLooks := .later }
def WorldCausalUptoCardSaid : Prop := Claim7.holds Tryz.pinned (.plain (OpenSpec.upto worldCausalSpec)) worldCausalUptoCard

/-- THE SECOND FORM's CARD OF 'copsekeep.WorldMeets'. -/
def worldMeetsUptoCard : Claim7 := { stood := { row := worldMeetsUptoRow, standIns := [], harness := (true, "44487707cb6e0cc6196e7244b63cc601322244607b1d74d2fb035d54487db801"), looks := true }, kinds := [], alts := [], laidByText := true, laidKinds := [.handle], laidTests := true, laidLooks := .later }
def WorldMeetsUptoCardSaid : Prop := Claim7.holds Tryz.pinned (.plain (OpenSpec.upto worldMeetsSpec)) worldMeetsUptoCard

/-- THE SECOND FORM's CARD OF 'copsekeep.WorldSwept'. -/
def worldSweptUptoCard : Claim7 := { stood := { row := worldSweptUptoRow, standIns := [], harness := (true, "44487707cb6e0cc6196e7244b63cc601322244607b1d74d2fb035d54487db801"), looks := true }, kinds := [], alts := [], laidByText := true, laidKinds := [.handle], laidTests := true, laidLooks := .later }
def WorldSweptUptoCardSaid : Prop := Claim7.holds Tryz.pinned (.plain (OpenSpec.upto worldSweptSpec)) worldSweptUptoCard
end Rows
end Go.Proofs.YtemiamjnhoeniaaGreatDoor
