/-
  DERIVED. GIVEN WITH THE SEED: THE CARDS: each row of YtpncedpfoakfkaaGreatDoorRows.lean that lists a variable, with what it lists TIED to the program's text (the seventh form; the later family's looks); each row that meets fmt, with fmt's text TOLD by the authors' own Lean function (tested against real Go, not proved from fmt's source: count such statements apart). THE CARD IS WHAT COUNTS. Prove the row's statement (the work); the ties are given (YtpncedpfoakfkaaGreatDoorTie.lean); close each card by the builder's one call (the guide's Derived/Test/ToyasCard.lean, 'card_holds'). Laid BY PROGRAM, IN A SANDBOX (cutbox-door.mjs). By AI agents, Wed Nov 11 2026. No macro, syntax, notation, axiom, sorry.
-/
import Derived.Test.YtpncedpfoakfkaaGreatDoorRows
import GoSem.ClaimSeven
namespace Go.Proofs.YtpncedpfoakfkaaGreatDoor
namespace Rows

/-- THE TIED CARD OF 'copselaw.SitePlays'. -/
def sitePlaysCard : Claim7 := { stood := { row := sitePlaysRow, standIns := [], harness := (true, "a1fa4aefe61405e0834e8f69a45d657ad0962003100c8e4b3df98344675d7ea5"), looks := true }, kinds := [], alts := [], laidByText := true, laidKinds := [.handle], laidTests := true, laidLooks := .later }
def SitePlaysCardSaid : Prop := Claim7.holds Tryz.pinned (.plain (OpenSpec.ofChange sitePlaysSpec)) sitePlaysCard

/-- THE TIED CARD OF 'copselaw.SessionPlays'. -/
def sessionPlaysCard : Claim7 := { stood := { row := sessionPlaysRow, standIns := [], harness := (true, "a1fa4aefe61405e0834e8f69a45d657ad0962003100c8e4b3df98344675d7ea5"), looks := true }, kinds := [], alts := [], laidByText := true, laidKinds := [.handle], laidTests := true, laidLooks := .later }
def SessionPlaysCardSaid : Prop := Claim7.holds Tryz.pinned (.plain (OpenSpec.ofChange sessionPlaysSpec)) sessionPlaysCard

/-- THE SECOND FORM's CARD OF 'copselaw.SitePlays'. -/
def sitePlaysUptoCard : Claim7 := { stood := { row := sitePlaysUptoRow, standIns := [], harness := (true, "a1fa4aefe61405e0834e8f69a45d657ad0962003100c8e4b3df98344675d7ea5"), looks := true }, kinds := [], alts := [], laidByText := true, laidKinds := [.handle], laidTests := true, laidLooks := .later }
def SitePlaysUptoCardSaid : Prop := Claim7.holds Tryz.pinned (.plain (OpenSpec.upto sitePlaysSpec)) sitePlaysUptoCard

/-- THE SECOND FORM's CARD OF 'copselaw.SessionPlays'. -/
def sessionPlaysUptoCard : Claim7 := { stood := { row := sessionPlaysUptoRow, standIns := [], harness := (true, "a1fa4aefe61405e0834e8f69a45d657ad0962003100c8e4b3df98344675d7ea5"), looks := true }, kinds := [], alts := [], laidByText := true, laidKinds := [.handle], laidTests := true, laidLooks := .later }
def SessionPlaysUptoCardSaid : Prop := Claim7.holds Tryz.pinned (.plain (OpenSpec.upto sessionPlaysSpec)) sessionPlaysUptoCard
end Rows
end Go.Proofs.YtpncedpfoakfkaaGreatDoor
