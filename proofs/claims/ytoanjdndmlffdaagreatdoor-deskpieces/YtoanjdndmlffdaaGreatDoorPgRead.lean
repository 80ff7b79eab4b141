import Derived.Test.YtoanjdndmlffdaaGreatDoorSiteD
namespace Go.Proofs.YtoanjdndmlffdaaGreatDoor
open Go.RowKit
theorem pgRead_results {tmps : Array Value} {w : World} {b : Nat} {v : Ver} {ev : Value} (h : RowL w b (verL v)) (h2 : tmps[6]? = some (.pointer (some ⟨b, 0, none⟩))) (h3 : tmps[7]? = some ev) :
    (results Tryz.f259 tmps).run Tryz.prog w = .ok (.tuple #[.agg (verL v).toArray, ev]) w := by
  have z0 := h.cell 0 _ rfl
  have z1 := h.cell 1 _ rfl
  have z2 := h.cell 2 _ rfl
  have z3 := h.cell 3 _ rfl
  have z4 := h.cell 4 _ rfl
  have z5 := h.cell 5 _ rfl
  simp [results, Tryz.results259, go_sem, h2, h3, z0, z1, z2, z3, z4, z5, verL]
end Go.Proofs.YtoanjdndmlffdaaGreatDoor
