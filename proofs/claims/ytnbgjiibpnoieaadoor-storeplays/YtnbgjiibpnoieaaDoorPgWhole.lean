/-
  The program's store is what the law asks of it.
-/
import Derived.Test.YtnbgjiibpnoieaaDoorPgAll
import Derived.Test.YtnbgjiibpnoieaaDoorPgSweep
import Derived.Test.YtnbgjiibpnoieaaDoorPgMany
import Derived.Test.YtnbgjiibpnoieaaDoorStorePlays
namespace Go.Proofs.YtnbgjiibpnoieaaDoor
open Go.RowKit

theorem progSt : ProgSt StP where
  kept := fun h hk hs => h.kept hk hs
  lt := fun h => h.lt
  put := fun key v h hl _ _ => pgPut_any key v _ h hl
  sweep := fun a0 a1 a2 a3 h hl ha ho => pgSweep_any a0 a1 a2 a3 _ h hl ha ho
  read := fun key a0 a1 a2 a3 h hl ha ho => pgRead_any key a0 a1 a2 a3 _ h hl ha ho
  many := fun h hl => pgMany_any _ h hl
  all := fun a0 a1 a2 a3 h hl ha ho => pgAll_any a0 a1 a2 a3 _ h hl ha ho

theorem pgInit (w : World) : StP (w.alloc (.cells #[.slice none 0 0, .slice none 0 0, .slice none 0 0, .slice none 0 0, .slice none 0 0, .slice none 0 0, .slice none 0 0, .slice none 0 0] 65)) w.heap.size (fun k => k = w.heap.size) [] := by
  refine ⟨fun _ => .slice none 0 0, fun _ => [], ⟨RowL.new (w := w) (T := 65) [.slice none 0 0, .slice none 0 0, .slice none 0 0, .slice none 0 0, .slice none 0 0, .slice none 0 0, .slice none 0 0, .slice none 0 0] rfl, fun _ _ => World.ownsRow_nil _ _ _ _, fun _ _ => List.Pairwise.nil, fun _ _ => by simp [Value.ownBlock], fun _ _ _ _ _ _ h => by simp [Value.ownBlock] at h⟩, ⟨fun k _ => by simp [keyL], fun x hx => by cases hx⟩, fun k => ?_⟩
  constructor
  · intro h
    exact .inl h
  · rintro (h | ⟨i, _, h⟩)
    · exact h
    · simp [Value.ownBlock] at h

theorem plays_any (a : Option Addr) (cap : Nat) (l : List PutV) (w : World) (hP : PutIn w a cap l) (hg : w.cell? ⟨0, 0, none⟩ = some (.iface 157 (.agg #[.pointer (some ⟨1, 28, none⟩)]))) :
    Calls Tryd.prog 6 #[.slice a l.length cap] w fun e w' => e = .returned (.bool true) ∧ Below w.heap.size w w' := plays_true progSt pgInit a cap l w hP hg

end Go.Proofs.YtnbgjiibpnoieaaDoor
