/-
  What laws of stores have in common: an error's value, blocks that are kept, how many versions there are behind a put or a sweep.
-/
import Derived.Test.YtnbgjiibpnoieaaDoorStoreFacts
namespace Go.Proofs.YtnbgjiibpnoieaaDoor
open Go.RowKit

/-- an error: nil, or a bare one -/
def errV (n : Int) : Value := if n = 0 then .nilIface else .iface 24 (.int .i64 n)
/-- blocks of X are as they were -/
structure Keeps (X : Nat → Prop) (w w' : World) : Prop where
  os : w'.os = w.os
  tape : w'.tape = w.tape
  output : w'.output = w.output
  size : w.heap.size ≤ w'.heap.size
  block : ∀ k, X k → w'.heap[k]? = w.heap[k]?
theorem Keeps.refl (X : Nat → Prop) (w : World) : Keeps X w w := ⟨rfl, rfl, rfl, Nat.le_refl _, fun _ _ => rfl⟩
theorem Keeps.trans {X : Nat → Prop} {a b c : World} (h : Keeps X a b) (k : Keeps X b c) : Keeps X a c := ⟨k.os.trans h.os, k.tape.trans h.tape, k.output.trans h.output, Nat.le_trans h.size k.size, fun i hi => (k.block i hi).trans (h.block i hi)⟩
theorem Keeps.below {X : Nat → Prop} {w w' : World} {B : Nat} (h : Keeps X w w') (hX : ∀ k, k < B → X k) : Below B w w' := ⟨h.os, h.tape, h.output, h.size, fun k hk => h.block k (hX k hk)⟩
theorem RowL.keeps {X : Nat → Prop} {w w' : World} {b : Nat} {vs : List Value} (h : RowL w b vs) (hk : Keeps X w w') (hX : X b) : RowL w' b vs := h.kept (hk.block b hX) hk.size

theorem putL_length {l : List Hd} {key : Int} {v : Ver} : (putL l key v).length ≤ l.length + 1 := by
  unfold putL
  split
  · simp
  · omega
theorem apart_sweep {l : List Hd} {a0 a1 a2 a3 : Int} (h : Apart l) : Apart (sweepL a0 a1 a2 a3 l) := apart_sub h fun _ hx => (List.mem_filter.1 hx).1
theorem sweepL_length {l : List Hd} {a0 a1 a2 a3 : Int} : (sweepL a0 a1 a2 a3 l).length ≤ l.length := List.length_filter_le _ _

end Go.Proofs.YtnbgjiibpnoieaaDoor
