/-
  A row of cells in memory that may be written, of any length; a row of writes that the call itself made; a call as one step of a region that draws its order. Of whatever program.
-/
import Derived.Test.YtnbgjiibpnoieaaDoorLater
import Derived.Test.YtnbgjiibpnoieaaDoorWrites
import Derived.Test.YtnbgjiibpnoieaaDoorOwn
import Derived.Deep.AppendLies
import Derived.Deep.RegionLaw
namespace Go.Proofs.YtnbgjiibpnoieaaDoor
open Go.RowKit

/-- block b begins with the values vs, and may be written -/
structure RowL (w : World) (b : Nat) (vs : List Value) : Prop where
  cell : ∀ j v, vs[j]? = some v → w.cell? ⟨b, j, none⟩ = some v
  free : ∀ j, j < vs.length → w.frozen? ⟨b, j, none⟩ = false
  lt : b < w.heap.size

theorem RowL.kept {w w' : World} {b : Nat} {vs : List Value} (h : RowL w b vs) (e : w'.heap[b]? = w.heap[b]?) (hs : w.heap.size ≤ w'.heap.size) : RowL w' b vs :=
  ⟨fun j v hv => by rw [World.cell?_of_block (w := w) e]; exact h.cell j v hv, fun j hj => by rw [World.frozen?_of_block (w := w) e]; exact h.free j hj, Nat.lt_of_lt_of_le h.lt hs⟩
theorem RowL.later {w w' : World} {b : Nat} {vs : List Value} (h : RowL w b vs) (hb : Below w.heap.size w w') : RowL w' b vs := h.kept (hb.block b h.lt) hb.size
theorem RowL.only {w w' : World} {rb b : Nat} {vs : List Value} (h : RowL w b vs) (hO : Only rb w w') (hne : b ≠ rb) : RowL w' b vs := h.kept (hO.block b h.lt (fun x => by injection x with x; exact hne x)) hO.size
theorem RowL.grown {w w' : World} {r : Option Nat} {b : Nat} {vs : List Value} (h : RowL w b vs) (hO : w.grownBy w' r) (hne : some b ≠ r) : RowL w' b vs := h.kept (hO.block b h.lt hne) hO.size
theorem RowL.far {w : World} {b : Nat} {vs : List Value} (h : RowL w b vs) (p : Addr) (u : Value) (hn : p.block ≠ b) : RowL (w.setCell p u) b vs := h.kept (Below.heap_setCell _ _ _ _ (Ne.symm hn)) (by simp [World.setCell])
theorem RowL.boxed {w : World} {b : Nat} {vs : List Value} (h : RowL w b vs) (o : Obj) : RowL (w.alloc o) b vs := h.kept (Below.heap_alloc _ _ _ h.lt) (by simp)
theorem RowL.drew {w : World} {b : Nat} {vs : List Value} (h : RowL w b vs) : RowL w.drew b vs := h.kept rfl (Nat.le_refl _)
theorem RowL.new {w : World} {T : TypeId} {n : Nat} (vs : List Value) (hn : w.heap.size = n) : RowL (w.alloc (.cells vs.toArray T)) n vs := by
  subst hn
  have hnew := heap_alloc_new w (.cells vs.toArray T)
  refine ⟨fun j v hv => ?_, fun j _ => World.frozen?_alloc_at _ _ _ _ rfl, by simp⟩
  rw [cell_of_row _ w.heap.size j _ T (0, 0) hnew]
  simpa using hv
theorem RowL.set {w : World} {b : Nat} {vs : List Value} (h : RowL w b vs) (k : Nat) (u : Value) (hk : k < vs.length) : RowL (w.setCell ⟨b, k, none⟩ u) b (vs.set k u) := by
  refine ⟨fun j v hv => ?_, fun j hj => by rw [World.frozen?_setCell]; exact h.free j (by simpa using hj), by simpa [World.setCell] using h.lt⟩
  by_cases hj : k = j
  · subst hj
    rw [List.getElem?_set_self hk] at hv
    injection hv with hv
    subst hv
    exact World.cell?_setCell_same _ _ _ (h.cell k vs[k] (List.getElem?_eq_getElem hk))
  · rw [List.getElem?_set_ne hj] at hv
    rw [World.cell?_setCell_other _ _ _ _ (by intro e; injection e with _ e _; exact hj e)]
    exact h.cell j v hv

/-- a write's cells -/
def wrC (x : Wr) : List Value := [.int .i64 x.key, .string x.data, .bool x.gone]
def wrsC (l : List Wr) : List Value := l.flatMap wrC
theorem wrsC_length (l : List Wr) : (wrsC l).length = l.length * 3 := by
  induction l with
  | nil => rfl
  | cons x l ih =>
    show (wrC x ++ wrsC l).length = _
    rw [List.length_append, ih]
    simp [wrC]
    omega
theorem wrsC_snoc (l : List Wr) (x : Wr) : wrsC (l ++ [x]) = wrsC l ++ wrC x := by simp [wrsC]
theorem wrsC_at : ∀ (l : List Wr) (i : Nat), i < l.length → (wrsC l)[i * 3]? = some (.int .i64 (wrAt l i).key) ∧ (wrsC l)[i * 3 + 1]? = some (.string (wrAt l i).data) ∧ (wrsC l)[i * 3 + 1 + 1]? = some (.bool (wrAt l i).gone)
  | [], _, h => by simp at h
  | x :: l, 0, _ => ⟨rfl, rfl, rfl⟩
  | x :: l, i + 1, h => by
    have ih := wrsC_at l i (by simpa using h)
    have e : wrAt (x :: l) (i + 1) = wrAt l i := rfl
    have e1 : (i + 1) * 3 = i * 3 + 1 + 1 + 1 := by omega
    rw [e, e1]
    exact ih

theorem addr_add (g j : Nat) : (⟨g, 0, none⟩ : Addr).add j = ⟨g, j, none⟩ := by unfold Addr.add; split <;> simp_all

/-- writes that the call owns, as a slice of writes -/
theorem wrIn_own {w : World} {B : Nat} {T : TypeId} {v : Value} {l : List Wr} (h : w.ownsRow B T 3 v l.length (wrsC l)) : ∃ a cap, v = .slice a l.length cap ∧ WrIn w a cap l := by
  rcases h.2 with ⟨rfl, h0⟩ | ⟨g, cap, cur, rfl, hb, hg, hnc, hm, hs, ht⟩
  · exact ⟨none, 0, by rw [h0], ⟨by omega, by omega, .inl (List.eq_nil_of_length_eq_zero h0)⟩⟩
  · refine ⟨_, cap, rfl, ⟨hnc, by simp only [maxLen] at hm; omega, .inr ⟨g, 0, rfl, fun i hi => ?_⟩⟩⟩
    have hc := h.cells (g := g) rfl
    obtain ⟨a0, a1, a2⟩ := wrsC_at l i hi
    have b0 := hc _ _ a0
    have b1 := hc _ _ a1
    have b2 := hc _ _ a2
    rw [addr_add] at b0 b1 b2
    rw [Nat.zero_add]
    exact ⟨b0, b1, b2⟩

/-- a call of a Go function, as one step of a region that draws -/
theorem step_call {P : Program} {ops : Array Oper} {o : Oper} {a : Act} {w : World} {K : Act → World → Prop} {Q : Exit → Act → World → Prop} {E : Prop} (hg : o.guard = none) (f : FuncId) (args : Array Value)
    (he : (execOp a.eval o).run P w = .ok (.enter f args) w) {R : Ending → World → Prop} (h : Calls P f args w R) (hK : ∀ e w', R e w' → ∃ v, e = .returned v ∧ K (a.put o.dst v) w') :
    if Region.wanted o (yielded ops a.tmps) = true then Oper.wp P o a w K Q else E := by
  have hw : Region.wanted o (yielded ops a.tmps) = true := by simp [Region.wanted, hg]
  rw [if_pos hw]
  unfold Oper.wp
  rw [he]
  exact h.mono fun e w' hr => by
    obtain ⟨v, rfl, hk⟩ := hK e w' hr
    exact hk

end Go.Proofs.YtnbgjiibpnoieaaDoor
