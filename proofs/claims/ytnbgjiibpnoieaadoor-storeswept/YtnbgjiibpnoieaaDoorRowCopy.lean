/-
  Rows of structs that are copied and shifted in place: of whatever program; the operations 'copy' and 'clear' at elements of several cells.
-/
import Derived.Test.YtnbgjiibpnoieaaDoorVerRow
import Derived.Lib.Overlaps
import Derived.Lib.AppendZerosOnto
import Derived.Laws.NewBlocks
namespace Go.Proofs.YtnbgjiibpnoieaaDoor
open Go.RowKit

/-- 'copy(d, s)' at elements of k cells: all is read before anything is written -/
theorem run_copy_k {P : Program} (w : World) (dT sT ty elem : TypeId) (k b o dLen dCap : Nat) (a : Addr) (sLen sCap m : Nat) (cs : List Value)
    (hu : P.underlying dT = some (.slice elem)) (hs : (P.info? elem).map (·.size) = some k) (hm : m = Nat.min sLen dLen) (hn : cs.length = m * k)
    (hsrc : ∀ j v, cs[j]? = some v → w.cell? (a.add j) = some v) (hc : ∀ j, j < cs.length → (w.cell? ⟨b, o + j, none⟩).isSome = true) (hf : ∀ j, j < cs.length → w.frozen? ⟨b, o + j, none⟩ = false) (h1 : ∀ v ∈ cs, v.oneCell' = true) :
    (Builtin.copy_ #[dT, sT] ty #[.slice (some ⟨b, o, none⟩) dLen dCap, .slice (some a) sLen sCap]).run P w = .ok (goInt m) (w.setCells b o cs) := by
  have hl := run_loadCells_list (P := P) w a cs hsrc
  have hst := run_storeCells_cells (P := P) b o cs 0 w (by simpa using hc) (by simpa using hf) h1
  rw [hn] at hl
  cases hq : P.info? elem with
  | none => simp [hq] at hs
  | some i =>
    have hi : i.size = k := by simpa [hq] using hs
    simp [Builtin.copy_, run_underlying hu, Builtin.lenOf, Builtin.firstCells, sizeOf, typeInfo, hq, hi, ← hm, hl, hst]

theorem wp_copy_run {P : Program} (w : World) {o : Oper} {a : Act} {K : Act → World → Prop} {Q : Exit → Act → World → Prop} (d s : Operand) (t t' : TypeId)
    (ho : o.op = .call { callee := .builtin .copy, args := #[d, s], argTypes := #[t, t'] }) (v u : Value) (hd : a.eval d = v) (hs : a.eval s = u) {v' : Value} {w' : World}
    (hr : (Builtin.copy_ #[t, t'] o.type #[v, u]).run P w = .ok v' w') (h : K (a.put o.dst v') w') : o.wp P a w K Q := by
  unfold Oper.wp execOp
  simp only [ho, resolve, invoke, builtin, Sem.run_bind, Sem.run_pure, Result.andThen_ok, List.map_toArray, List.map_cons, List.map_nil, hd, hs, hr]
  exact h
theorem wpList_copy_run {P : Program} (w : World) {ops : Array Oper} {rest : List Oper} {o : Oper} {a : Act} {Q : Exit → Act → World → Prop} (hgd : o.guard = none) (d s : Operand) (t t' : TypeId)
    (ho : o.op = .call { callee := .builtin .copy, args := #[d, s], argTypes := #[t, t'] }) (v u : Value) (hd : a.eval d = v) (hs : a.eval s = u) {v' : Value} {w' : World}
    (hr : (Builtin.copy_ #[t, t'] o.type #[v, u]).run P w = .ok v' w') (h : wpList P ops Q rest (a.put o.dst v') w') : wpList P ops Q (o :: rest) a w :=
  wpList_plain hgd fun _ hK => wp_copy_run w d s t t' ho v u hd hs hr (hK _ _ h)
theorem step_copy_run {P : Program} {ops : Array Oper} {o : Oper} {a : Act} {w : World} {K : Act → World → Prop} {Q : Exit → Act → World → Prop} {E : Prop}
    (hg : o.guard = none) (d x : Operand) (dT sT : TypeId) (hop : o.op = Op.call { callee := Callee.builtin Builtin.copy, args := #[d, x], argTypes := #[dT, sT] })
    (v u : Value) (hd : a.eval d = v) (hx : a.eval x = u) {v' : Value} {w' : World} (hr : (Builtin.copy_ #[dT, sT] o.type #[v, u]).run P w = .ok v' w') (hK : K (a.put o.dst v') w') :
    if Region.wanted o (yielded ops a.tmps) = true then Oper.wp P o a w K Q else E := by
  have hw : Region.wanted o (yielded ops a.tmps) = true := by simp [Region.wanted, hg]
  rw [if_pos hw]
  exact wp_copy_run w d x dT sT hop v u hd hx hr hK

/-- what a block is behind stores into it -/
theorem heap_setCells (g : Nat) : ∀ (vs : List Value) (o : Nat) (w : World) {cur : Array Value} {T : TypeId}, w.heap[g]? = some (.cells cur T (0, 0)) → ∃ cur', (w.setCells g o vs).heap[g]? = some (.cells cur' T (0, 0)) ∧ cur'.size = cur.size
  | [], _, _, cur, _, h => ⟨cur, h, rfl⟩
  | v :: vs, o, w, cur, T, h => by
    obtain ⟨c, h1, h2⟩ := heap_setCells g vs (o + 1) (w.setCell ⟨g, o, none⟩ v) (heap_setCell_same w g o cur T v h)
    exact ⟨c, h1, by simpa using h2⟩

/-- a block that holds these cells, as a row -/
theorem own_of_cells {w : World} {B g n cap k : Nat} {T : TypeId} {cur : Array Value} {xs : List Value} (hB : B ≤ g) (hg : w.heap[g]? = some (.cells cur T (0, 0))) (hcap : cap ≤ maxLen) (hs : cur.size = cap * k) (hn : n ≤ cap) (hx : xs.length = n * k)
    (hc : ∀ j u, xs[j]? = some u → w.cell? ⟨g, j, none⟩ = some u) : w.ownsRow B T k (.slice (some ⟨g, 0, none⟩) n cap) n xs := by
  refine ⟨hx, .inr ⟨g, cap, cur, rfl, hB, hg, hn, hcap, hs, ?_⟩⟩
  have hle : n * k ≤ cur.size := by rw [hs]; exact Nat.mul_le_mul_right _ hn
  apply List.ext_getElem
  · rw [List.length_take, Array.length_toList, hx]
    omega
  · intro i h1 h2
    have := hc i xs[i] (List.getElem?_eq_getElem h2)
    rw [cell_of_row w g i cur T (0, 0) hg] at this
    rw [List.getElem_take, Array.getElem_toList]
    rw [Array.getElem?_eq_getElem (by omega)] at this
    injection this

/-- the cells behind 'V at |A|', D at '|A| + |V|' being there -/
theorem isSome_set (g : Nat) (vs : List Value) (o : Nat) (w : World) (h : ∀ j, j < vs.length → (w.cell? ⟨g, o + j, none⟩).isSome = true) (k : Nat) (hk : (w.cell? ⟨g, k, none⟩).isSome = true) : ((w.setCells g o vs).cell? ⟨g, k, none⟩).isSome = true := by
  by_cases hin : o ≤ k ∧ k < o + vs.length
  · have := World.cell?_setCells_in g vs o w h (k - o) (by omega)
    rw [show o + (k - o) = k by omega] at this
    rw [this]; rfl
  · rw [World.cell?_setCells_out g vs o w ⟨g, k, none⟩ (fun _ _ => by show k < o ∨ o + vs.length ≤ k; omega)]
    exact hk
theorem set_in {g : Nat} {vs : List Value} {o : Nat} {w : World} (h : ∀ j, j < vs.length → (w.cell? ⟨g, o + j, none⟩).isSome = true) {j : Nat} {u : Value} (hu : vs[j]? = some u) : (w.setCells g o vs).cell? ⟨g, o + j, none⟩ = some u := by
  obtain ⟨hj, e⟩ := List.getElem?_eq_some_iff.1 hu
  rw [World.cell?_setCells_in g vs o w h j hj, e]
/-- D is laid first, then V ahead of it -/
theorem cells_shift {w : World} {g : Nat} (A V D : List Value) (hA : ∀ j u, A[j]? = some u → w.cell? ⟨g, j, none⟩ = some u) (hex : ∀ j, j < A.length + V.length + D.length → (w.cell? ⟨g, j, none⟩).isSome = true) :
    ∀ j u, (A ++ V ++ D)[j]? = some u → ((w.setCells g (A.length + V.length) D).setCells g A.length V).cell? ⟨g, j, none⟩ = some u := by
  intro j u hu
  have hD : ∀ t, t < D.length → (w.cell? ⟨g, A.length + V.length + t, none⟩).isSome = true := fun t ht => hex _ (by omega)
  have hV : ∀ t, t < V.length → ((w.setCells g (A.length + V.length) D).cell? ⟨g, A.length + t, none⟩).isSome = true := fun t ht => isSome_set g D _ w hD _ (hex _ (by omega))
  rcases Nat.lt_or_ge j (A.length + V.length) with h1 | h1
  · rw [List.getElem?_append_left (by simpa using h1)] at hu
    rcases Nat.lt_or_ge j A.length with h2 | h2
    · rw [List.getElem?_append_left h2] at hu
      rw [World.cell?_setCells_out g V _ _ _ (fun _ _ => .inl h2), World.cell?_setCells_out g D _ _ _ (fun _ _ => .inl (by show j < _; omega))]
      exact hA j u hu
    · rw [List.getElem?_append_right h2] at hu
      have := set_in hV hu
      rwa [show A.length + (j - A.length) = j by omega] at this
  · rw [List.getElem?_append_right (by simpa using h1), List.length_append] at hu
    rw [World.cell?_setCells_out g V _ _ _ (fun _ _ => .inr h1)]
    have := set_in hD hu
    rwa [show A.length + V.length + (j - (A.length + V.length)) = j by omega] at this
/-- V is laid first, then D behind it -/
theorem cells_shift2 {w : World} {g : Nat} (A V D : List Value) (hA : ∀ j u, A[j]? = some u → w.cell? ⟨g, j, none⟩ = some u) (hex : ∀ j, j < A.length + V.length + D.length → (w.cell? ⟨g, j, none⟩).isSome = true) :
    ∀ j u, (A ++ V ++ D)[j]? = some u → ((w.setCells g A.length V).setCells g (A.length + V.length) D).cell? ⟨g, j, none⟩ = some u := by
  intro j u hu
  have hV : ∀ t, t < V.length → (w.cell? ⟨g, A.length + t, none⟩).isSome = true := fun t ht => hex _ (by omega)
  have hD : ∀ t, t < D.length → ((w.setCells g A.length V).cell? ⟨g, A.length + V.length + t, none⟩).isSome = true := fun t ht => isSome_set g V _ w hV _ (hex _ (by omega))
  rcases Nat.lt_or_ge j (A.length + V.length) with h1 | h1
  · rw [List.getElem?_append_left (by simpa using h1)] at hu
    rw [World.cell?_setCells_out g D _ _ _ (fun _ _ => .inl h1)]
    rcases Nat.lt_or_ge j A.length with h2 | h2
    · rw [List.getElem?_append_left h2] at hu
      rw [World.cell?_setCells_out g V _ _ _ (fun _ _ => .inl h2)]
      exact hA j u hu
    · rw [List.getElem?_append_right h2] at hu
      have := set_in hV hu
      rwa [show A.length + (j - A.length) = j by omega] at this
  · rw [List.getElem?_append_right (by simpa using h1), List.length_append] at hu
    have := set_in hD hu
    rwa [show A.length + V.length + (j - (A.length + V.length)) = j by omega] at this

end Go.Proofs.YtnbgjiibpnoieaaDoor
