/-
  Rows of versions in memory: one key's. No Go in sight but the cells.
-/
import Derived.Test.YtnbgjiibpnoieaaDoorVersions
import Derived.Laws.IdiomCopy
namespace Go.Proofs.YtnbgjiibpnoieaaDoor
open Go.RowKit

def versL (l : List Ver) : List Value := l.flatMap verL
def verAt (l : List Ver) (i : Nat) : Ver := l.getD i ver0

theorem verL_length (v : Ver) : (verL v).length = 6 := rfl
theorem versL_append (a b : List Ver) : versL (a ++ b) = versL a ++ versL b := by simp [versL]
theorem versL_cons (x : Ver) (l : List Ver) : versL (x :: l) = verL x ++ versL l := by simp [versL]
theorem versL_one (x : Ver) : versL [x] = verL x := by simp [versL]
theorem versL_length (l : List Ver) : (versL l).length = l.length * 6 := by
  induction l with
  | nil => rfl
  | cons x l ih =>
    rw [versL_cons, List.length_append, ih, verL_length, List.length_cons]
    omega
theorem verAt_mem {l : List Ver} {i : Nat} (h : i < l.length) : verAt l i ∈ l := by
  simp only [verAt, List.getD, List.getElem?_eq_getElem h, Option.getD_some]
  exact List.getElem_mem h
theorem verAt_eq {l : List Ver} {i : Nat} (h : i < l.length) : verAt l i = l[i] := by simp [verAt, List.getD, List.getElem?_eq_getElem h]
theorem versL_at : ∀ (l : List Ver) (i r : Nat) (u : Value), i < l.length → (verL (verAt l i))[r]? = some u → (versL l)[i * 6 + r]? = some u
  | [], _, _, _, h, _ => by simp at h
  | x :: l, 0, r, u, _, hu => by
    have hr : r < (verL x).length := (List.getElem?_eq_some_iff.1 hu).1
    rw [versL_cons, Nat.zero_mul, Nat.zero_add, List.getElem?_append_left hr]
    exact hu
  | x :: l, i + 1, r, u, h, hu => by
    have ih := versL_at l i r u (by simpa using h) hu
    have e : (i + 1) * 6 + r = (verL x).length + (i * 6 + r) := by rw [verL_length]; omega
    rw [versL_cons, e, List.getElem?_append_right (by omega), Nat.add_sub_cancel_left]
    exact ih
theorem versL_one' (l : List Ver) : ∀ u ∈ versL l, u.oneCell' = true := by
  intro u hu
  unfold versL at hu
  obtain ⟨x, _, hx⟩ := List.mem_flatMap.1 hu
  simp [verL] at hx
  rcases hx with rfl | rfl | rfl | rfl | rfl | rfl <;> rfl
theorem versL_take : ∀ (l : List Ver) (i : Nat), (versL l).take (i * 6) = versL (l.take i)
  | [], i => by simp [versL]
  | x :: l, 0 => by simp [versL]
  | x :: l, i + 1 => by
    have e : (i + 1) * 6 = (verL x).length + i * 6 := by rw [verL_length]; omega
    rw [List.take_succ_cons, versL_cons, versL_cons, e, List.take_append]
    congr 1
    · exact List.take_of_length_le (by omega)
    · rw [Nat.add_sub_cancel_left, versL_take]
theorem versL_drop : ∀ (l : List Ver) (i : Nat), (versL l).drop (i * 6) = versL (l.drop i)
  | [], i => by simp [versL]
  | x :: l, 0 => by simp [versL]
  | x :: l, i + 1 => by
    have e : (i + 1) * 6 = (verL x).length + i * 6 := by rw [verL_length]; omega
    rw [List.drop_succ_cons, versL_cons, e, ← List.drop_drop, List.drop_left]
    exact versL_drop l i

/-- a slice that holds versions: none, or its cells lie in one block -/
structure VsIn (w : World) (a : Option Addr) (cap : Nat) (l : List Ver) : Prop where
  len : l.length ≤ cap
  cap : cap ≤ 9223372036854775807
  held : l = [] ∨ ∃ b, b < w.heap.size ∧ a = some ⟨b, 0, none⟩ ∧ ∀ i r u, i < l.length → (verL (verAt l i))[r]? = some u → w.cell? ⟨b, i * 6 + r, none⟩ = some u
theorem VsIn.later {w w' : World} {a : Option Addr} {cap : Nat} {l : List Ver} (hb : Below w.heap.size w w') (h : VsIn w a cap l) : VsIn w' a cap l :=
  ⟨h.len, h.cap, h.held.elim .inl fun ⟨b, lt, e, c⟩ => .inr ⟨b, Nat.lt_of_lt_of_le lt hb.size, e, fun i r u hi hu => cell_later hb (c i r u hi hu)⟩⟩
theorem vsIn_own {w : World} {B : Nat} {T : TypeId} {v : Value} {l : List Ver} (h : w.ownsRow B T 6 v l.length (versL l)) : ∃ a cap, v = .slice a l.length cap ∧ VsIn w a cap l := by
  rcases h.2 with ⟨rfl, h0⟩ | ⟨g, cap, cur, rfl, hb, hg, hnc, hm, hs, ht⟩
  · exact ⟨none, 0, by rw [h0], ⟨by omega, by omega, .inl (List.eq_nil_of_length_eq_zero h0)⟩⟩
  · refine ⟨_, cap, rfl, ⟨hnc, by simp only [maxLen] at hm; omega, .inr ⟨g, (Array.getElem?_eq_some_iff.1 hg).1, rfl, fun i r u hi hu => ?_⟩⟩⟩
    have hc := h.cells (g := g) rfl _ _ (versL_at l i r u hi hu)
    rw [addr_add] at hc
    exact hc
theorem own_below6 {w w' : World} {B : Nat} {T : TypeId} {v : Value} {n : Nat} {xs : List Value} (h : w.ownsRow B T 6 v n xs) (hb : Below w.heap.size w w') : w'.ownsRow B T 6 v n xs :=
  h.kept (row := none) ⟨hb.os, hb.tape, hb.output, hb.size, fun k hk _ => hb.block k hk⟩ (by cases v.ownBlock <;> simp)

end Go.Proofs.YtnbgjiibpnoieaaDoor
