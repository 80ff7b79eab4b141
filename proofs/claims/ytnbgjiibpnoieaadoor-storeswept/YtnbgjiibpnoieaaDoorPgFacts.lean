/-
  A store as the program has it, key by key in order, against versions of keys in no order; no Go in sight but the cells.
-/
import Derived.Test.YtnbgjiibpnoieaaDoorPgDel2
import Derived.Test.YtnbgjiibpnoieaaDoorPgInsert2
namespace Go.Proofs.YtnbgjiibpnoieaaDoor
open Go.RowKit

/-- a key's versions -/
def keyL (l : List Hd) (k : Nat) : List Ver := (l.filter fun h => decide (h.key = (k : Int))).map (·.v)
theorem mem_keyL {l : List Hd} {k : Nat} {v : Ver} : v ∈ keyL l k ↔ (⟨k, v⟩ : Hd) ∈ l := by
  unfold keyL
  rw [List.mem_map]
  constructor
  · rintro ⟨⟨key, u⟩, h, rfl⟩
    have := List.mem_filter.1 h
    have e : key = (k : Int) := of_decide_eq_true this.2
    subst e
    exact this.1
  · intro h
    exact ⟨⟨k, v⟩, List.mem_filter.2 ⟨h, by simp⟩, rfl⟩
theorem keyL_append (a b : List Hd) (k : Nat) : keyL (a ++ b) k = keyL a k ++ keyL b k := by simp [keyL]
theorem keyL_self (k : Nat) (v : Ver) : keyL [⟨k, v⟩] k = [v] := by simp [keyL]
theorem keyL_other {key : Int} {k : Nat} (v : Ver) (h : key ≠ (k : Int)) : keyL [⟨key, v⟩] k = [] := by simp [keyL, h]

theorem keyL_length : ∀ (l : List Hd), (∀ h ∈ l, inB h.key 0 7 = true) → (keyL l 0).length + (keyL l 1).length + (keyL l 2).length + (keyL l 3).length + (keyL l 4).length + (keyL l 5).length + (keyL l 6).length + (keyL l 7).length = l.length
  | [], _ => rfl
  | ⟨key, v⟩ :: l, h => by
    have ih := keyL_length l (fun x hx => h x (List.mem_cons_of_mem _ hx))
    have hk := inB_iff.1 (h ⟨key, v⟩ (List.mem_cons_self ..))
    simp only at hk
    have e : ∀ k, keyL (⟨key, v⟩ :: l) k = keyL [⟨key, v⟩] k ++ keyL l k := fun k => keyL_append [⟨key, v⟩] l k
    have s : ∀ k : Nat, (keyL [⟨key, v⟩] k).length = if key = (k : Int) then 1 else 0 := fun k => by
      by_cases hq : key = (k : Int)
      · rw [if_pos hq, hq, keyL_self]; rfl
      · rw [if_neg hq, keyL_other v hq]; rfl
    simp only [e, List.length_append, s, List.length_cons]
    have : key = 0 ∨ key = 1 ∨ key = 2 ∨ key = 3 ∨ key = 4 ∨ key = 5 ∨ key = 6 ∨ key = 7 := by omega
    rcases this with rfl | rfl | rfl | rfl | rfl | rfl | rfl | rfl <;> simp <;> omega

theorem beforeV_asymm {a b : Ver} (h : beforeV a b = true) : beforeV b a = false := by
  cases hq : beforeV b a
  · rfl
  · rw [beforeV_iff] at h hq
    omega

/-- found: one of its stamp and site is there -/
theorem found_iff {L : List Ver} {t : Ver} {p : Nat} (hs : Sorted L) (hp : BsAt L t p) : foundB L t p = true ↔ ∃ y ∈ L, Twin y t := by
  unfold foundB
  rw [Bool.and_eq_true, decide_eq_true_eq, decide_eq_true_eq, ordV_zero]
  constructor
  · rintro ⟨h1, h2⟩
    exact ⟨_, verAt_mem h1, h2⟩
  · rintro ⟨y, hy, ht⟩
    obtain ⟨j, hj, rfl⟩ := List.mem_iff_getElem.1 hy
    rw [← verAt_eq hj] at ht
    have nb : ¬ beforeV (verAt L j) t = true := by
      rw [beforeV_iff]
      obtain ⟨e1, e2, e3⟩ := ht
      omega
    have hpj : p ≤ j := by
      rcases Nat.lt_or_ge j p with h | h
      · exact absurd (hp.2.1 j h) nb
      · exact h
    rcases Nat.lt_or_ge p j with h | h
    · have h1 := hs.at h hj
      have h2 := hp.2.2 p (Nat.le_refl _) (by omega)
      have : beforeV (verAt L p) t = true := by
        rw [beforeV_iff] at h1 ⊢
        obtain ⟨e1, e2, e3⟩ := ht
        omega
      rw [h2] at this
      cases this
    · obtain rfl : p = j := by omega
      exact ⟨hj, ht⟩

theorem sorted_ins {L : List Ver} {t : Ver} {p : Nat} (hs : Sorted L) (hp : BsAt L t p) (hf : foundB L t p = false) : Sorted (insL L p t) := by
  have nt : ∀ y ∈ L, ¬ Twin y t := fun y hy ht => by
    have := (found_iff hs hp).2 ⟨y, hy, ht⟩
    rw [hf] at this
    cases this
  have ha : ∀ y ∈ L.take p, beforeV y t = true := fun y hy => by
    obtain ⟨i, hi, rfl⟩ := List.mem_iff_getElem.1 hy
    rw [List.length_take] at hi
    rw [List.getElem_take, ← verAt_eq (by omega)]
    exact hp.2.1 i (by omega)
  have hd : ∀ y ∈ L.drop p, beforeV t y = true := fun y hy => by
    have hyL := List.mem_of_mem_drop hy
    obtain ⟨i, hi, rfl⟩ := List.mem_iff_getElem.1 hy
    rw [List.length_drop] at hi
    rw [List.getElem_drop] at hyL ⊢
    have hn := hp.2.2 (p + i) (by omega) (by omega)
    rw [verAt_eq (by omega)] at hn
    cases hq : beforeV t L[p + i]
    · exact absurd (beforeV_twin hn hq) (nt _ hyL)
    · rfl
  unfold Sorted insL at *
  rw [List.append_assoc, List.pairwise_append, List.pairwise_append]
  refine ⟨hs.sublist (List.take_sublist _ _), ⟨List.pairwise_singleton _ _, hs.sublist (List.drop_sublist _ _), fun a ha' b hb => ?_⟩, fun a ha' b hb => ?_⟩
  · rw [List.mem_singleton.1 ha']
    exact hd b hb
  · rcases List.mem_append.1 hb with h | h
    · rw [List.mem_singleton.1 h]
      exact ha a ha'
    · have h1 := ha a ha'
      have h2 := hd b h
      rw [beforeV_iff] at h1 h2 ⊢
      omega
theorem perm_ins (L : List Ver) (p : Nat) (t : Ver) : (L ++ [t]).Perm (insL L p t) := by
  unfold insL
  have e : L = L.take p ++ L.drop p := (List.take_append_drop p L).symm
  have : (L ++ [t]).Perm (L.take p ++ L.drop p ++ [t]) := by rw [← e]
  refine this.trans ?_
  rw [List.append_assoc, List.append_assoc]
  exact List.Perm.append_left _ List.perm_append_comm

/-- the last one of a key is the first one from behind that the vector has -/
theorem lastB_is {l : List Hd} {L : List Ver} {k : Nat} {a0 a1 a2 a3 : Int} (ha : Apart l) (hs : Sorted L) (hm : ∀ v, v ∈ L ↔ (⟨k, v⟩ : Hd) ∈ l) : lastV k a0 a1 a2 a3 l = lastB a0 a1 a2 a3 L := by
  cases hb : lastB a0 a1 a2 a3 L with
  | none =>
    unfold lastB at hb
    rw [List.find?_eq_none] at hb
    cases hl : lastV k a0 a1 a2 a3 l with
    | none => rfl
    | some v =>
      obtain ⟨⟨h, hh, e, ek, hhas⟩, _⟩ := lastV_some hl
      obtain ⟨key, u⟩ := h
      simp only at e ek
      subst e ek
      exact absurd hhas (hb u (List.mem_reverse.2 ((hm u).2 hh)))
  | some v =>
    unfold lastB at hb
    obtain ⟨hhas, xs, ys, e, hxs⟩ := List.find?_eq_some_iff_append.1 hb
    have eL : L = ys.reverse ++ v :: xs.reverse := by
      have := congrArg List.reverse e
      rw [List.reverse_reverse] at this
      rw [this]
      simp
    rw [lastV_iff ha]
    have hvL : v ∈ L := by rw [eL]; simp
    refine ⟨⟨⟨k, v⟩, (hm v).1 hvL, rfl, rfl, hhas⟩, ?_⟩
    rintro ⟨key, u⟩ hu hk hhu
    simp only at hk hhu
    subst hk
    have huL := (hm u).2 hu
    rw [eL] at huL
    unfold Sorted at hs
    rw [eL, List.pairwise_append] at hs
    rcases List.mem_append.1 huL with h | h
    · exact beforeV_asymm (hs.2.2 u h v (by simp))
    · rcases List.mem_cons.1 h with h | h
      · rw [h]
        exact beforeV_irrefl v
      · have := hxs u (List.mem_reverse.1 h)
        rw [hhu] at this
        cases this

theorem eqV_comm (a b : Ver) : eqV a b = eqV b a := by
  unfold eqV
  rw [Bool.eq_iff_iff]
  simp only [Bool.and_eq_true, beq_iff_eq]
  constructor <;> (rintro ⟨⟨⟨⟨⟨h1, h2⟩, h3⟩, h4⟩, h5⟩, h6⟩; exact ⟨⟨⟨⟨⟨h1.symm, h2.symm⟩, h3.symm⟩, h4.symm⟩, h5.symm⟩, h6.symm⟩)

/-- what a sweep leaves of a key -/
theorem sweep_key {l : List Hd} {L : List Ver} {k : Nat} {a0 a1 a2 a3 : Int} (hp : (keyL l k).Perm L) (hl : lastV k a0 a1 a2 a3 l = lastB a0 a1 a2 a3 L) :
    (keyL (sweepL a0 a1 a2 a3 l) k).Perm (L.filter fun v => !delV a0 a1 a2 a3 ((lastB a0 a1 a2 a3 L).getD ver0) v) := by
  have e : keyL (sweepL a0 a1 a2 a3 l) k = (keyL l k).filter fun v => !delV a0 a1 a2 a3 ((lastB a0 a1 a2 a3 L).getD ver0) v := by
    unfold keyL sweepL
    rw [List.filter_map, List.filter_filter, List.filter_filter]
    congr 1
    apply List.filter_congr
    rintro ⟨key, v⟩ hv
    by_cases hk : key = (k : Int)
    · subst hk
      simp only [decide_true, Bool.true_and, Bool.and_true, Function.comp]
      unfold keepV delV
      rw [hl]
      simp only
      cases hb : lastB a0 a1 a2 a3 L with
      | none =>
        rw [hb] at hl
        have := lastV_none hl ⟨k, v⟩ hv rfl
        simp only at this
        simp [someB, this]
      | some u =>
        simp only [someB, Option.getD_some, Bool.not_true, Bool.false_or]
        rw [eqV_comm u v]
        cases hasV a0 a1 a2 a3 v <;> cases eqV v u <;> rfl
    · simp [hk]
  rw [e]
  exact hp.filter _
theorem sorted_filter {L : List Ver} (h : Sorted L) (p : Ver → Bool) : Sorted (L.filter p) := List.Pairwise.filter p h

end Go.Proofs.YtnbgjiibpnoieaaDoor
