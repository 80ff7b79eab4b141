/-
  Versions of keys that are put one after another, into one store plainly, into another that is swept, into a third in another order; no Go in sight.
-/
import Derived.Test.YtnbgjiibpnoieaaDoorSwept
import Derived.Test.YtnbgjiibpnoieaaDoorStoreBase
namespace Go.Proofs.YtnbgjiibpnoieaaDoor
open Go.RowKit

/-- of one key, stamp and site -/
def TwinH (x y : Hd) : Prop := x.key = y.key ∧ Twin x.v y.v
theorem TwinH.symm {x y : Hd} (h : TwinH x y) : TwinH y x := ⟨h.1.symm, h.2.1.symm, h.2.2.1.symm, h.2.2.2.symm⟩
/-- no two of them are -/
def NoTw (l : List Hd) : Prop := ∀ i j, j < i → i < l.length → ¬ TwinH (hdAt l i) (hdAt l j)
theorem NoTw.ne {l : List Hd} (h : NoTw l) {i j : Nat} (hi : i < l.length) (hj : j < l.length) (hij : i ≠ j) : ¬ TwinH (hdAt l i) (hdAt l j) := by
  rcases Nat.lt_or_ge j i with g | g
  · exact h i j g hi
  · exact fun t => h j i (by omega) hj t.symm
theorem twinB_false {key : Int} {v : Ver} {h : Hd} (n : ¬ TwinH ⟨key, v⟩ h) : twinB key v h = false := by
  cases hq : twinB key v h
  · rfl
  · simp only [twinB, Bool.and_eq_true, decide_eq_true_eq] at hq
    exact absurd ⟨hq.1.1.symm, hq.1.2.1.symm, hq.1.2.2.symm, hq.2.symm⟩ n

/-- what may be put -/
def Valid (x : Hd) : Prop := inB x.key 0 7 = true ∧ okVer x.v = true
theorem ok_put {l : List Hd} {key : Int} {v : Ver} (h : ∀ x ∈ l, okVer x.v = true) : ∀ x ∈ putL l key v, okVer x.v = true := by
  unfold putL
  split
  · rename_i h0
    intro x hx
    rcases List.mem_append.1 hx with h1 | h1
    · exact h x h1
    · rw [List.mem_singleton.1 h1]
      unfold putE at h0
      split at h0
      · split at h0
        · assumption
        · cases h0
      · cases h0
  · exact h
theorem putL_mem {l : List Hd} {key : Int} {v : Ver} {x : Hd} (h : x ∈ putL l key v) : x ∈ l ∨ x = ⟨key, v⟩ := by
  unfold putL at h
  split at h
  · exact (List.mem_append.1 h).imp_right List.mem_singleton.1
  · exact .inl h

/-- k of them are put, in the order f, into m -/
structure Put1 (l : List Hd) (f : Nat → Nat) (k : Nat) (m : List Hd) : Prop where
  sub : ∀ h ∈ m, ∃ j, j < k ∧ h = hdAt l (f j)
  apart : Apart m
  ok : ∀ h ∈ m, okVer h.v = true
  len : m.length ≤ k
  mem : NoTw l → ∀ x, x ∈ m ↔ (∃ j, j < k ∧ x = hdAt l (f j)) ∧ Valid x
theorem put1_nil (l : List Hd) (f : Nat → Nat) : Put1 l f 0 [] :=
  ⟨fun h hh => (by cases hh), fun x hx => (by cases hx), fun h hh => (by cases hh), Nat.le_refl _, fun _ x => ⟨fun h => (by cases h), fun ⟨⟨j, hj, _⟩, _⟩ => (by omega)⟩⟩
/-- .. each of them once -/
def OneEach (l : List Hd) (f : Nat → Nat) (n : Nat) : Prop := ∀ i j, i < n → j < n → i ≠ j → f i ≠ f j ∧ f i < l.length
theorem Put1.free {l m : List Hd} {f : Nat → Nat} {k n : Nat} (h : Put1 l f k m) (hf : OneEach l f n) (hk : k < n) (nt : NoTw l) {key : Int} {v : Ver} (e : hdAt l (f k) = ⟨key, v⟩) : ∀ x ∈ m, twinB key v x = false := fun x hx => by
  obtain ⟨j, hj, rfl⟩ := h.sub x hx
  refine twinB_false (fun t => ?_)
  rw [← e] at t
  have h1 := hf k j hk (by omega) (by omega)
  have h2 := hf j k (by omega) hk (by omega)
  exact nt.ne h1.2 h2.2 h1.1 t
theorem Put1.put {l m : List Hd} {f : Nat → Nat} {k n : Nat} (h : Put1 l f k m) (hf : OneEach l f n) (hk : k < n) {key : Int} {v : Ver} (e : hdAt l (f k) = ⟨key, v⟩) : Put1 l f (k + 1) (putL m key v) := by
  refine ⟨fun x hx => ?_, apart_put h.apart, ok_put h.ok, Nat.le_trans putL_length (Nat.succ_le_succ h.len), fun nt x => ?_⟩
  · rcases putL_mem hx with h1 | h1
    · obtain ⟨j, hj, e1⟩ := h.sub x h1
      exact ⟨j, by omega, e1⟩
    · exact ⟨k, by omega, by rw [h1, e]⟩
  · rw [mem_putL (h.free hf hk nt e), h.mem nt x]
    constructor
    · rintro (⟨⟨j, hj, e1⟩, hv⟩ | ⟨h1, h2, rfl⟩)
      · exact ⟨⟨j, by omega, e1⟩, hv⟩
      · exact ⟨⟨k, by omega, e.symm⟩, h1, h2⟩
    · rintro ⟨⟨j, hj, e1⟩, hv⟩
      rcases Nat.lt_or_ge j k with g | g
      · exact .inl ⟨⟨j, g, e1⟩, hv⟩
      · obtain rfl : j = k := by omega
        rw [e] at e1
        subst e1
        exact .inr ⟨hv.1, hv.2, rfl⟩

/-- the one that is swept now and then -/
structure Put2 (l : List Hd) (a0 a1 a2 a3 : Int) (k : Nat) (la lb : List Hd) : Prop where
  one : Put1 l id k la
  apart : Apart lb
  ok : ∀ h ∈ lb, okVer h.v = true
  len : lb.length ≤ k
  sw : NoTw l → Swept a0 a1 a2 a3 la lb
theorem put2_nil (l : List Hd) (a0 a1 a2 a3 : Int) : Put2 l a0 a1 a2 a3 0 [] [] := ⟨put1_nil l id, fun x hx => (by cases hx), fun h hh => (by cases hh), Nat.le_refl _, fun _ => Swept.refl _⟩
theorem oneEach_id (l : List Hd) : OneEach l id l.length := fun _ _ hi _ hij => ⟨hij, hi⟩
theorem Put2.put {l la lb : List Hd} {a0 a1 a2 a3 : Int} {k : Nat} (h : Put2 l a0 a1 a2 a3 k la lb) (hk : k < l.length) {key : Int} {v : Ver} (e : hdAt l k = ⟨key, v⟩) : Put2 l a0 a1 a2 a3 (k + 1) (putL la key v) (putL lb key v) :=
  ⟨h.one.put (oneEach_id l) hk e, apart_put h.apart, ok_put h.ok, Nat.le_trans putL_length (Nat.succ_le_succ h.len), fun nt => (h.sw nt).put (h.one.free (oneEach_id l) hk nt e)⟩
theorem Put2.sweep {l la lb : List Hd} {a0 a1 a2 a3 : Int} {k : Nat} (h : Put2 l a0 a1 a2 a3 k la lb) : Put2 l a0 a1 a2 a3 k la (sweepL a0 a1 a2 a3 lb) :=
  ⟨h.one, apart_sweep h.apart, fun x hx => h.ok x (List.mem_filter.1 hx).1, Nat.le_trans sweepL_length h.len, fun nt => (h.sw nt).sweep h.apart⟩

/-- from place t on, and round -/
theorem oneEach_turn (l : List Hd) (t : Nat) : OneEach l (fun i => (i + t) % l.length) l.length := by
  intro i j hi hj hij
  have h0 : 0 < l.length := by omega
  refine ⟨fun e => hij ?_, Nat.mod_lt _ h0⟩
  have e1 := Nat.div_add_mod (i + t) l.length
  have e2 := Nat.div_add_mod (j + t) l.length
  simp only at e
  rw [e] at e1
  rcases Nat.lt_trichotomy ((i + t) / l.length) ((j + t) / l.length) with h | h | h
  · have := Nat.mul_le_mul_left l.length (show (i + t) / l.length + 1 ≤ (j + t) / l.length from h)
    rw [Nat.mul_add] at this
    omega
  · rw [h] at e1
    omega
  · have := Nat.mul_le_mul_left l.length (show (j + t) / l.length + 1 ≤ (i + t) / l.length from h)
    rw [Nat.mul_add] at this
    omega
theorem turn_all {n t j : Nat} (ht : t < n) (hj : j < n) : ∃ i, i < n ∧ (i + t) % n = j := by
  rcases Nat.lt_or_ge j t with h | h
  · refine ⟨j + n - t, by omega, ?_⟩
    rw [show j + n - t + t = j + n by omega, Nat.add_mod_right, Nat.mod_eq_of_lt hj]
  · refine ⟨j - t, by omega, ?_⟩
    rw [show j - t + t = j by omega, Nat.mod_eq_of_lt hj]

theorem readV_last {key a0 a1 a2 a3 : Int} {la lb : List Hd} (h : lastV key a0 a1 a2 a3 la = lastV key a0 a1 a2 a3 lb) : readV key a0 a1 a2 a3 la = readV key a0 a1 a2 a3 lb := by
  unfold readV
  rw [h]
theorem dep_max (s a0 a1 a2 a3 b0 b1 b2 b3 : Int) : depOf s a0 a1 a2 a3 ≤ depOf s (maxZ a0 b0) (maxZ a1 b1) (maxZ a2 b2) (maxZ a3 b3) := by
  have h0 := le_maxZ_left a0 b0
  have h1 := le_maxZ_left a1 b1
  have h2 := le_maxZ_left a2 b2
  have h3 := le_maxZ_left a3 b3
  unfold depOf
  by_cases e0 : s = 0
  · simp only [if_pos e0]; exact h0
  · by_cases e1 : s = 1
    · simp only [if_neg e0, if_pos e1]; exact h1
    · by_cases e2 : s = 2
      · simp only [if_neg e0, if_neg e1, if_pos e2]; exact h2
      · simp only [if_neg e0, if_neg e1, if_neg e2]; exact h3
theorem hasV_max {a0 a1 a2 a3 b0 b1 b2 b3 : Int} {v : Ver} (h : hasV a0 a1 a2 a3 v = true) : hasV (maxZ a0 b0) (maxZ a1 b1) (maxZ a2 b2) (maxZ a3 b3) v = true :=
  decide_eq_true (Int.le_trans (of_decide_eq_true h) (dep_max _ _ _ _ _ _ _ _ _))
/-- what the swept one reads -/
theorem Put2.read {l la lb : List Hd} {a0 a1 a2 a3 b0 b1 b2 b3 : Int} {k : Nat} (h : Put2 l a0 a1 a2 a3 k la lb) (nt : NoTw l) (key : Int) : readV key (maxZ a0 b0) (maxZ a1 b1) (maxZ a2 b2) (maxZ a3 b3) la = readV key (maxZ a0 b0) (maxZ a1 b1) (maxZ a2 b2) (maxZ a3 b3) lb :=
  readV_last ((h.sw nt).last (fun _ _ hh => hasV_max hh) h.one.apart h.apart)
/-- what the one in another order reads -/
theorem turn_read {l la lc : List Hd} {t : Nat} {s0 s1 s2 s3 : Int} (h : Put1 l id l.length la) (hc : Put1 l (fun i => (i + t) % l.length) l.length lc) (ht : l.length = 0 ∨ t < l.length) (nt : NoTw l) (key : Int) : readV key s0 s1 s2 s3 la = readV key s0 s1 s2 s3 lc := by
  refine readV_last ((swept_same (a0 := s0) (a1 := s1) (a2 := s2) (a3 := s3) fun x => ?_).last (fun _ _ hh => hh) h.apart hc.apart)
  rw [h.mem nt, hc.mem nt]
  constructor
  · rintro ⟨⟨j, hj, rfl⟩, hv⟩
    obtain ⟨i, hi, e⟩ := turn_all (n := l.length) (t := t) (ht.resolve_left (by omega)) hj
    exact ⟨⟨i, hi, by simp only [e]; rfl⟩, hv⟩
  · rintro ⟨⟨j, hj, rfl⟩, hv⟩
    exact ⟨⟨_, Nat.mod_lt _ (by omega), rfl⟩, hv⟩

/-- whether a pair of them was seen -/
def TwSeen (l : List Hd) (i j : Nat) (tw : Bool) : Prop := tw = true ↔ ∃ p q, q < p ∧ (p < i ∨ (p = i ∧ q < j)) ∧ TwinH (hdAt l p) (hdAt l q)
theorem twSeen_nil (l : List Hd) : TwSeen l 0 0 false := ⟨fun h => (by cases h), fun ⟨p, q, h1, h2, _⟩ => (by omega)⟩
theorem TwSeen.row {l : List Hd} {i : Nat} {tw : Bool} (h : TwSeen l i i tw) : TwSeen l (i + 1) 0 tw := by
  unfold TwSeen at *
  rw [h]
  constructor
  · rintro ⟨p, q, h1, h2, h3⟩
    exact ⟨p, q, h1, by omega, h3⟩
  · rintro ⟨p, q, h1, h2, h3⟩
    exact ⟨p, q, h1, by omega, h3⟩
theorem TwSeen.next {l : List Hd} {i j : Nat} {tw r : Bool} (h : TwSeen l i j tw) (hj : j < i) (hr : r = true ↔ TwinH (hdAt l i) (hdAt l j)) : TwSeen l i (j + 1) (tw || r) := by
  unfold TwSeen at *
  rw [Bool.or_eq_true, h, hr]
  constructor
  · rintro (⟨p, q, h1, h2, h3⟩ | h3)
    · exact ⟨p, q, h1, by omega, h3⟩
    · exact ⟨i, j, hj, by omega, h3⟩
  · rintro ⟨p, q, h1, h2, h3⟩
    by_cases e : p = i ∧ q = j
    · rw [e.1, e.2] at h3
      exact .inr h3
    · exact .inl ⟨p, q, h1, by omega, h3⟩
theorem TwSeen.no {l : List Hd} (h : TwSeen l l.length 0 false) : NoTw l := fun i j hj hi t => by
  have := h.2 ⟨i, j, hj, by omega, t⟩
  cases this

end Go.Proofs.YtnbgjiibpnoieaaDoor
