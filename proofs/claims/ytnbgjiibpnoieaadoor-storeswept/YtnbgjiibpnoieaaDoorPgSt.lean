/-
  The program's store in memory: eight rows of versions, each in order, in blocks of their own; what changes when one of them does.
-/
import Derived.Test.YtnbgjiibpnoieaaDoorPgFacts
import Derived.Test.YtnbgjiibpnoieaaDoorStoreBase
namespace Go.Proofs.YtnbgjiibpnoieaaDoor
open Go.RowKit

/-- one of them is another -/
def upd {α : Type} (f : Nat → α) (k : Nat) (x : α) : Nat → α := fun i => if i = k then x else f i
theorem upd_same {α : Type} (f : Nat → α) (k : Nat) (x : α) : upd f k x k = x := if_pos rfl
theorem upd_other {α : Type} (f : Nat → α) {k i : Nat} (x : α) (h : i ≠ k) : upd f k x i = f i := if_neg h

/-- the box of a store, and its rows -/
structure PgRaw (w : World) (b : Nat) (vs : Nat → Value) (Ls : Nat → List Ver) : Prop where
  box : RowL w b [vs 0, vs 1, vs 2, vs 3, vs 4, vs 5, vs 6, vs 7]
  own : ∀ k, k < 8 → w.ownsRow 0 71 6 (vs k) (Ls k).length (versL (Ls k))
  sorted : ∀ k, k < 8 → Sorted (Ls k)
  apart : ∀ k, k < 8 → (vs k).ownBlock ≠ some b
  apart2 : ∀ i j, i < 8 → j < 8 → i ≠ j → ∀ g, (vs i).ownBlock = some g → (vs j).ownBlock ≠ some g
def footP (b : Nat) (vs : Nat → Value) (k : Nat) : Prop := k = b ∨ ∃ i, i < 8 ∧ (vs i).ownBlock = some k

theorem eight {k : Nat} (h : k < 8) : k = 0 ∨ k = 1 ∨ k = 2 ∨ k = 3 ∨ k = 4 ∨ k = 5 ∨ k = 6 ∨ k = 7 := by omega
theorem PgRaw.cell {w : World} {b : Nat} {vs : Nat → Value} {Ls : Nat → List Ver} (h : PgRaw w b vs Ls) {k : Nat} (hk : k < 8) : w.cell? ⟨b, k, none⟩ = some (vs k) :=
  h.box.cell k (vs k) (by rcases eight hk with rfl | rfl | rfl | rfl | rfl | rfl | rfl | rfl <;> rfl)
theorem PgRaw.free {w : World} {b : Nat} {vs : Nat → Value} {Ls : Nat → List Ver} (h : PgRaw w b vs Ls) {k : Nat} (hk : k < 8) : w.frozen? ⟨b, k, none⟩ = false := h.box.free k (by simpa using hk)
theorem PgRaw.lt {w : World} {b : Nat} {vs : Nat → Value} {Ls : Nat → List Ver} (h : PgRaw w b vs Ls) : ∀ k, footP b vs k → k < w.heap.size := fun k hk => by
  rcases hk with rfl | ⟨i, hi, e⟩
  · exact h.box.lt
  · exact ((h.own i hi).lt k e).2
theorem own_kept {w w' : World} {B n : Nat} {T : TypeId} {v : Value} {xs : List Value} (h : w.ownsRow B T 6 v n xs) (hk : ∀ k, v.ownBlock = some k → w'.heap[k]? = w.heap[k]?) : w'.ownsRow B T 6 v n xs := by
  refine ⟨h.1, ?_⟩
  rcases h.2 with hn | ⟨g, cap, cur, rfl, hb, hg, rest⟩
  · exact .inl hn
  · exact .inr ⟨g, cap, cur, rfl, hb, by rw [hk g rfl]; exact hg, rest⟩
theorem PgRaw.kept {w w' : World} {b : Nat} {vs : Nat → Value} {Ls : Nat → List Ver} (h : PgRaw w b vs Ls) (hk : ∀ k, footP b vs k → w'.heap[k]? = w.heap[k]?) (hs : w.heap.size ≤ w'.heap.size) : PgRaw w' b vs Ls :=
  ⟨h.box.kept (hk b (.inl rfl)) hs, fun k hk8 => own_kept (h.own k hk8) (fun g e => hk g (.inr ⟨k, hk8, e⟩)), h.sorted, h.apart, h.apart2⟩
theorem PgRaw.later {w w' : World} {b : Nat} {vs : Nat → Value} {Ls : Nat → List Ver} (h : PgRaw w b vs Ls) (hb : Below w.heap.size w w') : PgRaw w' b vs Ls := h.kept (fun k hk => hb.block k (h.lt k hk)) hb.size

theorem set8 (vs : Nat → Value) {k : Nat} (hk : k < 8) (x : Value) : [vs 0, vs 1, vs 2, vs 3, vs 4, vs 5, vs 6, vs 7].set k x = [upd vs k x 0, upd vs k x 1, upd vs k x 2, upd vs k x 3, upd vs k x 4, upd vs k x 5, upd vs k x 6, upd vs k x 7] := by
  rcases eight hk with rfl | rfl | rfl | rfl | rfl | rfl | rfl | rfl <;> rfl

/-- one row is another, and its slice laid in the box -/
theorem PgRaw.change {w w1 : World} {b : Nat} {vs : Nat → Value} {Ls : Nat → List Ver} (h : PgRaw w b vs Ls) {k : Nat} (hk : k < 8) {v' : Value} {L' : List Ver} (ht : Touch (fun j => (vs k).ownBlock = some j) w w1)
    (own' : w1.ownsRow 0 71 6 v' L'.length (versL L')) (hb : ∀ g, v'.ownBlock = some g → (vs k).ownBlock = some g ∨ w.heap.size ≤ g) (hs : Sorted L') :
    PgRaw (w1.setCell ⟨b, k, none⟩ v') b (upd vs k v') (upd Ls k L') ∧ Touch (footP b vs) w (w1.setCell ⟨b, k, none⟩ v') ∧ ∀ j, footP b (upd vs k v') j → footP b vs j ∨ w.heap.size ≤ j := by
  have hbl := h.box.lt
  have hb1 : w1.heap[b]? = w.heap[b]? := ht.block b hbl (h.apart k hk)
  have vb : v'.ownBlock ≠ some b := fun e => by
    rcases hb b e with h1 | h1
    · exact h.apart k hk h1
    · omega
  have box1 := h.box.kept hb1 ht.size
  have sc := onlyCell b k w1 v'
  refine ⟨⟨?_, fun i hi => ?_, fun i hi => ?_, fun i hi => ?_, fun i j hi hj hij g e => ?_⟩, ?_, fun j hj => ?_⟩
  · rw [← set8 vs hk]
    exact box1.set k v' (by simpa using hk)
  · by_cases e : i = k
    · subst e
      rw [upd_same, upd_same]
      exact own'.kept sc (.inr (fun e => vb e))
    · rw [upd_other _ _ e, upd_other _ _ e]
      refine (own_kept (h.own i hi) (fun g eg => ht.block g ((h.own i hi).lt g eg).2 (h.apart2 i k hi hk e g eg))).kept sc (.inr (h.apart i hi))
  · by_cases e : i = k
    · subst e
      rw [upd_same]
      exact hs
    · rw [upd_other _ _ e]
      exact h.sorted i hi
  · by_cases e : i = k
    · subst e
      rw [upd_same]
      exact vb
    · rw [upd_other _ _ e]
      exact h.apart i hi
  · by_cases ei : i = k
    · subst ei
      rw [upd_same] at e
      rw [upd_other _ _ (Ne.symm hij)]
      rcases hb g e with h1 | h1
      · exact h.apart2 i j hi hj hij g h1
      · intro e2
        have := ((h.own j hj).lt g e2).2
        omega
    · rw [upd_other _ _ ei] at e
      by_cases ej : j = k
      · subst ej
        rw [upd_same]
        intro e2
        rcases hb g e2 with h1 | h1
        · exact h.apart2 i j hi hj hij g e h1
        · have := ((h.own i hi).lt g e).2
          omega
      · rw [upd_other _ _ ej]
        exact h.apart2 i j hi hj hij g e
  · have t1 : Touch (footP b vs) w w1 := ⟨ht.os, ht.tape, ht.output, ht.size, fun j hj hf => ht.block j hj (fun e => hf (.inr ⟨k, hk, e⟩))⟩
    exact t1.trans (Touch.setCell w1 ⟨b, k, none⟩ v' (.inl rfl))
  · rcases hj with rfl | ⟨i, hi, e⟩
    · exact .inl (.inl rfl)
    · by_cases ei : i = k
      · subst ei
        rw [upd_same] at e
        rcases hb j e with h1 | h1
        · exact .inl (.inr ⟨i, hi, h1⟩)
        · exact .inr h1
      · rw [upd_other _ _ ei] at e
        exact .inl (.inr ⟨i, hi, e⟩)

/-- .. and which versions of which keys it holds -/
structure PgHolds (Ls : Nat → List Ver) (l : List Hd) : Prop where
  perm : ∀ k, k < 8 → (keyL l k).Perm (Ls k)
  keys : ∀ h ∈ l, inB h.key 0 7 = true
def StP (w : World) (b : Nat) (F : Nat → Prop) (l : List Hd) : Prop := ∃ vs Ls, PgRaw w b vs Ls ∧ PgHolds Ls l ∧ ∀ k, F k ↔ footP b vs k

theorem PgHolds.mem {Ls : Nat → List Ver} {l : List Hd} (h : PgHolds Ls l) {k : Nat} (hk : k < 8) (v : Ver) : v ∈ Ls k ↔ (⟨k, v⟩ : Hd) ∈ l := by rw [← mem_keyL, (h.perm k hk).mem_iff]
theorem PgHolds.len {Ls : Nat → List Ver} {l : List Hd} (h : PgHolds Ls l) {k : Nat} (hk : k < 8) : (Ls k).length ≤ l.length := by
  rw [← (h.perm k hk).length_eq]
  unfold keyL
  rw [List.length_map]
  exact List.length_filter_le _ _
theorem PgHolds.sites {Ls : Nat → List Ver} {l : List Hd} (h : PgHolds Ls l) (ho : ∀ x ∈ l, okVer x.v = true) {k : Nat} (hk : k < 8) : ∀ v ∈ Ls k, 0 ≤ v.site ∧ v.site ≤ 3 := fun v hv => okVer_site (ho _ ((h.mem hk v).1 hv))
theorem PgHolds.last {w : World} {b : Nat} {vs : Nat → Value} {Ls : Nat → List Ver} {l : List Hd} (h : PgHolds Ls l) (R : PgRaw w b vs Ls) (ha : Apart l) {k : Nat} (hk : k < 8) (a0 a1 a2 a3 : Int) : lastV k a0 a1 a2 a3 l = lastB a0 a1 a2 a3 (Ls k) := lastB_is ha (R.sorted k hk) (h.mem hk)
theorem PgHolds.count {Ls : Nat → List Ver} {l : List Hd} (h : PgHolds Ls l) : (Ls 0).length + (Ls 1).length + (Ls 2).length + (Ls 3).length + (Ls 4).length + (Ls 5).length + (Ls 6).length + (Ls 7).length = l.length := by
  have := keyL_length l h.keys
  rw [(h.perm 0 (by omega)).length_eq, (h.perm 1 (by omega)).length_eq, (h.perm 2 (by omega)).length_eq, (h.perm 3 (by omega)).length_eq, (h.perm 4 (by omega)).length_eq, (h.perm 5 (by omega)).length_eq, (h.perm 6 (by omega)).length_eq, (h.perm 7 (by omega)).length_eq] at this
  exact this
theorem PgHolds.put {Ls : Nat → List Ver} {l : List Hd} (h : PgHolds Ls l) {k : Nat} (hk : k < 8) (v : Ver) (p : Nat) : PgHolds (upd Ls k (insL (Ls k) p v)) (l ++ [⟨k, v⟩]) := by
  refine ⟨fun i hi => ?_, fun x hx => ?_⟩
  · rw [keyL_append]
    by_cases e : i = k
    · subst e
      rw [upd_same, keyL_self]
      exact ((h.perm i hi).append_right [v]).trans (perm_ins _ _ _)
    · rw [upd_other _ _ e, keyL_other v (by omega), List.append_nil]
      exact h.perm i hi
  · rcases List.mem_append.1 hx with h1 | h1
    · exact h.keys x h1
    · rw [List.mem_singleton.1 h1]
      exact inB_iff.2 (by simp only; omega)
theorem twin_any {Ls : Nat → List Ver} {l : List Hd} (h : PgHolds Ls l) {k : Nat} (hk : k < 8) (v : Ver) : l.any (twinB k v) = true ↔ ∃ y ∈ Ls k, Twin y v := by
  rw [List.any_eq_true]
  constructor
  · rintro ⟨⟨key, u⟩, hx, ht⟩
    simp only [twinB, Bool.and_eq_true, decide_eq_true_eq] at ht
    obtain ⟨⟨rfl, e1, e2⟩, e3⟩ := ht
    exact ⟨u, (h.mem hk u).2 hx, e1, e2, e3⟩
  · rintro ⟨y, hy, e1, e2, e3⟩
    exact ⟨⟨k, y⟩, (h.mem hk y).1 hy, by simp [twinB, e1, e2, e3]⟩

/-- where a version belongs is one place -/
theorem bsAt_one {L : List Ver} {t : Ver} {p q : Nat} (hp : BsAt L t p) (hq : BsAt L t q) : p = q := by
  rcases Nat.lt_trichotomy p q with h | h | h
  · have a := hp.2.2 p (Nat.le_refl _) (by have := hq.1; omega)
    have b := hq.2.1 p h
    rw [a] at b
    cases b
  · exact h
  · have a := hq.2.2 q (Nat.le_refl _) (by have := hp.1; omega)
    have b := hp.2.1 q h
    rw [a] at b
    cases b
theorem bsAt_some : ∀ {L : List Ver} (t : Ver), Sorted L → ∃ p, BsAt L t p
  | [], _, _ => ⟨0, Nat.le_refl _, fun j hj => by omega, fun j _ hj => by simp at hj⟩
  | x :: L, t, hs => by
    unfold Sorted at hs
    rw [List.pairwise_cons] at hs
    cases hx : beforeV x t
    · refine ⟨0, Nat.zero_le _, fun j hj => by omega, fun j _ hj => ?_⟩
      cases j with
      | zero => exact hx
      | succ j =>
        have hj' : j < L.length := by simpa using hj
        have e : verAt (x :: L) (j + 1) = verAt L j := rfl
        rw [e]
        cases hq : beforeV (verAt L j) t
        · rfl
        · have h1 := hs.1 _ (verAt_mem hj')
          have : beforeV x t = true := by
            rw [beforeV_iff] at h1 hq ⊢
            omega
          rw [hx] at this
          cases this
    · obtain ⟨p, h1, h2, h3⟩ := bsAt_some t (show Sorted L from hs.2)
      refine ⟨p + 1, by simpa using h1, fun j hj => ?_, fun j hj hl => ?_⟩
      · cases j with
        | zero => exact hx
        | succ j => exact h2 j (by omega)
      · cases j with
        | zero => omega
        | succ j => exact h3 j (by omega) (by simpa using hl)
theorem search_is {a : Option Addr} {cap : Nat} {L : List Ver} {t : Ver} {p : Nat} (hp : BsAt L t p) (w : World) (hV : VsIn w a cap L) (hs : Sorted L) (hl : L.length ≤ 1000) :
    Calls Tryd.prog 62 #[.slice a L.length cap, .agg #[.int .i64 t.wall, .int .i64 t.count, .int .i64 t.site, .int .i64 t.seq, .string t.data, .bool t.gone], .func (.func 63) #[] #[]] w fun e w' =>
      e = .returned (.tuple #[.int .i64 p, .bool (foundB L t p)]) ∧ Below w.heap.size w w' :=
  (search_any t w hV hs hl).mono fun e w' ⟨q, he, hq, hb⟩ => by
    obtain rfl := bsAt_one hp hq
    exact ⟨he, hb⟩

end Go.Proofs.YtnbgjiibpnoieaaDoor
