/-
  Several of the program's stores side by side, in blocks of their own, and blocks that are nobody's.
-/
import Derived.Test.YtnbgjiibpnoieaaDoorPgRead
import Derived.Test.YtnbgjiibpnoieaaDoorPgSweep
import Derived.Test.YtnbgjiibpnoieaaDoorPgMany
namespace Go.Proofs.YtnbgjiibpnoieaaDoor
open Go.RowKit

/-- the first n of the boxes σ are stores that hold L, apart from each other, and from X -/
def Fam (w : World) (n : Nat) (σ : Nat → Nat) (L : Nat → List Hd) (X : Nat → Prop) : Prop :=
  ∃ F : Nat → Nat → Prop, (∀ i, i < n → StP w (σ i) (F i) (L i)) ∧ (∀ i j, i < n → j < n → i ≠ j → ∀ k, F i k → ¬ F j k) ∧ ∀ k, X k → k < w.heap.size ∧ ∀ i, i < n → ¬ F i k

theorem Fam.later {w w' : World} {n : Nat} {σ : Nat → Nat} {L : Nat → List Hd} {X : Nat → Prop} (h : Fam w n σ L X) (hb : Below w.heap.size w w') : Fam w' n σ L X := by
  obtain ⟨F, s, d, x⟩ := h
  exact ⟨F, fun i hi => (s i hi).kept (fun k hk => hb.block k ((s i hi).lt k hk)) hb.size, d, fun k hk => ⟨Nat.lt_of_lt_of_le (x k hk).1 hb.size, (x k hk).2⟩⟩
theorem Fam.less {w : World} {n : Nat} {σ : Nat → Nat} {L : Nat → List Hd} {X Y : Nat → Prop} (h : Fam w n σ L X) (hY : ∀ k, Y k → X k) : Fam w n σ L Y := by
  obtain ⟨F, s, d, x⟩ := h
  exact ⟨F, s, d, fun k hk => x k (hY k hk)⟩
/-- a block behind all is nobody's -/
theorem Fam.new {w w' : World} {n : Nat} {σ : Nat → Nat} {L : Nat → List Hd} {X : Nat → Prop} (h : Fam w n σ L X) (hb : Below w.heap.size w w') {b : Nat} (h1 : w.heap.size ≤ b) (h2 : b < w'.heap.size) : Fam w' n σ L (fun k => X k ∨ k = b) := by
  obtain ⟨F, s, d, x⟩ := h
  refine ⟨F, fun i hi => (s i hi).kept (fun k hk => hb.block k ((s i hi).lt k hk)) hb.size, d, fun k hk => ?_⟩
  rcases hk with hk | rfl
  · exact ⟨Nat.lt_of_lt_of_le (x k hk).1 hb.size, (x k hk).2⟩
  · exact ⟨h2, fun i hi hf => by have := (s i hi).lt k hf; omega⟩
theorem Keeps.ofBelow {X : Nat → Prop} {w w' : World} (hb : Below w.heap.size w w') (hX : ∀ k, X k → k < w.heap.size) : Keeps X w w' := ⟨hb.os, hb.tape, hb.output, hb.size, fun k hk => hb.block k (hX k hk)⟩
theorem Fam.lt {w : World} {n : Nat} {σ : Nat → Nat} {L : Nat → List Hd} {X : Nat → Prop} (h : Fam w n σ L X) : ∀ k, X k → k < w.heap.size := by
  obtain ⟨F, s, d, x⟩ := h
  exact fun k hk => (x k hk).1

/-- one of them is changed -/
theorem Fam.change {w w' : World} {n : Nat} {σ : Nat → Nat} {L : Nat → List Hd} {X : Nat → Prop} {i : Nat} (hi : i < n) {l' : List Hd} {F : Nat → Nat → Prop} (s : ∀ i, i < n → StP w (σ i) (F i) (L i)) (d : ∀ i j, i < n → j < n → i ≠ j → ∀ k, F i k → ¬ F j k) (x : ∀ k, X k → k < w.heap.size ∧ ∀ i, i < n → ¬ F i k)
    (hp : PPost w (σ i) (F i) l' w') : Fam w' n σ (upd L i l') X ∧ Keeps X w w' := by
  obtain ⟨F', s', hF, ht⟩ := hp
  refine ⟨⟨upd F i F', fun j hj => ?_, fun j k hj hk hjk m => ?_, fun k hk => ⟨Nat.lt_of_lt_of_le (x k hk).1 ht.size, fun j hj hf => ?_⟩⟩, ⟨ht.os, ht.tape, ht.output, ht.size, fun k hk => ht.block k (x k hk).1 ((x k hk).2 i hi)⟩⟩
  · by_cases e : j = i
    · subst e
      rw [upd_same, upd_same]
      exact s'
    · rw [upd_other _ _ e, upd_other _ _ e]
      exact (s j hj).kept (fun k hk => ht.block k ((s j hj).lt k hk) (fun h => d j i hj hi e k hk h)) ht.size
  · by_cases e : j = i
    · subst e
      rw [upd_same, upd_other _ _ (Ne.symm hjk)]
      intro h1 h2
      rcases hF m h1 with h3 | h3
      · exact d j k hj hk hjk m h3 h2
      · have := (s k hk).lt m h2
        omega
    · rw [upd_other _ _ e]
      by_cases e2 : k = i
      · subst e2
        rw [upd_same]
        intro h1 h2
        rcases hF m h2 with h3 | h3
        · exact d j k hj hk hjk m h1 h3
        · have := (s j hj).lt m h1
          omega
      · rw [upd_other _ _ e2]
        exact d j k hj hk hjk m
  · by_cases e : j = i
    · subst e
      rw [upd_same] at hf
      rcases hF k hf with h3 | h3
      · exact (x k hk).2 j hj h3
      · have := (x k hk).1
        omega
    · rw [upd_other _ _ e] at hf
      exact (x k hk).2 j hj hf

theorem fam_put {w : World} {n : Nat} {σ : Nat → Nat} {L : Nat → List Hd} {X : Nat → Prop} (h : Fam w n σ L X) {i : Nat} (hi : i < n) (hl : (L i).length ≤ 1000) (key : Int) (v : Ver) :
    Calls Tryd.prog 30 #[.pointer (some ⟨σ i, 0, none⟩), .int .i64 key, .agg #[.int .i64 v.wall, .int .i64 v.count, .int .i64 v.site, .int .i64 v.seq, .string v.data, .bool v.gone]] w fun e w' => e = .returned (errV (putE (L i) key v)) ∧ Fam w' n σ (upd L i (putL (L i) key v)) X ∧ Keeps X w w' := by
  obtain ⟨F, s, d, x⟩ := h
  exact (pgPut_any key v w (s i hi) hl).mono fun e w' ⟨he, hp⟩ => ⟨he, Fam.change hi s d x hp⟩
theorem fam_sweep {w : World} {n : Nat} {σ : Nat → Nat} {L : Nat → List Hd} {X : Nat → Prop} (h : Fam w n σ L X) {i : Nat} (hi : i < n) (hl : (L i).length ≤ 1000) (ha : Apart (L i)) (ho : ∀ h ∈ L i, okVer h.v = true) (a0 a1 a2 a3 : Int) :
    Calls Tryd.prog 32 #[.pointer (some ⟨σ i, 0, none⟩), .agg #[.int .i64 a0, .int .i64 a1, .int .i64 a2, .int .i64 a3]] w fun e w' => e = .returned (.tuple #[]) ∧ Fam w' n σ (upd L i (sweepL a0 a1 a2 a3 (L i))) X ∧ Keeps X w w' := by
  obtain ⟨F, s, d, x⟩ := h
  exact (pgSweep_any a0 a1 a2 a3 w (s i hi) hl ha ho).mono fun e w' ⟨he, hp⟩ => ⟨he, Fam.change hi s d x hp⟩
theorem fam_read {w : World} {n : Nat} {σ : Nat → Nat} {L : Nat → List Hd} {X : Nat → Prop} (h : Fam w n σ L X) {i : Nat} (hi : i < n) (hl : (L i).length ≤ 1000) (ha : Apart (L i)) (ho : ∀ h ∈ L i, okVer h.v = true) (key a0 a1 a2 a3 : Int) :
    Calls Tryd.prog 35 #[.pointer (some ⟨σ i, 0, none⟩), .int .i64 key, .agg #[.int .i64 a0, .int .i64 a1, .int .i64 a2, .int .i64 a3]] w fun e w' => e = .returned (.tuple #[.agg (verL (readV key a0 a1 a2 a3 (L i)).1).toArray, errV (readV key a0 a1 a2 a3 (L i)).2]) ∧ Below w.heap.size w w' := by
  obtain ⟨F, s, d, x⟩ := h
  exact pgRead_any key a0 a1 a2 a3 w (s i hi) hl ha ho

/-- a zero value -/
theorem pgInit (w : World) : StP (w.alloc (.cells #[.slice none 0 0, .slice none 0 0, .slice none 0 0, .slice none 0 0, .slice none 0 0, .slice none 0 0, .slice none 0 0, .slice none 0 0] 65)) w.heap.size (fun k => k = w.heap.size) [] := by
  refine ⟨fun _ => .slice none 0 0, fun _ => [], ⟨RowL.new (w := w) (T := 65) [.slice none 0 0, .slice none 0 0, .slice none 0 0, .slice none 0 0, .slice none 0 0, .slice none 0 0, .slice none 0 0, .slice none 0 0] rfl, fun _ _ => World.ownsRow_nil _ _ _ _, fun _ _ => List.Pairwise.nil, fun _ _ => by simp [Value.ownBlock], fun _ _ _ _ _ _ h => by simp [Value.ownBlock] at h⟩, ⟨fun k _ => by simp [keyL], fun x hx => by cases hx⟩, fun k => ?_⟩
  constructor
  · intro h
    exact .inl h
  · rintro (h | ⟨i, _, h⟩)
    · exact h
    · simp [Value.ownBlock] at h
theorem fam_init (w : World) (n : Nat) (σ : Nat → Nat) (L : Nat → List Hd) (X : Nat → Prop) (hF : Fam w n σ L X) : Fam (w.alloc (.cells #[.slice none 0 0, .slice none 0 0, .slice none 0 0, .slice none 0 0, .slice none 0 0, .slice none 0 0, .slice none 0 0, .slice none 0 0] 65)) (n + 1) (upd σ n w.heap.size) (upd L n []) X := by
  have hb := boxed (Below.refl w.heap.size w) (.cells #[.slice none 0 0, .slice none 0 0, .slice none 0 0, .slice none 0 0, .slice none 0 0, .slice none 0 0, .slice none 0 0, .slice none 0 0] 65)
  obtain ⟨F, s, d, x⟩ := hF
  refine ⟨upd F n (fun k => k = w.heap.size), fun i hi => ?_, fun i j hi hj hij k => ?_, fun k hk => ⟨Nat.lt_of_lt_of_le (x k hk).1 hb.size, fun i hi hf => ?_⟩⟩
  · by_cases e : i = n
    · subst e
      rw [upd_same, upd_same, upd_same]
      exact pgInit w
    · rw [upd_other _ _ e, upd_other _ _ e, upd_other _ _ e]
      have hi' : i < n := by omega
      exact (s i hi').kept (fun k hk => hb.block k ((s i hi').lt k hk)) hb.size
  · by_cases e : i = n
    · subst e
      rw [upd_same, upd_other _ _ (Ne.symm hij)]
      intro h1 h2
      have := (s j (by omega)).lt k h2
      omega
    · rw [upd_other _ _ e]
      by_cases e2 : j = n
      · subst e2
        rw [upd_same]
        intro h1 h2
        have := (s i (by omega)).lt k h1
        omega
      · rw [upd_other _ _ e2]
        exact d i j (by omega) (by omega) hij k
  · by_cases e : i = n
    · subst e
      rw [upd_same] at hf
      have := (x k hk).1
      omega
    · rw [upd_other _ _ e] at hf
      exact (x k hk).2 i (by omega) hf
theorem fam_none (w : World) : Fam w 0 (fun _ => 0) (fun _ => []) (fun k => k < w.heap.size) := ⟨fun _ _ => False, fun i hi => by omega, fun i j hi => by omega, fun k hk => ⟨hk, fun i hi => by omega⟩⟩

end Go.Proofs.YtnbgjiibpnoieaaDoor
