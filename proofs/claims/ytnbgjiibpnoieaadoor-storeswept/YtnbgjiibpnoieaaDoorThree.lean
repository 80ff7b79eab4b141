/-
  Three of the program's stores side by side.
-/
import Derived.Test.YtnbgjiibpnoieaaDoorSwHeld
namespace Go.Proofs.YtnbgjiibpnoieaaDoor
open Go.RowKit

def tri {α : Type} (a b c : α) : Nat → α
  | 0 => a
  | 1 => b
  | _ => c
def Three (w : World) (sa sb sc : Nat) (la lb lc : List Hd) (X : Nat → Prop) : Prop := Fam w 3 (tri sa sb sc) (tri la lb lc) X
theorem Fam.congr {w : World} {n : Nat} {σ σ' : Nat → Nat} {L L' : Nat → List Hd} {X : Nat → Prop} (h : Fam w n σ L X) (h1 : ∀ i, i < n → σ i = σ' i) (h2 : ∀ i, i < n → L i = L' i) : Fam w n σ' L' X := by
  obtain ⟨F, s, d, x⟩ := h
  exact ⟨F, fun i hi => by rw [← h1 i hi, ← h2 i hi]; exact s i hi, d, x⟩
theorem three_init (w : World) (X : Nat → Prop) (hX : ∀ k, X k → k < w.heap.size) : Three (((w.alloc (.cells #[.slice none 0 0, .slice none 0 0, .slice none 0 0, .slice none 0 0, .slice none 0 0, .slice none 0 0, .slice none 0 0, .slice none 0 0] 65)).alloc (.cells #[.slice none 0 0, .slice none 0 0, .slice none 0 0, .slice none 0 0, .slice none 0 0, .slice none 0 0, .slice none 0 0, .slice none 0 0] 65)).alloc (.cells #[.slice none 0 0, .slice none 0 0, .slice none 0 0, .slice none 0 0, .slice none 0 0, .slice none 0 0, .slice none 0 0, .slice none 0 0] 65)) w.heap.size (w.heap.size + 1) (w.heap.size + 1 + 1) [] [] [] X := by
  have f := fam_init _ _ _ _ _ (fam_init _ _ _ _ _ (fam_init w 0 _ _ _ (fam_none w)))
  refine (f.less hX).congr (fun i hi => ?_) (fun i hi => ?_)
  · have : i = 0 ∨ i = 1 ∨ i = 2 := by omega
    rcases this with rfl | rfl | rfl <;> simp [upd, tri]
  · have : i = 0 ∨ i = 1 ∨ i = 2 := by omega
    rcases this with rfl | rfl | rfl <;> simp [upd, tri]
theorem Three.later {w w' : World} {sa sb sc : Nat} {la lb lc : List Hd} {X : Nat → Prop} (h : Three w sa sb sc la lb lc X) (hb : Below w.heap.size w w') : Three w' sa sb sc la lb lc X := Fam.later h hb

theorem three_ab {α : Type} (a b c x : α) : ∀ i, i < 3 → upd (tri a b c) 0 x i = tri x b c i := fun i hi => by
  have : i = 0 ∨ i = 1 ∨ i = 2 := by omega
  rcases this with rfl | rfl | rfl <;> simp [upd, tri]
theorem three_bb {α : Type} (a b c x : α) : ∀ i, i < 3 → upd (tri a b c) 1 x i = tri a x c i := fun i hi => by
  have : i = 0 ∨ i = 1 ∨ i = 2 := by omega
  rcases this with rfl | rfl | rfl <;> simp [upd, tri]
theorem three_cb {α : Type} (a b c x : α) : ∀ i, i < 3 → upd (tri a b c) 2 x i = tri a b x i := fun i hi => by
  have : i = 0 ∨ i = 1 ∨ i = 2 := by omega
  rcases this with rfl | rfl | rfl <;> simp [upd, tri]

theorem three_put_a {w : World} {sa sb sc : Nat} {la lb lc : List Hd} {X : Nat → Prop} (h : Three w sa sb sc la lb lc X) (hl : la.length ≤ 1000) (key : Int) (v : Ver) :
    Calls Tryd.prog 30 #[.pointer (some ⟨sa, 0, none⟩), .int .i64 key, .agg #[.int .i64 v.wall, .int .i64 v.count, .int .i64 v.site, .int .i64 v.seq, .string v.data, .bool v.gone]] w fun e w' => e = .returned (errV (putE la key v)) ∧ Three w' sa sb sc (putL la key v) lb lc X ∧ Keeps X w w' :=
  (fam_put h (i := 0) (by omega) hl key v).mono fun e w' ⟨he, hf, hk⟩ => ⟨he, hf.congr (fun _ _ => rfl) (three_ab _ _ _ _), hk⟩
theorem three_put_b {w : World} {sa sb sc : Nat} {la lb lc : List Hd} {X : Nat → Prop} (h : Three w sa sb sc la lb lc X) (hl : lb.length ≤ 1000) (key : Int) (v : Ver) :
    Calls Tryd.prog 30 #[.pointer (some ⟨sb, 0, none⟩), .int .i64 key, .agg #[.int .i64 v.wall, .int .i64 v.count, .int .i64 v.site, .int .i64 v.seq, .string v.data, .bool v.gone]] w fun e w' => e = .returned (errV (putE lb key v)) ∧ Three w' sa sb sc la (putL lb key v) lc X ∧ Keeps X w w' :=
  (fam_put h (i := 1) (by omega) hl key v).mono fun e w' ⟨he, hf, hk⟩ => ⟨he, hf.congr (fun _ _ => rfl) (three_bb _ _ _ _), hk⟩
theorem three_put_c {w : World} {sa sb sc : Nat} {la lb lc : List Hd} {X : Nat → Prop} (h : Three w sa sb sc la lb lc X) (hl : lc.length ≤ 1000) (key : Int) (v : Ver) :
    Calls Tryd.prog 30 #[.pointer (some ⟨sc, 0, none⟩), .int .i64 key, .agg #[.int .i64 v.wall, .int .i64 v.count, .int .i64 v.site, .int .i64 v.seq, .string v.data, .bool v.gone]] w fun e w' => e = .returned (errV (putE lc key v)) ∧ Three w' sa sb sc la lb (putL lc key v) X ∧ Keeps X w w' :=
  (fam_put h (i := 2) (by omega) hl key v).mono fun e w' ⟨he, hf, hk⟩ => ⟨he, hf.congr (fun _ _ => rfl) (three_cb _ _ _ _), hk⟩
theorem three_sweep_b {w : World} {sa sb sc : Nat} {la lb lc : List Hd} {X : Nat → Prop} (h : Three w sa sb sc la lb lc X) (hl : lb.length ≤ 1000) (ha : Apart lb) (ho : ∀ h ∈ lb, okVer h.v = true) (a0 a1 a2 a3 : Int) :
    Calls Tryd.prog 32 #[.pointer (some ⟨sb, 0, none⟩), .agg #[.int .i64 a0, .int .i64 a1, .int .i64 a2, .int .i64 a3]] w fun e w' => e = .returned (.tuple #[]) ∧ Three w' sa sb sc la (sweepL a0 a1 a2 a3 lb) lc X ∧ Keeps X w w' :=
  (fam_sweep h (i := 1) (by omega) hl ha ho a0 a1 a2 a3).mono fun e w' ⟨he, hf, hk⟩ => ⟨he, hf.congr (fun _ _ => rfl) (three_bb _ _ _ _), hk⟩
theorem three_read_a {w : World} {sa sb sc : Nat} {la lb lc : List Hd} {X : Nat → Prop} (h : Three w sa sb sc la lb lc X) (hl : la.length ≤ 1000) (ha : Apart la) (ho : ∀ h ∈ la, okVer h.v = true) (key a0 a1 a2 a3 : Int) :
    Calls Tryd.prog 35 #[.pointer (some ⟨sa, 0, none⟩), .int .i64 key, .agg #[.int .i64 a0, .int .i64 a1, .int .i64 a2, .int .i64 a3]] w fun e w' => e = .returned (.tuple #[.agg (verL (readV key a0 a1 a2 a3 la).1).toArray, errV (readV key a0 a1 a2 a3 la).2]) ∧ Below w.heap.size w w' := fam_read h (i := 0) (by omega) hl ha ho key a0 a1 a2 a3
theorem three_read_b {w : World} {sa sb sc : Nat} {la lb lc : List Hd} {X : Nat → Prop} (h : Three w sa sb sc la lb lc X) (hl : lb.length ≤ 1000) (ha : Apart lb) (ho : ∀ h ∈ lb, okVer h.v = true) (key a0 a1 a2 a3 : Int) :
    Calls Tryd.prog 35 #[.pointer (some ⟨sb, 0, none⟩), .int .i64 key, .agg #[.int .i64 a0, .int .i64 a1, .int .i64 a2, .int .i64 a3]] w fun e w' => e = .returned (.tuple #[.agg (verL (readV key a0 a1 a2 a3 lb).1).toArray, errV (readV key a0 a1 a2 a3 lb).2]) ∧ Below w.heap.size w w' := fam_read h (i := 1) (by omega) hl ha ho key a0 a1 a2 a3
theorem three_read_c {w : World} {sa sb sc : Nat} {la lb lc : List Hd} {X : Nat → Prop} (h : Three w sa sb sc la lb lc X) (hl : lc.length ≤ 1000) (ha : Apart lc) (ho : ∀ h ∈ lc, okVer h.v = true) (key a0 a1 a2 a3 : Int) :
    Calls Tryd.prog 35 #[.pointer (some ⟨sc, 0, none⟩), .int .i64 key, .agg #[.int .i64 a0, .int .i64 a1, .int .i64 a2, .int .i64 a3]] w fun e w' => e = .returned (.tuple #[.agg (verL (readV key a0 a1 a2 a3 lc).1).toArray, errV (readV key a0 a1 a2 a3 lc).2]) ∧ Below w.heap.size w w' := fam_read h (i := 2) (by omega) hl ha ho key a0 a1 a2 a3

end Go.Proofs.YtnbgjiibpnoieaaDoor
