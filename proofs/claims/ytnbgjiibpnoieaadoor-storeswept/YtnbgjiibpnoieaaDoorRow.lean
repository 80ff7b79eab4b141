/-
  A row of four ints in memory (a vector in a box): what it holds, in later worlds and behind stores. Of whatever program.
-/
import Derived.Test.YtnbgjiibpnoieaaDoorLater
namespace Go.Proofs.YtnbgjiibpnoieaaDoor
open Go.RowKit

/-- block b holds four ints, and may be written -/
structure Row4 (w : World) (b : Nat) (a0 a1 a2 a3 : Int) : Prop where
  c0 : w.cell? ⟨b, 0, none⟩ = some (.int .i64 a0)
  c1 : w.cell? ⟨b, 1, none⟩ = some (.int .i64 a1)
  c2 : w.cell? ⟨b, 2, none⟩ = some (.int .i64 a2)
  c3 : w.cell? ⟨b, 3, none⟩ = some (.int .i64 a3)
  f0 : w.frozen? ⟨b, 0, none⟩ = false
  f1 : w.frozen? ⟨b, 1, none⟩ = false
  f2 : w.frozen? ⟨b, 2, none⟩ = false
  f3 : w.frozen? ⟨b, 3, none⟩ = false

theorem Row4.lt {w : World} {b : Nat} {a0 a1 a2 a3 : Int} (h : Row4 w b a0 a1 a2 a3) : b < w.heap.size := World.block_lt_of_cell? _ _ h.c0

theorem Row4.later {w w' : World} {b : Nat} {a0 a1 a2 a3 : Int} (hb : Below w.heap.size w w') (h : Row4 w b a0 a1 a2 a3) : Row4 w' b a0 a1 a2 a3 :=
  have l := h.lt
  ⟨cell_later hb h.c0, cell_later hb h.c1, cell_later hb h.c2, cell_later hb h.c3, (hb.frozen (p := ⟨b, 0, none⟩) l).trans h.f0, (hb.frozen (p := ⟨b, 1, none⟩) l).trans h.f1, (hb.frozen (p := ⟨b, 2, none⟩) l).trans h.f2, (hb.frozen (p := ⟨b, 3, none⟩) l).trans h.f3⟩

theorem Row4.new (w : World) (T : TypeId) (a0 a1 a2 a3 : Int) : Row4 (w.alloc (.cells #[.int .i64 a0, .int .i64 a1, .int .i64 a2, .int .i64 a3] T)) w.heap.size a0 a1 a2 a3 := by
  constructor <;> go_simp

/-- a store into another block -/
theorem Row4.far {w : World} {b : Nat} {a0 a1 a2 a3 : Int} (h : Row4 w b a0 a1 a2 a3) (p : Addr) (u : Value) (hn : p.block ≠ b) : Row4 (w.setCell p u) b a0 a1 a2 a3 := by
  have e : (w.setCell p u).heap[b]? = w.heap[b]? := Below.heap_setCell _ _ _ _ (Ne.symm hn)
  constructor
  · rw [World.cell?_of_block (w := w) e]; exact h.c0
  · rw [World.cell?_of_block (w := w) e]; exact h.c1
  · rw [World.cell?_of_block (w := w) e]; exact h.c2
  · rw [World.cell?_of_block (w := w) e]; exact h.c3
  · rw [World.frozen?_of_block (w := w) e]; exact h.f0
  · rw [World.frozen?_of_block (w := w) e]; exact h.f1
  · rw [World.frozen?_of_block (w := w) e]; exact h.f2
  · rw [World.frozen?_of_block (w := w) e]; exact h.f3

theorem Row4.set0 {w : World} {b : Nat} {a0 a1 a2 a3 : Int} (h : Row4 w b a0 a1 a2 a3) (x : Int) : Row4 (w.setCell ⟨b, 0, none⟩ (.int .i64 x)) b x a1 a2 a3 :=
  ⟨World.cell?_setCell_same _ _ _ h.c0, (World.cell?_setCell_other _ _ _ _ (by simp)).trans h.c1, (World.cell?_setCell_other _ _ _ _ (by simp)).trans h.c2, (World.cell?_setCell_other _ _ _ _ (by simp)).trans h.c3, (World.frozen?_setCell _ _ _ _).trans h.f0, (World.frozen?_setCell _ _ _ _).trans h.f1, (World.frozen?_setCell _ _ _ _).trans h.f2, (World.frozen?_setCell _ _ _ _).trans h.f3⟩
theorem Row4.set1 {w : World} {b : Nat} {a0 a1 a2 a3 : Int} (h : Row4 w b a0 a1 a2 a3) (x : Int) : Row4 (w.setCell ⟨b, 1, none⟩ (.int .i64 x)) b a0 x a2 a3 :=
  ⟨(World.cell?_setCell_other _ _ _ _ (by simp)).trans h.c0, World.cell?_setCell_same _ _ _ h.c1, (World.cell?_setCell_other _ _ _ _ (by simp)).trans h.c2, (World.cell?_setCell_other _ _ _ _ (by simp)).trans h.c3, (World.frozen?_setCell _ _ _ _).trans h.f0, (World.frozen?_setCell _ _ _ _).trans h.f1, (World.frozen?_setCell _ _ _ _).trans h.f2, (World.frozen?_setCell _ _ _ _).trans h.f3⟩
theorem Row4.set2 {w : World} {b : Nat} {a0 a1 a2 a3 : Int} (h : Row4 w b a0 a1 a2 a3) (x : Int) : Row4 (w.setCell ⟨b, 2, none⟩ (.int .i64 x)) b a0 a1 x a3 :=
  ⟨(World.cell?_setCell_other _ _ _ _ (by simp)).trans h.c0, (World.cell?_setCell_other _ _ _ _ (by simp)).trans h.c1, World.cell?_setCell_same _ _ _ h.c2, (World.cell?_setCell_other _ _ _ _ (by simp)).trans h.c3, (World.frozen?_setCell _ _ _ _).trans h.f0, (World.frozen?_setCell _ _ _ _).trans h.f1, (World.frozen?_setCell _ _ _ _).trans h.f2, (World.frozen?_setCell _ _ _ _).trans h.f3⟩
theorem Row4.set3 {w : World} {b : Nat} {a0 a1 a2 a3 : Int} (h : Row4 w b a0 a1 a2 a3) (x : Int) : Row4 (w.setCell ⟨b, 3, none⟩ (.int .i64 x)) b a0 a1 a2 x :=
  ⟨(World.cell?_setCell_other _ _ _ _ (by simp)).trans h.c0, (World.cell?_setCell_other _ _ _ _ (by simp)).trans h.c1, (World.cell?_setCell_other _ _ _ _ (by simp)).trans h.c2, World.cell?_setCell_same _ _ _ h.c3, (World.frozen?_setCell _ _ _ _).trans h.f0, (World.frozen?_setCell _ _ _ _).trans h.f1, (World.frozen?_setCell _ _ _ _).trans h.f2, (World.frozen?_setCell _ _ _ _).trans h.f3⟩
/-- a new block beside it -/
theorem Row4.boxed {w : World} {b : Nat} {a0 a1 a2 a3 : Int} (h : Row4 w b a0 a1 a2 a3) (o : Obj) : Row4 (w.alloc o) b a0 a1 a2 a3 := h.later (YtnbgjiibpnoieaaDoor.boxed (Below.refl _ _) o)
/-- a draw -/
theorem Row4.drew {w : World} {b : Nat} {a0 a1 a2 a3 : Int} (h : Row4 w b a0 a1 a2 a3) : Row4 w.drew b a0 a1 a2 a3 := h.later (Below.refl _ _).drew
/-- the newest block -/
theorem Row4.newest {w : World} {T : TypeId} {n : Nat} {a0 a1 a2 a3 : Int} (hn : w.heap.size = n) : Row4 (w.alloc (.cells #[.int .i64 a0, .int .i64 a1, .int .i64 a2, .int .i64 a3] T)) n a0 a1 a2 a3 := by
  subst hn; exact Row4.new w T a0 a1 a2 a3
/-- all four written -/
theorem Row4.set {w : World} {b : Nat} {a0 a1 a2 a3 x0 x1 x2 x3 : Int} (h : Row4 w b a0 a1 a2 a3) : Row4 ((((w.setCell ⟨b, 0, none⟩ (.int .i64 x0)).setCell ⟨b, 1, none⟩ (.int .i64 x1)).setCell ⟨b, 2, none⟩ (.int .i64 x2)).setCell ⟨b, 3, none⟩ (.int .i64 x3)) b x0 x1 x2 x3 :=
  (((h.set0 x0).set1 x1).set2 x2).set3 x3
/-- another one's four written -/
theorem Row4.far4 {w : World} {b c : Nat} {a0 a1 a2 a3 x0 x1 x2 x3 : Int} (h : Row4 w b a0 a1 a2 a3) (hn : c ≠ b) : Row4 ((((w.setCell ⟨c, 0, none⟩ (.int .i64 x0)).setCell ⟨c, 1, none⟩ (.int .i64 x1)).setCell ⟨c, 2, none⟩ (.int .i64 x2)).setCell ⟨c, 3, none⟩ (.int .i64 x3)) b a0 a1 a2 a3 :=
  (((h.far ⟨c, 0, none⟩ (.int .i64 x0) hn).far ⟨c, 1, none⟩ (.int .i64 x1) hn).far ⟨c, 2, none⟩ (.int .i64 x2) hn).far ⟨c, 3, none⟩ (.int .i64 x3) hn

end Go.Proofs.YtnbgjiibpnoieaaDoor
