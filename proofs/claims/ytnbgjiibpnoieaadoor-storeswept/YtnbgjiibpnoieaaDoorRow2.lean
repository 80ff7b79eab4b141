/-
  A stamp's two ints in memory (a stamp in a box): what it holds, in later worlds and behind stores. Of whatever program.
-/
import Derived.Test.YtnbgjiibpnoieaaDoorLater
namespace Go.Proofs.YtnbgjiibpnoieaaDoor
open Go.RowKit

/-- block b holds two ints, and may be written -/
structure Row2 (w : World) (b : Nat) (a0 a1 : Int) : Prop where
  c0 : w.cell? ⟨b, 0, none⟩ = some (.int .i64 a0)
  c1 : w.cell? ⟨b, 1, none⟩ = some (.int .i64 a1)
  f0 : w.frozen? ⟨b, 0, none⟩ = false
  f1 : w.frozen? ⟨b, 1, none⟩ = false

theorem Row2.lt {w : World} {b : Nat} {a0 a1 : Int} (h : Row2 w b a0 a1) : b < w.heap.size := World.block_lt_of_cell? _ _ h.c0

theorem Row2.later {w w' : World} {b : Nat} {a0 a1 : Int} (hb : Below w.heap.size w w') (h : Row2 w b a0 a1) : Row2 w' b a0 a1 :=
  have l := h.lt
  ⟨cell_later hb h.c0, cell_later hb h.c1, (hb.frozen (p := ⟨b, 0, none⟩) l).trans h.f0, (hb.frozen (p := ⟨b, 1, none⟩) l).trans h.f1⟩

theorem Row2.new (w : World) (T : TypeId) (a0 a1 : Int) : Row2 (w.alloc (.cells #[.int .i64 a0, .int .i64 a1] T)) w.heap.size a0 a1 := by
  constructor <;> go_simp

/-- a store into another block -/
theorem Row2.far {w : World} {b : Nat} {a0 a1 : Int} (h : Row2 w b a0 a1) (p : Addr) (u : Value) (hn : p.block ≠ b) : Row2 (w.setCell p u) b a0 a1 := by
  have e : (w.setCell p u).heap[b]? = w.heap[b]? := Below.heap_setCell _ _ _ _ (Ne.symm hn)
  constructor
  · rw [World.cell?_of_block (w := w) e]; exact h.c0
  · rw [World.cell?_of_block (w := w) e]; exact h.c1
  · rw [World.frozen?_of_block (w := w) e]; exact h.f0
  · rw [World.frozen?_of_block (w := w) e]; exact h.f1

theorem Row2.set0 {w : World} {b : Nat} {a0 a1 : Int} (h : Row2 w b a0 a1) (x : Int) : Row2 (w.setCell ⟨b, 0, none⟩ (.int .i64 x)) b x a1 :=
  ⟨World.cell?_setCell_same _ _ _ h.c0, (World.cell?_setCell_other _ _ _ _ (by simp)).trans h.c1, (World.frozen?_setCell _ _ _ _).trans h.f0, (World.frozen?_setCell _ _ _ _).trans h.f1⟩
theorem Row2.set1 {w : World} {b : Nat} {a0 a1 : Int} (h : Row2 w b a0 a1) (x : Int) : Row2 (w.setCell ⟨b, 1, none⟩ (.int .i64 x)) b a0 x :=
  ⟨(World.cell?_setCell_other _ _ _ _ (by simp)).trans h.c0, World.cell?_setCell_same _ _ _ h.c1, (World.frozen?_setCell _ _ _ _).trans h.f0, (World.frozen?_setCell _ _ _ _).trans h.f1⟩

/-- two boxed stamps, in a later world -/
theorem rows2 {w w1 : World} {T : TypeId} {a0 a1 b0 b1 : Int} (hb : Below ((w.alloc (.cells #[.int .i64 a0, .int .i64 a1] T)).alloc (.cells #[.int .i64 b0, .int .i64 b1] T)).heap.size ((w.alloc (.cells #[.int .i64 a0, .int .i64 a1] T)).alloc (.cells #[.int .i64 b0, .int .i64 b1] T)) w1) :
    Row2 w1 w.heap.size a0 a1 ∧ Row2 w1 (w.heap.size + 1) b0 b1 := by
  refine ⟨((Row2.new w T a0 a1).later (boxed (Below.refl _ _) _)).later hb, ?_⟩
  have y := Row2.new (w.alloc (.cells #[.int .i64 a0, .int .i64 a1] T)) T b0 b1
  simp only [World.size_alloc] at y
  exact y.later hb

end Go.Proofs.YtnbgjiibpnoieaaDoor
