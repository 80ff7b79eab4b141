/-
  The reader of package wire: what write does, as the model runs it.
-/
import Derived.Test.YteebebahlegmlaaReadVec
namespace Go.Proofs.Yteebebahlegmlaa
open Go.RowKit

theorem NumIs.nonneg {most : Int} {R R' : List UInt8} {wrong wrong' : Bool} {v : Int} (h : NumIs most R wrong v R' wrong') : 0 ≤ v := by
  rcases h.2 with ⟨h, _, _⟩ | ⟨_, h, _⟩
  · exact (rd_sound 5 R v R' h).1.1
  · omega

/-- block b holds a write, and may be written -/
structure RowW (w : World) (b : Nat) (key : Int) (data : ByteArray) (gone : Bool) : Prop where
  c0 : w.cell? ⟨b, 0, none⟩ = some (.int .i64 key)
  c1 : w.cell? ⟨b, 1, none⟩ = some (.string data)
  c2 : w.cell? ⟨b, 2, none⟩ = some (.bool gone)
  f0 : w.frozen? ⟨b, 0, none⟩ = false
  f1 : w.frozen? ⟨b, 1, none⟩ = false
  f2 : w.frozen? ⟨b, 2, none⟩ = false

theorem RowW.lt {w : World} {b : Nat} {key : Int} {data : ByteArray} {gone : Bool} (h : RowW w b key data gone) : b < w.heap.size := World.block_lt_of_cell? _ _ h.c0
theorem RowW.kept {w w' : World} {b : Nat} {key : Int} {data : ByteArray} {gone : Bool} (h : RowW w b key data gone) (e : w'.heap[b]? = w.heap[b]?) : RowW w' b key data gone := by
  constructor
  · rw [World.cell?_of_block (w := w) e]; exact h.c0
  · rw [World.cell?_of_block (w := w) e]; exact h.c1
  · rw [World.cell?_of_block (w := w) e]; exact h.c2
  · rw [World.frozen?_of_block (w := w) e]; exact h.f0
  · rw [World.frozen?_of_block (w := w) e]; exact h.f1
  · rw [World.frozen?_of_block (w := w) e]; exact h.f2
theorem RowW.only {w w' : World} {rb b : Nat} {key : Int} {data : ByteArray} {gone : Bool} (h : RowW w b key data gone) (hO : Only rb w w') (hne : b ≠ rb) : RowW w' b key data gone :=
  h.kept (hO.block b h.lt (fun x => by injection x with x; exact hne x))
theorem RowW.far {w : World} {b : Nat} {key : Int} {data : ByteArray} {gone : Bool} (h : RowW w b key data gone) (p : Addr) (u : Value) (hn : p.block ≠ b) : RowW (w.setCell p u) b key data gone :=
  h.kept (Below.heap_setCell _ _ _ _ (Ne.symm hn))
theorem RowW.boxed {w : World} {b : Nat} {key : Int} {data : ByteArray} {gone : Bool} (h : RowW w b key data gone) (o : Obj) : RowW (w.alloc o) b key data gone :=
  h.kept (Below.heap_alloc _ _ _ h.lt)
theorem RowW.new {w : World} {T : TypeId} {n : Nat} {key : Int} {data : ByteArray} {gone : Bool} (hn : w.heap.size = n) : RowW (w.alloc (.cells #[.int .i64 key, .string data, .bool gone] T)) n key data gone := by
  subst hn
  constructor <;> go_simp
theorem RowW.set0 {w : World} {b : Nat} {key : Int} {data : ByteArray} {gone : Bool} (h : RowW w b key data gone) (x : Int) : RowW (w.setCell ⟨b, 0, none⟩ (.int .i64 x)) b x data gone :=
  ⟨World.cell?_setCell_same _ _ _ h.c0, (World.cell?_setCell_other _ _ _ _ (by simp)).trans h.c1, (World.cell?_setCell_other _ _ _ _ (by simp)).trans h.c2, (World.frozen?_setCell _ _ _ _).trans h.f0, (World.frozen?_setCell _ _ _ _).trans h.f1, (World.frozen?_setCell _ _ _ _).trans h.f2⟩
theorem RowW.set1 {w : World} {b : Nat} {key : Int} {data : ByteArray} {gone : Bool} (h : RowW w b key data gone) (x : ByteArray) : RowW (w.setCell ⟨b, 1, none⟩ (.string x)) b key x gone :=
  ⟨(World.cell?_setCell_other _ _ _ _ (by simp)).trans h.c0, World.cell?_setCell_same _ _ _ h.c1, (World.cell?_setCell_other _ _ _ _ (by simp)).trans h.c2, (World.frozen?_setCell _ _ _ _).trans h.f0, (World.frozen?_setCell _ _ _ _).trans h.f1, (World.frozen?_setCell _ _ _ _).trans h.f2⟩
theorem RowW.set2 {w : World} {b : Nat} {key : Int} {data : ByteArray} {gone : Bool} (h : RowW w b key data gone) (x : Bool) : RowW (w.setCell ⟨b, 2, none⟩ (.bool x)) b key data x :=
  ⟨(World.cell?_setCell_other _ _ _ _ (by simp)).trans h.c0, (World.cell?_setCell_other _ _ _ _ (by simp)).trans h.c1, World.cell?_setCell_same _ _ _ h.c2, (World.frozen?_setCell _ _ _ _).trans h.f0, (World.frozen?_setCell _ _ _ _).trans h.f1, (World.frozen?_setCell _ _ _ _).trans h.f2⟩

/-- what write is -/
def WriteIs (R : List UInt8) (wrong : Bool) (key : Int) (data : ByteArray) (gone : Bool) (R' : List UInt8) (wrong' : Bool) : Prop :=
  ∃ R0 x0 R1 x1 R2 x2 g n, NumIs 7 R wrong key R0 x0 ∧ NumIs 1 R0 x0 g R1 x1 ∧ gone = (g == 1) ∧ NumIs 12 R1 x1 n R2 x2 ∧ TakeIs R2 x2 n data R' wrong'
def WritePost (R : List UInt8) (wrong : Bool) (rb : Nat) (w : World) (key : Int) (data : ByteArray) (gone : Bool) (w' : World) : Prop :=
  ∃ R' wrong', WriteIs R wrong key data gone R' wrong' ∧ Rd w' rb R' wrong' ∧ Only rb w w'

set_option maxHeartbeats 4000000 in
theorem write_any (rb : Nat) (R : List UInt8) (wrong : Bool) (w : World) (hR : Rd w rb R wrong) (hl : R.length ≤ 1000000) :
    Calls Try.prog 39 #[.pointer (some ⟨rb, 0, none⟩)] w fun e w' =>
      ∃ key data gone, e = .returned (.agg #[.int .i64 key, .string data, .bool gone]) ∧ WritePost R wrong rb w key data gone w' := by
  have hlt := hR.lt
  have hne : w.heap.size + 1 ≠ rb := by omega
  have hnr : w.heap.size ≠ rb := by omega
  have RV := (RowW.new (T := 43) (key := 0) (data := ⟨#[]⟩) (gone := false) (Eq.refl w.heap.size)).boxed (.cells #[.int .i64 0, .string ⟨#[]⟩, .bool false] 43)
  have RW : RowW ((w.alloc (.cells #[.int .i64 0, .string ⟨#[]⟩, .bool false] 43)).alloc (.cells #[.int .i64 0, .string ⟨#[]⟩, .bool false] 43)) (w.heap.size + 1) 0 ⟨#[]⟩ false := RowW.new (by simp)
  have hO : Only rb w ((w.alloc (.cells #[.int .i64 0, .string ⟨#[]⟩, .bool false] 43)).alloc (.cells #[.int .i64 0, .string ⟨#[]⟩, .bool false] 43)) := only_new (only_new (Only.refl _ _))
  go_enter Try.func39, Try.ntmps39
  go_wp2_with fail
  refine (rdNumber_any rb R wrong 7 _ ((hR.alloc _).alloc _)).mono ?_
  rintro e w1 ⟨key, rfl, R0, x0, n0, D0, y0⟩
  have N0 : Hid (NumIs 7 R wrong key R0 x0) := n0
  replace RW := RW.only y0 hne
  replace RV := RV.only y0 hnr
  replace hO := hO.trans y0 (.inl rfl)
  clear n0 y0
  replace D0 := D0.far ⟨w.heap.size + 1, 0, none⟩ (.int .i64 key) (by show rb < w.heap.size + 1; omega)
  replace hO := only_far (p := ⟨w.heap.size + 1, 0, none⟩) (v := .int .i64 key) hO (by show w.heap.size ≤ w.heap.size + 1; omega)
  have RX := RW.set0 key
  replace RV := RV.far ⟨w.heap.size + 1, 0, none⟩ (.int .i64 key) (by show w.heap.size + 1 ≠ w.heap.size; omega)
  have c0 := RW.c0
  have f0 := RW.f0
  go_wp2_with fail
  clear c0 f0 RW
  have RW := RX
  clear RX
  refine (rdNumber_any rb R0 x0 1 _ D0).mono ?_
  rintro e w2 ⟨g, rfl, R1, x1, n1, D1, y1⟩
  have N1 : Hid (NumIs 1 R0 x0 g R1 x1) := n1
  replace RW := RW.only y1 hne
  replace RV := RV.only y1 hnr
  replace hO := hO.trans y1 (.inl rfl)
  clear n1 y1
  obtain ⟨gone, hg⟩ : ∃ gone : Bool, (g == 1) = gone := ⟨_, rfl⟩
  replace D1 := D1.far ⟨w.heap.size + 1, 2, none⟩ (.bool gone) (by show rb < w.heap.size + 1; omega)
  replace hO := only_far (p := ⟨w.heap.size + 1, 2, none⟩) (v := .bool gone) hO (by show w.heap.size ≤ w.heap.size + 1; omega)
  have RX := RW.set2 gone
  replace RV := RV.far ⟨w.heap.size + 1, 2, none⟩ (.bool gone) (by show w.heap.size + 1 ≠ w.heap.size; omega)
  have c2 := RW.c2
  have f2 := RW.f2
  go_wp2_with fail
  clear c2 f2 RW
  have RW := RX
  clear RX
  have HG : Hid ((g == 1) = gone) := hg
  clear hg
  refine (rdNumber_any rb R1 x1 12 _ D1).mono ?_
  rintro e w3 ⟨n, rfl, R2, x2, n2, D2, y2⟩
  have N2 : Hid (NumIs 12 R1 x1 n R2 x2) := n2
  replace RW := RW.only y2 hne
  replace RV := RV.only y2 hnr
  replace hO := hO.trans y2 (.inl rfl)
  clear n2 y2
  go_wp2_with fail
  refine (take_any rb R2 x2 n _ D2 N2.out.nonneg (by have := N0.out.1; have := N1.out.1; have := N2.out.1; omega)).mono ?_
  rintro e w4 ⟨data, rfl, R3, x3, t3, D3, y3⟩
  have T3 : Hid (TakeIs R2 x2 n data R3 x3) := t3
  replace RW := RW.only y3 hne
  replace RV := RV.only y3 hnr
  replace hO := hO.trans y3 (.inl rfl)
  clear t3 y3
  replace D3 := D3.far ⟨w.heap.size + 1, 1, none⟩ (.string data) (by show rb < w.heap.size + 1; omega)
  replace hO := only_far (p := ⟨w.heap.size + 1, 1, none⟩) (v := .string data) hO (by show w.heap.size ≤ w.heap.size + 1; omega)
  have RX := RW.set1 data
  replace RV := RV.far ⟨w.heap.size + 1, 1, none⟩ (.string data) (by show w.heap.size + 1 ≠ w.heap.size; omega)
  have D4 := ((D3.far ⟨w.heap.size, 0, none⟩ (.int .i64 key) (by show rb < w.heap.size; omega)).far ⟨w.heap.size, 1, none⟩ (.string data) (by show rb < w.heap.size; omega)).far ⟨w.heap.size, 2, none⟩ (.bool gone) (by show rb < w.heap.size; omega)
  replace hO := only_far (p := ⟨w.heap.size, 2, none⟩) (v := .bool gone) (only_far (p := ⟨w.heap.size, 1, none⟩) (v := .string data) (only_far (p := ⟨w.heap.size, 0, none⟩) (v := .int .i64 key) hO (Nat.le_refl _)) (Nat.le_refl _)) (Nat.le_refl _)
  have RZ := ((RV.set0 key).set1 data).set2 gone
  have c1 := RW.c1
  have f1 := RW.f1
  have e0 := RX.c0
  have e1 := RX.c1
  have e2 := RX.c2
  have k0 := RV.c0
  have k1 := RV.c1
  have k2 := RV.c2
  have g0 := RV.f0
  have g1 := RV.f1
  have g2 := RV.f2
  go_wp2_with fail
  have z0 := RZ.c0
  have z1 := RZ.c1
  have z2 := RZ.c2
  exact bodyPost_ret (v := .agg #[.int .i64 key, .string data, .bool gone]) (by simp [results, Try.results39, go_sem, z0, z1, z2]) rfl ⟨key, data, gone, rfl, R3, x3, ⟨R0, x0, R1, x1, R2, x2, g, n, N0.out, N1.out, HG.out.symm, N2.out, T3.out⟩, D4, hO⟩

end Go.Proofs.Yteebebahlegmlaa
