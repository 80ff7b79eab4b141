/-
  The reader of package wire: what vec does, as the model runs it.
-/
import Derived.Test.YteebebahlegmlaaTake
import Derived.Test.YteebebahlegmlaaRow
namespace Go.Proofs.Yteebebahlegmlaa
open Go.RowKit

theorem Row4.only {w w' : World} {rb b : Nat} {a0 a1 a2 a3 : Int} (h : Row4 w b a0 a1 a2 a3) (hO : Only rb w w') (hne : b ≠ rb) : Row4 w' b a0 a1 a2 a3 := by
  have e : w'.heap[b]? = w.heap[b]? := hO.block b h.lt (fun x => by injection x with x; exact hne x)
  constructor
  · rw [World.cell?_of_block (w := w) e]; exact h.c0
  · rw [World.cell?_of_block (w := w) e]; exact h.c1
  · rw [World.cell?_of_block (w := w) e]; exact h.c2
  · rw [World.cell?_of_block (w := w) e]; exact h.c3
  · rw [World.frozen?_of_block (w := w) e]; exact h.f0
  · rw [World.frozen?_of_block (w := w) e]; exact h.f1
  · rw [World.frozen?_of_block (w := w) e]; exact h.f2
  · rw [World.frozen?_of_block (w := w) e]; exact h.f3

theorem Rd.lt {w : World} {rb : Nat} {R : List UInt8} {wrong : Bool} (h : Rd w rb R wrong) : rb < w.heap.size := World.block_lt_of_cell? _ _ h.c1
/-- the bytes' block is there -/
theorem Rd.kept {w w' : World} {rb : Nat} {R : List UInt8} {wrong : Bool} (h : Rd w rb R wrong) (hk : ∀ k, k < w.heap.size → w'.heap[k]? = w.heap[k]?) : Rd w' rb R wrong := by
  obtain ⟨a, c, q0, hc, hB⟩ := h.rest
  have e := hk rb h.lt
  refine ⟨⟨a, c, by rw [World.cell?_of_block (w := w) e]; exact q0, hc, ?_⟩, by rw [World.cell?_of_block (w := w) e]; exact h.c1, by rw [World.frozen?_of_block (w := w) e]; exact h.f0, by rw [World.frozen?_of_block (w := w) e]; exact h.f1⟩
  rcases hB with hB | ⟨b, o, ea, hne, hcell⟩
  · exact .inl hB
  · refine .inr ⟨b, o, ea, hne, fun j u hu => ?_⟩
    have hx := hcell j u hu
    rw [World.cell?_of_block (w := w) (hk b (World.block_lt_of_cell? _ _ hx))]
    exact hx
theorem Rd.alloc {w : World} {rb : Nat} {R : List UInt8} {wrong : Bool} (h : Rd w rb R wrong) (o : Obj) : Rd (w.alloc o) rb R wrong := h.kept fun k hk => Below.heap_alloc w o k hk

/-- a store behind it -/
theorem Rd.far {w : World} {rb : Nat} {R : List UInt8} {wrong : Bool} (h : Rd w rb R wrong) (p : Addr) (v : Value) (hp : rb < p.block) : Rd (w.setCell p v) rb R wrong := by
  obtain ⟨a, c, q0, hc, hB⟩ := h.rest
  have e : (w.setCell p v).heap[rb]? = w.heap[rb]? := Below.heap_setCell w p v rb (by omega)
  refine ⟨⟨a, c, by rw [World.cell?_of_block (w := w) e]; exact q0, hc, ?_⟩, by rw [World.cell?_of_block (w := w) e]; exact h.c1, by rw [World.frozen?_of_block (w := w) e]; exact h.f0, by rw [World.frozen?_of_block (w := w) e]; exact h.f1⟩
  rcases hB with hB | ⟨b, o, ea, hne, hcell⟩
  · exact .inl hB
  · refine .inr ⟨b, o, ea, hne, fun j u hu => ?_⟩
    rw [World.cell?_of_block (w := w) (Below.heap_setCell w p v b (by omega))]
    exact hcell j u hu
/-- .. is a store into what is new -/
theorem only_far {g : Nat} {w w1 : World} {p : Addr} {v : Value} (h : Only g w w1) (hp : w.heap.size ≤ p.block) : Only g w (w1.setCell p v) :=
  ⟨h.os, h.tape, h.output, by simpa [World.setCell] using h.size, fun k hk hne => (Below.heap_setCell w1 p v k (by omega)).trans (h.block k hk hne)⟩
theorem only_new {g : Nat} {w w1 : World} {o : Obj} (h : Only g w w1) : Only g w (w1.alloc o) := h.trans (g' := g) (Only.ofBelow (boxed (Below.refl _ _) o)) (.inl rfl)

def VecPost (R : List UInt8) (wrong : Bool) (rb : Nat) (w : World) (v0 v1 v2 v3 : Int) (w' : World) : Prop :=
  ∃ R0 x0 R1 x1 R2 x2 R3 x3, NumIs 1099511627776 R wrong v0 R0 x0 ∧ NumIs 1099511627776 R0 x0 v1 R1 x1 ∧ NumIs 1099511627776 R1 x1 v2 R2 x2 ∧ NumIs 1099511627776 R2 x2 v3 R3 x3 ∧ Rd w' rb R3 x3 ∧ Only rb w w'

set_option maxHeartbeats 4000000 in
theorem vec_any (rb : Nat) (R : List UInt8) (wrong : Bool) (w : World) (hR : Rd w rb R wrong) :
    Calls Try.prog 38 #[.pointer (some ⟨rb, 0, none⟩)] w fun e w' =>
      ∃ v0 v1 v2 v3, e = .returned (.agg #[.int .i64 v0, .int .i64 v1, .int .i64 v2, .int .i64 v3]) ∧ VecPost R wrong rb w v0 v1 v2 v3 w' := by
  have hlt := hR.lt
  have hne : w.heap.size + 1 ≠ rb := by omega
  have hnr : w.heap.size ≠ rb := by omega
  have RV := (Row4.new w 34 0 0 0 0).boxed (.cells #[.int .i64 0, .int .i64 0, .int .i64 0, .int .i64 0] 34)
  have RW : Row4 ((w.alloc (.cells #[.int .i64 0, .int .i64 0, .int .i64 0, .int .i64 0] 34)).alloc (.cells #[.int .i64 0, .int .i64 0, .int .i64 0, .int .i64 0] 34)) (w.heap.size + 1) 0 0 0 0 := Row4.newest (by simp)
  have hO : Only rb w ((w.alloc (.cells #[.int .i64 0, .int .i64 0, .int .i64 0, .int .i64 0] 34)).alloc (.cells #[.int .i64 0, .int .i64 0, .int .i64 0, .int .i64 0] 34)) := only_new (only_new (Only.refl _ _))
  go_enter Try.func38, Try.ntmps38
  go_wp2_with fail
  refine wp_loop_rounds 5 ?_
  rw [rounds_succ]
  go_wp2_with fail
  refine (rdNumber_any rb R wrong 1099511627776 _ ((hR.alloc _).alloc _)).mono ?_
  rintro e w1 ⟨v0, rfl, R0, x0, n0, D0, y0⟩
  have N0 : Hid (NumIs 1099511627776 R wrong v0 R0 x0) := n0
  replace RW := RW.only y0 hne
  replace RV := RV.only y0 hnr
  replace hO := hO.trans y0 (.inl rfl)
  clear n0 y0
  replace D0 := D0.far ⟨w.heap.size + 1, 0, none⟩ (.int .i64 v0) (by show rb < w.heap.size + 1; omega)
  replace hO := only_far (p := ⟨w.heap.size + 1, 0, none⟩) (v := .int .i64 v0) hO (by show w.heap.size ≤ w.heap.size + 1; omega)
  have RX := RW.set0 v0
  replace RV := RV.far ⟨w.heap.size + 1, 0, none⟩ (.int .i64 v0) (by show w.heap.size + 1 ≠ w.heap.size; omega)
  have c0 := RW.c0
  have c1 := RW.c1
  have c2 := RW.c2
  have c3 := RW.c3
  have f0 := RW.f0
  have f1 := RW.f1
  have f2 := RW.f2
  have f3 := RW.f3
  go_wp2_with fail
  clear c0 c1 c2 c3 f0 f1 f2 f3 RW
  have RW := RX
  clear RX
  rw [rounds_succ]
  go_wp2_with fail
  refine (rdNumber_any rb R0 x0 1099511627776 _ D0).mono ?_
  rintro e w2 ⟨v1, rfl, R1, x1, n1, D1, y1⟩
  have N1 : Hid (NumIs 1099511627776 R0 x0 v1 R1 x1) := n1
  replace RW := RW.only y1 hne
  replace RV := RV.only y1 hnr
  replace hO := hO.trans y1 (.inl rfl)
  clear n1 y1
  replace D1 := D1.far ⟨w.heap.size + 1, 1, none⟩ (.int .i64 v1) (by show rb < w.heap.size + 1; omega)
  replace hO := only_far (p := ⟨w.heap.size + 1, 1, none⟩) (v := .int .i64 v1) hO (by show w.heap.size ≤ w.heap.size + 1; omega)
  have RX := RW.set1 v1
  replace RV := RV.far ⟨w.heap.size + 1, 1, none⟩ (.int .i64 v1) (by show w.heap.size + 1 ≠ w.heap.size; omega)
  have c0 := RW.c0
  have c1 := RW.c1
  have c2 := RW.c2
  have c3 := RW.c3
  have f0 := RW.f0
  have f1 := RW.f1
  have f2 := RW.f2
  have f3 := RW.f3
  go_wp2_with fail
  clear c0 c1 c2 c3 f0 f1 f2 f3 RW
  have RW := RX
  clear RX
  rw [rounds_succ]
  go_wp2_with fail
  refine (rdNumber_any rb R1 x1 1099511627776 _ D1).mono ?_
  rintro e w3 ⟨v2, rfl, R2, x2, n2, D2, y2⟩
  have N2 : Hid (NumIs 1099511627776 R1 x1 v2 R2 x2) := n2
  replace RW := RW.only y2 hne
  replace RV := RV.only y2 hnr
  replace hO := hO.trans y2 (.inl rfl)
  clear n2 y2
  replace D2 := D2.far ⟨w.heap.size + 1, 2, none⟩ (.int .i64 v2) (by show rb < w.heap.size + 1; omega)
  replace hO := only_far (p := ⟨w.heap.size + 1, 2, none⟩) (v := .int .i64 v2) hO (by show w.heap.size ≤ w.heap.size + 1; omega)
  have RX := RW.set2 v2
  replace RV := RV.far ⟨w.heap.size + 1, 2, none⟩ (.int .i64 v2) (by show w.heap.size + 1 ≠ w.heap.size; omega)
  have c0 := RW.c0
  have c1 := RW.c1
  have c2 := RW.c2
  have c3 := RW.c3
  have f0 := RW.f0
  have f1 := RW.f1
  have f2 := RW.f2
  have f3 := RW.f3
  go_wp2_with fail
  clear c0 c1 c2 c3 f0 f1 f2 f3 RW
  have RW := RX
  clear RX
  rw [rounds_succ]
  go_wp2_with fail
  refine (rdNumber_any rb R2 x2 1099511627776 _ D2).mono ?_
  rintro e w4 ⟨v3, rfl, R3, x3, n3, D3, y3⟩
  have N3 : Hid (NumIs 1099511627776 R2 x2 v3 R3 x3) := n3
  replace RW := RW.only y3 hne
  replace RV := RV.only y3 hnr
  replace hO := hO.trans y3 (.inl rfl)
  clear n3 y3
  replace D3 := D3.far ⟨w.heap.size + 1, 3, none⟩ (.int .i64 v3) (by show rb < w.heap.size + 1; omega)
  replace hO := only_far (p := ⟨w.heap.size + 1, 3, none⟩) (v := .int .i64 v3) hO (by show w.heap.size ≤ w.heap.size + 1; omega)
  have RX := RW.set3 v3
  replace RV := RV.far ⟨w.heap.size + 1, 3, none⟩ (.int .i64 v3) (by show w.heap.size + 1 ≠ w.heap.size; omega)
  have c0 := RW.c0
  have c1 := RW.c1
  have c2 := RW.c2
  have c3 := RW.c3
  have f0 := RW.f0
  have f1 := RW.f1
  have f2 := RW.f2
  have f3 := RW.f3
  go_wp2_with fail
  clear c0 c1 c2 c3 f0 f1 f2 f3 RW
  have RW := RX
  clear RX
  rw [rounds_succ]
  have D4 := (((D3.far ⟨w.heap.size, 0, none⟩ (.int .i64 v0) (by show rb < w.heap.size; omega)).far ⟨w.heap.size, 1, none⟩ (.int .i64 v1) (by show rb < w.heap.size; omega)).far ⟨w.heap.size, 2, none⟩ (.int .i64 v2) (by show rb < w.heap.size; omega)).far ⟨w.heap.size, 3, none⟩ (.int .i64 v3) (by show rb < w.heap.size; omega)
  replace hO := only_far (p := ⟨w.heap.size, 3, none⟩) (v := .int .i64 v3) (only_far (p := ⟨w.heap.size, 2, none⟩) (v := .int .i64 v2) (only_far (p := ⟨w.heap.size, 1, none⟩) (v := .int .i64 v1) (only_far (p := ⟨w.heap.size, 0, none⟩) (v := .int .i64 v0) hO (Nat.le_refl _)) (Nat.le_refl _)) (Nat.le_refl _)) (Nat.le_refl _)
  have RZ := RV.set (x0 := v0) (x1 := v1) (x2 := v2) (x3 := v3)
  have c0 := RW.c0
  have c1 := RW.c1
  have c2 := RW.c2
  have c3 := RW.c3
  have k0 := RV.c0
  have k1 := RV.c1
  have k2 := RV.c2
  have k3 := RV.c3
  have f0 := RV.f0
  have f1 := RV.f1
  have f2 := RV.f2
  have f3 := RV.f3
  go_wp2_with fail
  have z0 := RZ.c0
  have z1 := RZ.c1
  have z2 := RZ.c2
  have z3 := RZ.c3
  exact bodyPost_ret (v := .agg #[.int .i64 v0, .int .i64 v1, .int .i64 v2, .int .i64 v3]) (by simp [results, Try.results38, go_sem, z0, z1, z2, z3]) rfl ⟨v0, v1, v2, v3, rfl, R0, x0, R1, x1, R2, x2, R3, x3, N0.out, N1.out, N2.out, N3.out, D4, hO⟩

end Go.Proofs.Yteebebahlegmlaa
