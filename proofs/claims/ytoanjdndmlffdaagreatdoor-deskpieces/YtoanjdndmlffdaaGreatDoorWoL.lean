import Derived.Test.YtoanjdndmlffdaaGreatDoorSiteJ
namespace Go.Proofs.YtoanjdndmlffdaaGreatDoor
open Go.RowKit
theorem client_results {tmps : Array Value} {w : World} {b5 b6 : Nat} {p0 p1 p2 p3 s0 s1 s2 s3 : Int} {v4 v7 v8 : Value} (h5 : RowL w b5 [.int .i64 p0, .int .i64 p1, .int .i64 p2, .int .i64 p3]) (h6 : RowL w b6 [.int .i64 s0, .int .i64 s1, .int .i64 s2, .int .i64 s3]) (t4 : tmps[4]? = some v4) (t5 : tmps[5]? = some (.pointer (some ⟨b5, 0, none⟩))) (t6 : tmps[6]? = some (.pointer (some ⟨b6, 0, none⟩))) (t7 : tmps[7]? = some v7) (t8 : tmps[8]? = some v8) :
    (results Tryz.f101 tmps).run Tryz.prog w = .ok (.tuple #[v4, .agg #[.int .i64 p0, .int .i64 p1, .int .i64 p2, .int .i64 p3], .agg #[.int .i64 s0, .int .i64 s1, .int .i64 s2, .int .i64 s3], v7, v8]) w := by
  have z0 := h5.cell 0 _ rfl
  have z1 := h5.cell 1 _ rfl
  have z2 := h5.cell 2 _ rfl
  have z3 := h5.cell 3 _ rfl
  have y0 := h6.cell 0 _ rfl
  have y1 := h6.cell 1 _ rfl
  have y2 := h6.cell 2 _ rfl
  have y3 := h6.cell 3 _ rfl
  simp [results, Tryz.results101, go_sem, t4, t5, t6, t7, t8, z0, z1, z2, z3, y0, y1, y2, y3]
theorem vec_set4 {W : World} {b : Nat} {xs : List Value} (h : RowL W b xs) (hx : xs.length = 4) (x0 x1 x2 x3 : Int) : RowL ((((W.setCell ⟨b, 0, none⟩ (.int .i64 x0)).setCell ⟨b, 1, none⟩ (.int .i64 x1)).setCell ⟨b, 2, none⟩ (.int .i64 x2)).setCell ⟨b, 3, none⟩ (.int .i64 x3)) b [.int .i64 x0, .int .i64 x1, .int .i64 x2, .int .i64 x3] := by
  obtain ⟨a, b', c, d, rfl⟩ : ∃ a b c d, xs = [a, b, c, d] := by
    match xs, hx with
    | [a, b, c, d], _ => exact ⟨a, b, c, d, rfl⟩
  exact (((h.set 0 _ (by simp)).set 1 _ (by simp)).set 2 _ (by simp)).set 3 _ (by simp)
theorem vec_far4 {W : World} {b q : Nat} {xs : List Value} (h : RowL W b xs) (hn : q ≠ b) (x0 x1 x2 x3 : Int) : RowL ((((W.setCell ⟨q, 0, none⟩ (.int .i64 x0)).setCell ⟨q, 1, none⟩ (.int .i64 x1)).setCell ⟨q, 2, none⟩ (.int .i64 x2)).setCell ⟨q, 3, none⟩ (.int .i64 x3)) b xs :=
  (((h.far _ _ hn).far _ _ hn).far _ _ hn).far _ _ hn
set_option maxRecDepth 100000 in
set_option maxHeartbeats 8000000 in
theorem pw_client {b : Nat} {G : Nat → Prop} {W : WoS} (w : World) (h : PW w b G W) {i : Nat} (hi : i < W.c) :
    Calls Tryz.prog 101 #[.pointer (some ⟨b, 0, none⟩), .int .i64 i] w fun e w' => e = .returned (.tuple #[.int .i64 (W.at_ i), .agg #[.int .i64 (W.ses i).p0, .int .i64 (W.ses i).p1, .int .i64 (W.ses i).p2, .int .i64 (W.ses i).p3], .agg #[.int .i64 (W.ses i).s0, .int .i64 (W.ses i).s1, .int .i64 (W.ses i).s2, .int .i64 (W.ses i).s3], .bool (W.ses i).opn, .nilIface]) ∧ Below w.heap.size w w' := by
  obtain ⟨M, Gs, h, hG⟩ := h
  have hb0 := boxed (boxed (Below.refl _ w) (.cells #[.int .i64 0, .int .i64 0, .int .i64 0, .int .i64 0] 77)) (.cells #[.int .i64 0, .int .i64 0, .int .i64 0, .int .i64 0] 77)
  obtain ⟨cb, cc, c1, hcc, hcb, x0, x1⟩ := (h.later hb0).client hi
  have IC := isClient_is (k := i) (v := true) _ c1 (by simp; omega)
  have hb1 := (boxed hb0 (.cells #[.pointer (some ⟨M.bs i, 0, none⟩), .int .i64 (W.at_ i)] 171)).drew
  have PN : Hid (∀ w' : World, Below w.heap.size w w' → Calls Tryz.prog 147 #[.pointer (some ⟨M.bs i, 0, none⟩)] w' fun e w'' => e = .returned (.agg #[.int .i64 (W.ses i).p0, .int .i64 (W.ses i).p1, .int .i64 (W.ses i).p2, .int .i64 (W.ses i).p3]) ∧ Below w'.heap.size w' w'') := fun w' hb => ppast_any w' ((h.sess hi).later hb)
  have SN : Hid (∀ w' : World, Below w.heap.size w w' → Calls Tryz.prog 148 #[.pointer (some ⟨M.bs i, 0, none⟩)] w' fun e w'' => e = .returned (.agg #[.int .i64 (W.ses i).s0, .int .i64 (W.ses i).s1, .int .i64 (W.ses i).s2, .int .i64 (W.ses i).s3]) ∧ Below w'.heap.size w' w'') := fun w' hb => psnap_any w' ((h.sess hi).later hb)
  have ON : Hid (∀ w' : World, Below w.heap.size w w' → Calls Tryz.prog 149 #[.pointer (some ⟨M.bs i, 0, none⟩)] w' fun e w'' => e = .returned (.bool (W.ses i).opn) ∧ Below w'.heap.size w' w'') := fun w' hb => popen_any w' ((h.sess hi).later hb)
  have R5 : RowL ((w.alloc (.cells #[.int .i64 0, .int .i64 0, .int .i64 0, .int .i64 0] 77)).alloc (.cells #[.int .i64 0, .int .i64 0, .int .i64 0, .int .i64 0] 77)) w.heap.size [.int .i64 0, .int .i64 0, .int .i64 0, .int .i64 0] := (RowL.new (w := w) (T := 77) [.int .i64 0, .int .i64 0, .int .i64 0, .int .i64 0] rfl).boxed _
  have R6 : RowL ((w.alloc (.cells #[.int .i64 0, .int .i64 0, .int .i64 0, .int .i64 0] 77)).alloc (.cells #[.int .i64 0, .int .i64 0, .int .i64 0, .int .i64 0] 77)) (w.heap.size + 1) [.int .i64 0, .int .i64 0, .int .i64 0, .int .i64 0] := RowL.new (T := 77) [.int .i64 0, .int .i64 0, .int .i64 0, .int .i64 0] (by simp)
  have q1 : (i : Int) < (W.c : Int) := by omega
  have hlt := (h.later hb0).box.lt
  have HB : Hid (RowL ((w.alloc (.cells #[.int .i64 0, .int .i64 0, .int .i64 0, .int .i64 0] 77)).alloc (.cells #[.int .i64 0, .int .i64 0, .int .i64 0, .int .i64 0] 77)) w.heap.size [.int .i64 0, .int .i64 0, .int .i64 0, .int .i64 0] ∧ RowL ((w.alloc (.cells #[.int .i64 0, .int .i64 0, .int .i64 0, .int .i64 0] 77)).alloc (.cells #[.int .i64 0, .int .i64 0, .int .i64 0, .int .i64 0] 77)) (w.heap.size + 1) [.int .i64 0, .int .i64 0, .int .i64 0, .int .i64 0]) := ⟨R5, R6⟩
  have hbx := (boxed (Below.refl _ ((w.alloc (.cells #[.int .i64 0, .int .i64 0, .int .i64 0, .int .i64 0] 77)).alloc (.cells #[.int .i64 0, .int .i64 0, .int .i64 0, .int .i64 0] 77))) (.cells #[.pointer (some ⟨M.bs i, 0, none⟩), .int .i64 (W.at_ i)] 171)).drew
  have RC : RowL (((w.alloc (.cells #[.int .i64 0, .int .i64 0, .int .i64 0, .int .i64 0] 77)).alloc (.cells #[.int .i64 0, .int .i64 0, .int .i64 0, .int .i64 0] 77)).alloc (.cells #[.pointer (some ⟨M.bs i, 0, none⟩), .int .i64 (W.at_ i)] 171)).drew (w.heap.size + 1 + 1) [.pointer (some ⟨M.bs i, 0, none⟩), .int .i64 (W.at_ i)] := (RowL.new (T := 171) [.pointer (some ⟨M.bs i, 0, none⟩), .int .i64 (W.at_ i)] (by simp)).drew
  have HC : (RowL (((w.alloc (.cells #[.int .i64 0, .int .i64 0, .int .i64 0, .int .i64 0] 77)).alloc (.cells #[.int .i64 0, .int .i64 0, .int .i64 0, .int .i64 0] 77)).alloc (.cells #[.pointer (some ⟨M.bs i, 0, none⟩), .int .i64 (W.at_ i)] 171)).drew (w.heap.size + 1 + 1) [.pointer (some ⟨M.bs i, 0, none⟩), .int .i64 (W.at_ i)]) := RC
  have Y0 := fun (w' : World) (h : RowL w' (w.heap.size + 1 + 1) [.pointer (some ⟨M.bs i, 0, none⟩), .int .i64 (W.at_ i)]) => h.cell 0 _ rfl
  have Y1 := fun (w' : World) (h : RowL w' (w.heap.size + 1 + 1) [.pointer (some ⟨M.bs i, 0, none⟩), .int .i64 (W.at_ i)]) => h.cell 1 _ rfl
  clear h hG R5 R6 RC
  go_enter Tryz.func101, Tryz.ntmps101
  go_wp2_with fail
  refine IC.mono ?_
  rintro e w2 ⟨rfl, hw2⟩
  have hw3 := hw2.symm
  clear hw2 IC
  subst hw3
  go_wp2_with fail
  go_region_held3 (fun w' => RowL w' (w.heap.size + 1 + 1) [.pointer (some ⟨M.bs i, 0, none⟩), .int .i64 (W.at_ i)]) (first | with_reducible assumption | (with_reducible refine vec_far4 ?_ (by omega) _ _ _ _; with_reducible assumption))
    (first
      | (go_at_call 147; (with_reducible refine (PN.out _ hb1).mono ?_); rintro e w3 ⟨rfl, hb3⟩; have C3 := HC.later hb3)
      | (go_at_call 148; (with_reducible refine (SN.out _ (behind hb1 hb3)).mono ?_); rintro e w4 ⟨rfl, hb4⟩; have C4 := C3.later hb4)
      | (go_at_call 149; (with_reducible refine (ON.out _ (behind (behind hb1 hb3) hb4)).mono ?_); rintro e w5 ⟨rfl, hb5⟩; have C5 := C4.later hb5; have hbA := behind (behind hb3 hb4) hb5; have A5 := (HB.out.1.later hbx).later hbA; have A6 := (HB.out.2.later hbx).later hbA; have a0 := A5.cell 0 _ rfl; have a1 := A5.cell 1 _ rfl; have a2 := A5.cell 2 _ rfl; have a3 := A5.cell 3 _ rfl; have f0 := A5.free 0 (by simp); have f1 := A5.free 1 (by simp); have f2 := A5.free 2 (by simp); have f3 := A5.free 3 (by simp); have d0 := A6.cell 0 _ rfl; have d1 := A6.cell 1 _ rfl; have d2 := A6.cell 2 _ rfl; have d3 := A6.cell 3 _ rfl; have e0 := A6.free 0 (by simp); have e1 := A6.free 1 (by simp); have e2 := A6.free 2 (by simp); have e3 := A6.free 3 (by simp); have hbF := behind hb1 hbA))
  all_goals
    go_wp2_with fail
    have Z5 := vec_set4 A5 rfl (W.ses i).p0 (W.ses i).p1 (W.ses i).p2 (W.ses i).p3
    have Z6 := vec_far4 (q := w.heap.size) A6 (by omega) (W.ses i).p0 (W.ses i).p1 (W.ses i).p2 (W.ses i).p3
    have X5 := vec_far4 (q := w.heap.size + 1) Z5 (by omega) (W.ses i).s0 (W.ses i).s1 (W.ses i).s2 (W.ses i).s3
    have X6 := vec_set4 Z6 rfl (W.ses i).s0 (W.ses i).s1 (W.ses i).s2 (W.ses i).s3
    have hbZ := below_set4 (b := w.heap.size + 1) (below_set4 (b := w.heap.size) hbF (by omega) (W.ses i).p0 (W.ses i).p1 (W.ses i).p2 (W.ses i).p3) (by omega) (W.ses i).s0 (W.ses i).s1 (W.ses i).s2 (W.ses i).s3
    refine bodyPost_ret (client_results X5 X6 rfl rfl rfl rfl rfl) rfl ⟨rfl, hbZ⟩
end Go.Proofs.YtoanjdndmlffdaaGreatDoor
