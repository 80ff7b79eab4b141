/-
  'copsekeep.VectorOrder': the walk: the law returns true, whatever the three vectors are; nothing that was there is written.
-/
import Derived.Test.YtbmadccfipbjlaaVector
import Derived.Test.YtbmadccfipbjlaaCovers
import Derived.Test.YtbmadccfipbjlaaRow
import Derived.Test.YtbmadccfipbjlaaEqVec
import Derived.Deep.DeepCutAuto
namespace Go.Proofs.Ytbmadccfipbjlaa
open Go.RowKit

set_option maxHeartbeats 1000000 in
theorem joined_any (w : World) :
    Calls Try.prog 19 #[] w fun e w' => e = .returned (.bool true) ∧ Below w.heap.size w w' := by
  have he := eqVecB
  have hne := Later.one
  go_enter Try.func19, Try.ntmps19
  go_wp2_with fail
  refine (max_any _ _ _ _ _ _ _ _ _).mono ?_
  rintro e w1 ⟨rfl, hb1⟩
  go_wp2_with fail
  refine (covers_any _ _ _ _ _ _ _ _ _).mono ?_
  rintro e w2 ⟨rfl, hb2⟩
  go_wp2_with fail
  refine (covers_any _ _ _ _ _ _ _ _ _).mono ?_
  rintro e w3 ⟨rfl, hb3⟩
  go_wp2
  go_ret
  exact ⟨rfl, behind (behind hb1 hb2) hb3⟩

set_option maxHeartbeats 10000000 in
set_option maxRecDepth 20000 in
theorem order_any (a0 a1 a2 a3 b0 b1 b2 b3 c0 c1 c2 c3 : Int) (w : World) :
    Calls Try.prog 5 #[.agg #[.int .i64 a0, .int .i64 a1, .int .i64 a2, .int .i64 a3], .agg #[.int .i64 b0, .int .i64 b1, .int .i64 b2, .int .i64 b3], .agg #[.int .i64 c0, .int .i64 c1, .int .i64 c2, .int .i64 c3]] w fun e w' => e = .returned (.bool true) ∧ Below w.heap.size w w' := by
  have he := eqVecB
  have hne := Later.one
  have hsm := same4_self
  go_enter Try.func5, Try.ntmps5
  go_wp2_with fail
  refine (joined_any _).mono ?_
  rintro e w1 ⟨rfl, hb1⟩
  have A := Row4.new w 34 a0 a1 a2 a3
  have B := Row4.new (w.alloc (.cells #[.int .i64 a0, .int .i64 a1, .int .i64 a2, .int .i64 a3] 34)) 34 b0 b1 b2 b3
  have C := Row4.new ((w.alloc (.cells #[.int .i64 a0, .int .i64 a1, .int .i64 a2, .int .i64 a3] 34)).alloc (.cells #[.int .i64 b0, .int .i64 b1, .int .i64 b2, .int .i64 b3] 34)) 34 c0 c1 c2 c3
  simp only [World.size_alloc] at B C
  replace A := ((A.later (boxed (Below.refl _ _) (.cells #[.int .i64 b0, .int .i64 b1, .int .i64 b2, .int .i64 b3] 34))).later (boxed (Below.refl _ _) (.cells #[.int .i64 c0, .int .i64 c1, .int .i64 c2, .int .i64 c3] 34))).later hb1
  replace B := (B.later (boxed (Below.refl _ _) (.cells #[.int .i64 c0, .int .i64 c1, .int .i64 c2, .int .i64 c3] 34))).later hb1
  replace C := C.later hb1
  replace hb1 := below3 hb1
  have x0 := A.c0
  have x1 := A.c1
  have x2 := A.c2
  have x3 := A.c3
  have y0 := B.c0
  have y1 := B.c1
  have y2 := B.c2
  have y3 := B.c3
  go_wp2_with fail
  have X0 := fun (w' : World) (h : Below w1.heap.size w1 w') => cell_later h x0
  have X1 := fun (w' : World) (h : Below w1.heap.size w1 w') => cell_later h x1
  have X2 := fun (w' : World) (h : Below w1.heap.size w1 w') => cell_later h x2
  have X3 := fun (w' : World) (h : Below w1.heap.size w1 w') => cell_later h x3
  have Y0 := fun (w' : World) (h : Below w1.heap.size w1 w') => cell_later h y0
  have Y1 := fun (w' : World) (h : Below w1.heap.size w1 w') => cell_later h y1
  have Y2 := fun (w' : World) (h : Below w1.heap.size w1 w') => cell_later h y2
  have Y3 := fun (w' : World) (h : Below w1.heap.size w1 w') => cell_later h y3
  clear x0 x1 x2 x3 y0 y1 y2 y3
  go_cut [7, 8] (fun s7 s8 wx => ∃ b7 b8 : Nat, s7 = .pointer (some ⟨b7, 0, none⟩) ∧ s8 = .pointer (some ⟨b8, 0, none⟩) ∧ Below w1.heap.size w1 wx ∧ Row4 wx b7 (maxZ a0 b0) (maxZ a1 b1) (maxZ a2 b2) (maxZ a3 b3) ∧ Row4 wx b8 (minZ a0 b0) (minZ a1 b1) (minZ a2 b2) (minZ a3 b3))
  case first =>
    go_region_held3 (fun w' => Below w1.heap.size w1 w') ((repeat (first | (with_reducible assumption) | (with_reducible refine boxed ?_ _) | (with_reducible refine Below.drew ?_) | (with_reducible refine Below.setCell ?_ (by first | (simp; done) | (simp; omega)) _) | (with_reducible exact Below.refl _ _))))
      (first | (go_at_call 11; clear X0 X1 X2 X3 Y0 Y1 Y2 Y3; refine (max_any _ _ _ _ _ _ _ _ _).mono ?_; rintro e wa ⟨rfl, hba⟩; have hS : Below w1.heap.size w1 wa := behind (by assumption) hba; have hla := hS.size; obtain ⟨hc1, hf1⟩ := bcell hba; have hz1 := blt hba; have n1 := bne hba; have m1 := bne2 hba) | (go_at_call 13; refine (min_any _ _ _ _ _ _ _ _ _).mono ?_; rintro e wb ⟨rfl, hbb⟩; have hSb : Below w1.heap.size w1 wb := behind (by assumption) hbb; have hlb := hSb.size; have hab : Below wa.heap.size wa wb := (by first | exact hbb | exact behind (boxed (Below.refl _ _) _) hbb | exact behind (boxed (boxed (Below.refl _ _) _) _) hbb); have h12 := behind hba hab; obtain ⟨hc2, hf2⟩ := bcell hbb; obtain ⟨hc3, hf3⟩ := bcell h12; have hz2 := blt hbb; have hz3 := blt h12))
    all_goals
      go_wp2
      go_meet
      case rel =>
        refine ⟨_, _, rfl, rfl, by assumption, ?_, ?_⟩
        · (repeat (first | (with_reducible refine Row4.newest ?_; (first | rfl | (simp; done))) | (with_reducible refine Row4.boxed ?_ _) | (with_reducible refine Row4.set (a0 := 0) (a1 := 0) (a2 := 0) (a3 := 0) ?_) | (with_reducible refine Row4.far4 ?_ ?_; rotate_left; (first | (simp; done) | (simp; omega) | omega)))); all_goals (constructor <;> go_simp)
        · (repeat (first | (with_reducible refine Row4.newest ?_; (first | rfl | (simp; done))) | (with_reducible refine Row4.boxed ?_ _) | (with_reducible refine Row4.set (a0 := 0) (a1 := 0) (a2 := 0) (a3 := 0) ?_) | (with_reducible refine Row4.far4 ?_ ?_; rotate_left; (first | (simp; done) | (simp; omega) | omega)))); all_goals (constructor <;> go_simp)
  case rest =>
    obtain ⟨b7, b8, rfl, rfl, hb2, M, N⟩ := hcut
    replace A := A.later hb2
    replace B := B.later hb2
    replace C := C.later hb2
    clear X0 X1 X2 X3 Y0 Y1 Y2 Y3
    replace hb1 := behind hb1 hb2
    clear hb2
    have k1 := cov_max_a a0 a1 a2 a3 b0 b1 b2 b3
    have k2 := cov_max_b a0 a1 a2 a3 b0 b1 b2 b3
    have k3 := cov_a_min a0 a1 a2 a3 b0 b1 b2 b3
    have k4 := cov_b_min a0 a1 a2 a3 b0 b1 b2 b3
    have ar0 := A.c0
    have ar1 := A.c1
    have ar2 := A.c2
    have ar3 := A.c3
    have br0 := B.c0
    have br1 := B.c1
    have br2 := B.c2
    have br3 := B.c3
    have cr0 := C.c0
    have cr1 := C.c1
    have cr2 := C.c2
    have cr3 := C.c3
    have mr0 := M.c0
    have mr1 := M.c1
    have mr2 := M.c2
    have mr3 := M.c3
    have nr0 := N.c0
    have nr1 := N.c1
    have nr2 := N.c2
    have nr3 := N.c3
    go_wp2_with fail
    refine (covers_any _ _ _ _ _ _ _ _ _).mono ?_
    rintro e v0 ⟨rfl, hb2⟩
    clear ar0 ar1 ar2 ar3 br0 br1 br2 br3 cr0 cr1 cr2 cr3 mr0 mr1 mr2 mr3 nr0 nr1 nr2 nr3
    replace A := A.later hb2
    replace B := B.later hb2
    replace C := C.later hb2
    replace M := M.later hb2
    replace N := N.later hb2
    replace hb1 := behind hb1 hb2
    clear hb2
    have ar0 := A.c0
    have ar1 := A.c1
    have ar2 := A.c2
    have ar3 := A.c3
    have br0 := B.c0
    have br1 := B.c1
    have br2 := B.c2
    have br3 := B.c3
    have cr0 := C.c0
    have cr1 := C.c1
    have cr2 := C.c2
    have cr3 := C.c3
    have mr0 := M.c0
    have mr1 := M.c1
    have mr2 := M.c2
    have mr3 := M.c3
    have nr0 := N.c0
    have nr1 := N.c1
    have nr2 := N.c2
    have nr3 := N.c3
    go_wp2_with fail
    refine (covers_any _ _ _ _ _ _ _ _ _).mono ?_
    rintro e v1 ⟨rfl, hb2⟩
    clear ar0 ar1 ar2 ar3 br0 br1 br2 br3 cr0 cr1 cr2 cr3 mr0 mr1 mr2 mr3 nr0 nr1 nr2 nr3
    replace A := A.later hb2
    replace B := B.later hb2
    replace C := C.later hb2
    replace M := M.later hb2
    replace N := N.later hb2
    replace hb1 := behind hb1 hb2
    clear hb2
    have ar0 := A.c0
    have ar1 := A.c1
    have ar2 := A.c2
    have ar3 := A.c3
    have br0 := B.c0
    have br1 := B.c1
    have br2 := B.c2
    have br3 := B.c3
    have cr0 := C.c0
    have cr1 := C.c1
    have cr2 := C.c2
    have cr3 := C.c3
    have mr0 := M.c0
    have mr1 := M.c1
    have mr2 := M.c2
    have mr3 := M.c3
    have nr0 := N.c0
    have nr1 := N.c1
    have nr2 := N.c2
    have nr3 := N.c3
    go_wp2_with fail
    refine (covers_any _ _ _ _ _ _ _ _ _).mono ?_
    rintro e v2 ⟨rfl, hb2⟩
    clear ar0 ar1 ar2 ar3 br0 br1 br2 br3 cr0 cr1 cr2 cr3 mr0 mr1 mr2 mr3 nr0 nr1 nr2 nr3
    replace A := A.later hb2
    replace B := B.later hb2
    replace C := C.later hb2
    replace M := M.later hb2
    replace N := N.later hb2
    replace hb1 := behind hb1 hb2
    clear hb2
    have ar0 := A.c0
    have ar1 := A.c1
    have ar2 := A.c2
    have ar3 := A.c3
    have br0 := B.c0
    have br1 := B.c1
    have br2 := B.c2
    have br3 := B.c3
    have cr0 := C.c0
    have cr1 := C.c1
    have cr2 := C.c2
    have cr3 := C.c3
    have mr0 := M.c0
    have mr1 := M.c1
    have mr2 := M.c2
    have mr3 := M.c3
    have nr0 := N.c0
    have nr1 := N.c1
    have nr2 := N.c2
    have nr3 := N.c3
    go_wp2_with fail
    refine (covers_any _ _ _ _ _ _ _ _ _).mono ?_
    rintro e v3 ⟨rfl, hb2⟩
    clear ar0 ar1 ar2 ar3 br0 br1 br2 br3 cr0 cr1 cr2 cr3 mr0 mr1 mr2 mr3 nr0 nr1 nr2 nr3
    replace A := A.later hb2
    replace B := B.later hb2
    replace C := C.later hb2
    replace M := M.later hb2
    replace N := N.later hb2
    replace hb1 := behind hb1 hb2
    clear hb2
    go_wp2_with fail
    have kc := cov_c_max a0 a1 a2 a3 b0 b1 b2 b3 c0 c1 c2 c3
    have kn := cov_min_c a0 a1 a2 a3 b0 b1 b2 b3 c0 c1 c2 c3
    have kb := cov_both a0 a1 a2 a3 b0 b1 b2 b3
    have q1 := same_comm a0 a1 a2 a3 b0 b1 b2 b3
    have q2 := same_assoc a0 a1 a2 a3 b0 b1 b2 b3 c0 c1 c2 c3
    have q3 := same_absorb a0 a1 a2 a3 b0 b1 b2 b3
    cases h5 : covB c0 c1 c2 c3 a0 a1 a2 a3
    all_goals
      rw [h5] at kc
      simp only [Bool.false_and, Bool.true_and] at kc
      have ar0 := Later.cell A.c0
      have ar1 := Later.cell A.c1
      have ar2 := Later.cell A.c2
      have ar3 := Later.cell A.c3
      have br0 := Later.cell B.c0
      have br1 := Later.cell B.c1
      have br2 := Later.cell B.c2
      have br3 := Later.cell B.c3
      have cr0 := Later.cell C.c0
      have cr1 := Later.cell C.c1
      have cr2 := Later.cell C.c2
      have cr3 := Later.cell C.c3
      have mr0 := Later.cell M.c0
      have mr1 := Later.cell M.c1
      have mr2 := Later.cell M.c2
      have mr3 := Later.cell M.c3
      have nr0 := Later.cell N.c0
      have nr1 := Later.cell N.c1
      have nr2 := Later.cell N.c2
      have nr3 := Later.cell N.c3
      refine wp_region_later (by kernel_rfl) (by kernel_rfl) ?_
      repeat (go_big_quiet_step (first | (go_at_call 15; with_reducible exact calls_later (covers_is h5 _)) | (go_at_call 15; with_reducible exact calls_later (covers_is h6 _)) | (go_at_call 15; with_reducible exact calls_later (covers_is h7 _)) | (go_at_call 15; exact calls_later (covers_any _ _ _ _ _ _ _ _ _)) | (go_at_call 11; exact calls_later (max_any _ _ _ _ _ _ _ _ _)) | (go_at_call 13; exact calls_later (min_any _ _ _ _ _ _ _ _ _))))
      refine wpQuiet_nil ?_
      rintro v5 ⟨⟨_, hb2⟩, rfl⟩
      clear ar0 ar1 ar2 ar3 br0 br1 br2 br3 cr0 cr1 cr2 cr3 mr0 mr1 mr2 mr3 nr0 nr1 nr2 nr3
      replace A := A.later hb2
      replace B := B.later hb2
      replace C := C.later hb2
      replace M := M.later hb2
      replace N := N.later hb2
      replace hb1 := behind hb1 hb2
      clear hb2
      go_wp2_with fail
    all_goals
      cases h6 : covB a0 a1 a2 a3 c0 c1 c2 c3
    all_goals
      rw [h6] at kn
      simp only [Bool.false_and, Bool.true_and] at kn
      have ar0 := Later.cell A.c0
      have ar1 := Later.cell A.c1
      have ar2 := Later.cell A.c2
      have ar3 := Later.cell A.c3
      have br0 := Later.cell B.c0
      have br1 := Later.cell B.c1
      have br2 := Later.cell B.c2
      have br3 := Later.cell B.c3
      have cr0 := Later.cell C.c0
      have cr1 := Later.cell C.c1
      have cr2 := Later.cell C.c2
      have cr3 := Later.cell C.c3
      have mr0 := Later.cell M.c0
      have mr1 := Later.cell M.c1
      have mr2 := Later.cell M.c2
      have mr3 := Later.cell M.c3
      have nr0 := Later.cell N.c0
      have nr1 := Later.cell N.c1
      have nr2 := Later.cell N.c2
      have nr3 := Later.cell N.c3
      refine wp_region_later (by kernel_rfl) (by kernel_rfl) ?_
      repeat (go_big_quiet_step (first | (go_at_call 15; with_reducible exact calls_later (covers_is h5 _)) | (go_at_call 15; with_reducible exact calls_later (covers_is h6 _)) | (go_at_call 15; with_reducible exact calls_later (covers_is h7 _)) | (go_at_call 15; exact calls_later (covers_any _ _ _ _ _ _ _ _ _)) | (go_at_call 11; exact calls_later (max_any _ _ _ _ _ _ _ _ _)) | (go_at_call 13; exact calls_later (min_any _ _ _ _ _ _ _ _ _))))
      refine wpQuiet_nil ?_
      rintro v5 ⟨⟨_, hb2⟩, rfl⟩
      clear ar0 ar1 ar2 ar3 br0 br1 br2 br3 cr0 cr1 cr2 cr3 mr0 mr1 mr2 mr3 nr0 nr1 nr2 nr3
      replace A := A.later hb2
      replace B := B.later hb2
      replace C := C.later hb2
      replace M := M.later hb2
      replace N := N.later hb2
      replace hb1 := behind hb1 hb2
      clear hb2
      go_wp2_with fail
    all_goals
      cases h7 : covB a0 a1 a2 a3 b0 b1 b2 b3
    all_goals
      rw [h7] at kb
      simp only [Bool.false_and, Bool.true_and] at kb
      have ar0 := Later.cell A.c0
      have ar1 := Later.cell A.c1
      have ar2 := Later.cell A.c2
      have ar3 := Later.cell A.c3
      have br0 := Later.cell B.c0
      have br1 := Later.cell B.c1
      have br2 := Later.cell B.c2
      have br3 := Later.cell B.c3
      have cr0 := Later.cell C.c0
      have cr1 := Later.cell C.c1
      have cr2 := Later.cell C.c2
      have cr3 := Later.cell C.c3
      have mr0 := Later.cell M.c0
      have mr1 := Later.cell M.c1
      have mr2 := Later.cell M.c2
      have mr3 := Later.cell M.c3
      have nr0 := Later.cell N.c0
      have nr1 := Later.cell N.c1
      have nr2 := Later.cell N.c2
      have nr3 := Later.cell N.c3
      refine wp_region_later (by kernel_rfl) (by kernel_rfl) ?_
      repeat (go_big_quiet_step (first | (go_at_call 15; with_reducible exact calls_later (covers_is h5 _)) | (go_at_call 15; with_reducible exact calls_later (covers_is h6 _)) | (go_at_call 15; with_reducible exact calls_later (covers_is h7 _)) | (go_at_call 15; exact calls_later (covers_any _ _ _ _ _ _ _ _ _)) | (go_at_call 11; exact calls_later (max_any _ _ _ _ _ _ _ _ _)) | (go_at_call 13; exact calls_later (min_any _ _ _ _ _ _ _ _ _))))
      refine wpQuiet_nil ?_
      rintro v5 ⟨⟨_, hb2⟩, rfl⟩
      go_wp2
      go_ret
      exact ⟨rfl, behind hb1 hb2⟩

end Go.Proofs.Ytbmadccfipbjlaa
