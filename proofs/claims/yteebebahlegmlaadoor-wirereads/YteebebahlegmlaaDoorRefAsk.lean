/-
  What the document's own bytes of an ask are, as the model runs them (copseref.EncodeAsk).
-/
import Derived.Test.YteebebahlegmlaaDoorNumber
import Derived.Test.YteebebahlegmlaaDoorAskS
import Derived.Test.YteebebahlegmlaaDoorRefIn
import Derived.Test.YteebebahlegmlaaDoorRefRightV
import Derived.Test.YteebebahlegmlaaDoorRow
namespace Go.Proofs.YteebebahlegmlaaDoor
open Go.RowKit

theorem len5 (n : Int) : (numS 5 n).size ≤ 6 := numS_size 5 n

set_option maxHeartbeats 1000000 in
theorem refAsk_arg1 (site a0 a1 a2 a3 : Int) (w : World) (h : inB site 0 3 = false) :
    Calls Tryd.prog 17 #[.int .i64 site, .agg #[.int .i64 a0, .int .i64 a1, .int .i64 a2, .int .i64 a3]] w fun e w' => e = .returned (.tuple #[.string ⟨#[]⟩, .int .i64 1]) ∧ Below w.heap.size w w' := by
  go_enter Tryd.func17, Tryd.ntmps17
  go_wp2_with (go_at_call 28; refine (inB_any _ _ _ _).mono ?_; rintro e w1 ⟨rfl, rfl⟩)
  go_ret2
  exact ⟨rfl, boxed (Below.refl _ _) _⟩

set_option maxHeartbeats 1000000 in
theorem refAsk_arg2 (site a0 a1 a2 a3 : Int) (w : World) (h : inB site 0 3 = true) (h2 : timesB a0 a1 a2 a3 = false) :
    Calls Tryd.prog 17 #[.int .i64 site, .agg #[.int .i64 a0, .int .i64 a1, .int .i64 a2, .int .i64 a3]] w fun e w' => e = .returned (.tuple #[.string ⟨#[]⟩, .int .i64 1]) ∧ Below w.heap.size w w' := by
  go_enter Tryd.func17, Tryd.ntmps17
  go_wp2_with (first | (go_at_call 28; refine (inB_any _ _ _ _).mono ?_; rintro e w1 ⟨rfl, rfl⟩) | (go_at_call 34; refine (refRightVec_any _ _ _ _ _).mono ?_; rintro e w2 ⟨rfl, hb⟩))
  go_ret2
  exact ⟨rfl, behind (boxed (Below.refl _ _) _) hb⟩

set_option maxHeartbeats 2000000 in
theorem refAsk_ok (site a0 a1 a2 a3 : Int) (w : World) (h : inB site 0 3 = true) (h2 : timesB a0 a1 a2 a3 = true) :
    Calls Tryd.prog 17 #[.int .i64 site, .agg #[.int .i64 a0, .int .i64 a1, .int .i64 a2, .int .i64 a3]] w fun e w' => e = .returned (.tuple #[.string (askS site a0 a1 a2 a3), .int .i64 0]) ∧ Below w.heap.size w w' := by
  have hs := inB_iff.1 h
  have ht := h2
  simp only [timesB, Bool.and_eq_true, timeB_iff] at ht
  obtain ⟨⟨⟨t0, t1⟩, t2⟩, t3⟩ := ht
  have i0 : ∀ w, (Instr.index 37 (.agg #[.int .i64 a0, .int .i64 a1, .int .i64 a2, .int .i64 a3]) (.int .i64 0)).run Tryd.prog w = .ok (.int .i64 a0) w := fun _ => by kernel_rfl
  have i1 : ∀ w, (Instr.index 37 (.agg #[.int .i64 a0, .int .i64 a1, .int .i64 a2, .int .i64 a3]) (.int .i64 1)).run Tryd.prog w = .ok (.int .i64 a1) w := fun _ => by kernel_rfl
  have i2 : ∀ w, (Instr.index 37 (.agg #[.int .i64 a0, .int .i64 a1, .int .i64 a2, .int .i64 a3]) (.int .i64 2)).run Tryd.prog w = .ok (.int .i64 a2) w := fun _ => by kernel_rfl
  have i3 : ∀ w, (Instr.index 37 (.agg #[.int .i64 a0, .int .i64 a1, .int .i64 a2, .int .i64 a3]) (.int .i64 3)).run Tryd.prog w = .ok (.int .i64 a3) w := fun _ => by kernel_rfl
  have ls := len5 site
  have l0 := len5 a0
  have l1 := len5 a1
  have l2 := len5 a2
  have l3 := len5 a3
  have z : (⟨#[97]⟩ : ByteArray).size = 1 := rfl
  have p0 := fun w => addS (P := Tryd.prog) ((⟨#[97]⟩ : ByteArray)) (numS 5 site) (by (try simp only [ByteArray.size_append]); omega) w
  have p1 := fun w => addS (P := Tryd.prog) ((⟨#[97]⟩ : ByteArray) ++ numS 5 site) (numS 5 a0) (by (try simp only [ByteArray.size_append]); omega) w
  have p2 := fun w => addS (P := Tryd.prog) ((⟨#[97]⟩ : ByteArray) ++ numS 5 site ++ numS 5 a0) (numS 5 a1) (by (try simp only [ByteArray.size_append]); omega) w
  have p3 := fun w => addS (P := Tryd.prog) ((⟨#[97]⟩ : ByteArray) ++ numS 5 site ++ numS 5 a0 ++ numS 5 a1) (numS 5 a2) (by (try simp only [ByteArray.size_append]); omega) w
  have p4 := fun w => addS (P := Tryd.prog) ((⟨#[97]⟩ : ByteArray) ++ numS 5 site ++ numS 5 a0 ++ numS 5 a1 ++ numS 5 a2) (numS 5 a3) (by (try simp only [ByteArray.size_append]); omega) w
  clear ls l0 l1 l2 l3 z
  go_enter Tryd.func17, Tryd.ntmps17
  go_wp2_with fail
  refine (inB_any _ _ _ _).mono ?_
  rintro e w1 ⟨rfl, rfl⟩
  go_wp2_with fail
  refine (refRightVec_any _ _ _ _ _).mono ?_
  rintro e w2 ⟨rfl, hb⟩
  have R := (Row4.new w 37 a0 a1 a2 a3).later hb
  replace hb := behind (boxed (Below.refl _ _) _) hb
  go_wp2_with fail
  refine (number_any _ _ (by omega) (by omega)).mono ?_
  rintro e w3 ⟨rfl, hb3⟩
  replace R := R.later hb3
  replace hb := behind hb hb3
  clear hb3
  obtain ⟨c0, c1, c2, c3, _, _, _, _⟩ := R
  go_wp2_with fail
  refine wp_loop_rounds 5 ?_
  rw [rounds_succ]
  go_wp2_with fail
  refine (number_any _ _ (by omega) (by omega)).mono ?_
  rintro e v0 ⟨rfl, hb3⟩
  replace hb := behind hb hb3
  clear hb3
  go_wp2_with fail
  rw [rounds_succ]
  go_wp2_with fail
  refine (number_any _ _ (by omega) (by omega)).mono ?_
  rintro e v1 ⟨rfl, hb3⟩
  replace hb := behind hb hb3
  clear hb3
  go_wp2_with fail
  rw [rounds_succ]
  go_wp2_with fail
  refine (number_any _ _ (by omega) (by omega)).mono ?_
  rintro e v2 ⟨rfl, hb3⟩
  replace hb := behind hb hb3
  clear hb3
  go_wp2_with fail
  rw [rounds_succ]
  go_wp2_with fail
  refine (number_any _ _ (by omega) (by omega)).mono ?_
  rintro e v3 ⟨rfl, hb3⟩
  replace hb := behind hb hb3
  clear hb3
  go_wp2_with fail
  rw [rounds_succ]
  go_wp2_with fail
  go_ret2
  exact ⟨rfl, hb⟩

end Go.Proofs.YteebebahlegmlaaDoor
