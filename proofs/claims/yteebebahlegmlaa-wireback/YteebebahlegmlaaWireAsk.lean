/-
  What wire.EncodeAsk does, as the model runs it.
-/
import Derived.Test.YteebebahlegmlaaNumbers
import Derived.Test.YteebebahlegmlaaWireRightTx
import Derived.Test.YteebebahlegmlaaAskS
import Derived.Test.YteebebahlegmlaaRow
namespace Go.Proofs.Yteebebahlegmlaa
open Go.RowKit

set_option maxHeartbeats 1000000 in
theorem encAsk_arg1 (site a0 a1 a2 a3 : Int) (w : World) (h : inB site 0 3 = false) :
    Calls Try.prog 27 #[.int .i64 site, .agg #[.int .i64 a0, .int .i64 a1, .int .i64 a2, .int .i64 a3]] w fun e w' => e = .returned (.tuple #[.slice none 0 0, .iface 56 (.int .i64 1)]) ∧ Below w.heap.size w w' := by
  have H : Hid (inB site 0 3 = false) := h
  clear h
  go_enter Try.func27, Try.ntmps27
  go_wp2_with (go_at_call 41; refine (isSite_is H.out _).mono ?_; rintro e w1 ⟨rfl, hb1⟩)
  go_ret2
  exact ⟨rfl, behind (boxed (Below.refl _ _) _) hb1⟩

set_option maxHeartbeats 1000000 in
theorem encAsk_arg2 (site a0 a1 a2 a3 : Int) (w : World) (h : inB site 0 3 = true) (h2 : timesB a0 a1 a2 a3 = false) :
    Calls Try.prog 27 #[.int .i64 site, .agg #[.int .i64 a0, .int .i64 a1, .int .i64 a2, .int .i64 a3]] w fun e w' => e = .returned (.tuple #[.slice none 0 0, .iface 56 (.int .i64 1)]) ∧ Below w.heap.size w w' := by
  have H : Hid (inB site 0 3 = true) := h
  have H2 : Hid (timesB a0 a1 a2 a3 = false) := h2
  clear h h2
  obtain ⟨c0, c1, c2, c3, _, _, _, _⟩ := Row4.new w 34 a0 a1 a2 a3
  go_enter Try.func27, Try.ntmps27
  go_wp2_with (first | (go_at_call 41; refine (isSite_is H.out _).mono ?_; rintro e w1 ⟨rfl, hb1⟩; replace c0 := cell_later hb1 c0; replace c1 := cell_later hb1 c1; replace c2 := cell_later hb1 c2; replace c3 := cell_later hb1 c3) | (go_at_call 18; refine (rightv_is H2.out _).mono ?_; rintro e w2 ⟨rfl, hb2⟩))
  go_ret2
  exact ⟨rfl, behind (behind (boxed (Below.refl _ _) _) hb1) hb2⟩

set_option maxHeartbeats 2000000 in
theorem encAsk_ok (site a0 a1 a2 a3 : Int) (w : World) (h : inB site 0 3 = true) (h2 : timesB a0 a1 a2 a3 = true) :
    Calls Try.prog 27 #[.int .i64 site, .agg #[.int .i64 a0, .int .i64 a1, .int .i64 a2, .int .i64 a3]] w fun e w' =>
      ∃ S g cap, e = .returned (.tuple #[.slice (some ⟨g, 0, none⟩) S.size cap, .nilIface]) ∧ S = askS site a0 a1 a2 a3 ∧ Own w' w.heap.size g cap S ∧ Below w.heap.size w w' := by
  have H : Hid (inB site 0 3 = true) := h
  have H2 : Hid (timesB a0 a1 a2 a3 = true) := h2
  have hs := inB_iff.1 h
  have ht := h2
  simp only [timesB, Bool.and_eq_true, timeB_iff] at ht
  have HT : Hid ((((0 ≤ a0 ∧ a0 ≤ 1099511627776) ∧ 0 ≤ a1 ∧ a1 ≤ 1099511627776) ∧ 0 ≤ a2 ∧ a2 ≤ 1099511627776) ∧ 0 ≤ a3 ∧ a3 ≤ 1099511627776) := ht
  have HS : Hid (0 ≤ site ∧ site ≤ 3) := hs
  clear h h2 ht hs
  have kc := fun (w : World) (C : Array Value) (n c : Nat) => Lib.run_convert_bytes_const (P := Try.prog) w 44 5 C n c Try.underlying44 Try.underlying5
  obtain ⟨c0, c1, c2, c3, _, _, _, _⟩ := Row4.new w 34 a0 a1 a2 a3
  go_enter Try.func27, Try.ntmps27
  go_wp2_with fail
  refine (isSite_is H.out _).mono ?_
  rintro e w1 ⟨rfl, hb1⟩
  replace c0 := cell_later hb1 c0
  replace c1 := cell_later hb1 c1
  replace c2 := cell_later hb1 c2
  replace c3 := cell_later hb1 c3
  go_wp2_with fail
  refine (rightv_is H2.out _).mono ?_
  rintro e w2 ⟨rfl, hb2⟩
  replace c0 := cell_later hb2 c0
  replace c1 := cell_later hb2 c1
  replace c2 := cell_later hb2 c2
  replace c3 := cell_later hb2 c3
  have hlt : w.heap.size < w2.heap.size := World.block_lt_of_cell? _ _ c0
  have hbw : Below w.heap.size w w2 := behind (behind (boxed (Below.refl _ _) _) hb1) hb2
  clear hb1 hb2
  have HL : Hid (w.heap.size < w2.heap.size) := hlt
  clear hlt
  go_wp2_with fail
  have i0 : ((w2.alloc (.cells #[.int .u8 97] 5 (1, 2))).alloc (.cells #[.int .i64 site] 3)).cell? ⟨w2.heap.size + 1, 0, none⟩ = some (.int .i64 site) := by go_simp
  refine (numbers_any w2.heap.size w2.heap.size 1 (byteS 97) (w2.heap.size + 1) 0 1 [site] _ ((Own.one w2 w2.heap.size _ (by omega) (by omega) (Nat.le_refl _)).alloc _) (by simp; omega) (by omega) ?_ ?_ (by rw [byteS_size]; simp)).mono ?_
  · intro i hi
    obtain rfl : i = 0 := by simpa using hi
    exact i0
  · intro i hi
    obtain rfl : i = 0 := by simpa using hi
    show 0 ≤ site ∧ site ≤ 1099511627776
    have := HS.out
    omega
  rintro e w3 ⟨S1, g1, cap1, rfl, hS1, O1, e1, y1⟩
  have HS1 : Hid (S1 = numsS (byteS 97) [site]) := hS1
  have hb3 : Below w2.heap.size w2 w3 := (boxed (boxed (Below.refl _ _) _) _).trans (y1.below (Nat.le_refl _) (by simp; omega))
  have HG : Hid (w2.heap.size ≤ g1) := O1.base
  clear hS1 i0 y1 e1
  replace c0 := cell_later hb3 c0
  replace c1 := cell_later hb3 c1
  replace c2 := cell_later hb3 c2
  replace c3 := cell_later hb3 c3
  replace hbw := behind hbw hb3
  go_wp2_with fail
  refine (numbers_any w2.heap.size g1 cap1 S1 w.heap.size 0 4 [a0, a1, a2, a3] w3 O1 hb3.size (by have := HG.out; have := HL.out; omega) ?_ ?_ ?_).mono ?_
  · intro i hi
    have hi' : i = 0 ∨ i = 1 ∨ i = 2 ∨ i = 3 := by simp at hi; omega
    rcases hi' with rfl | rfl | rfl | rfl
    · exact c0
    · exact c1
    · exact c2
    · exact c3
  · intro i hi
    have hi' : i = 0 ∨ i = 1 ∨ i = 2 ∨ i = 3 := by simp at hi; omega
    have := HT.out
    rcases hi' with rfl | rfl | rfl | rfl
    · exact this.1.1.1
    · exact this.1.1.2
    · exact this.1.2
    · exact this.2
  · have : S1.size ≤ 7 := by
      rw [HS1.out]
      have := numsS_size (byteS 97) [site] 1 (Nat.le_refl _)
      simpa [byteS_size] using this
    simp
    omega
  rintro e w4 ⟨S2, g2, cap2, rfl, hS2, O2, e2, y2⟩
  have HS2 : Hid (S2 = numsS S1 [a0, a1, a2, a3]) := hS2
  clear hS2
  go_wp2_with fail
  go_ret2
  refine ⟨S2, g2, cap2, rfl, ?_, O2.mono (by have := HL.out; omega), hbw.trans (y2.below (by have := HG.out; have := HL.out; omega) hbw.size)⟩
  rw [HS2.out, HS1.out]
  rfl

end Go.Proofs.Yteebebahlegmlaa
