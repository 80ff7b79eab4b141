/-
  What the document's own Max and Min do, as the model runs it (package copseref).
-/
import Derived.Test.YtpncedpfoakfkaaGreatDoorChecked
import Derived.Test.YtpncedpfoakfkaaGreatDoorSiteA
import Derived.WalkKit
import Derived.WalkSpells
import Derived.WalkLawsBesides
import Derived.LoopN
namespace Go.Proofs.YtpncedpfoakfkaaGreatDoor
open Go.RowKit

set_option maxHeartbeats 2000000 in
theorem refMax_any (a0 a1 a2 a3 b0 b1 b2 b3 : Int) (w : World) :
    Calls Tryz.prog 13 #[.agg #[.int .i64 a0, .int .i64 a1, .int .i64 a2, .int .i64 a3], .agg #[.int .i64 b0, .int .i64 b1, .int .i64 b2, .int .i64 b3]] w fun e w' => e = .returned (.agg #[.int .i64 (maxZ a0 b0), .int .i64 (maxZ a1 b1), .int .i64 (maxZ a2 b2), .int .i64 (maxZ a3 b3)]) ∧ Below w.heap.size w w' := by
  have hne := Later.one
  go_enter Tryz.func13, Tryz.ntmps13
  go_wp2
  go_loopw [6] (fun i wr => ∃ (k : Nat) (z : Int), k ≤ 4 ∧ z = k ∧ i = .int .i64 z ∧ Below w.heap.size w wr ∧ Row4 wr w.heap.size (if 0 < k then maxZ a0 b0 else a0) (if 1 < k then maxZ a1 b1 else a1) (if 2 < k then maxZ a2 b2 else a2) (if 3 < k then maxZ a3 b3 else a3) ∧ Row4 wr (w.heap.size + 1) b0 b1 b2 b3 ∧ Row4 wr (w.heap.size + 1 + 1) 0 0 0 0) (fun i _ => 4 - (intOf i).toNat)
  case atStart =>
    have x := Row4.new w 32 a0 a1 a2 a3
    have y := Row4.new (w.alloc (.cells #[.int .i64 a0, .int .i64 a1, .int .i64 a2, .int .i64 a3] 32)) 32 b0 b1 b2 b3
    have z := Row4.new ((w.alloc (.cells #[.int .i64 a0, .int .i64 a1, .int .i64 a2, .int .i64 a3] 32)).alloc (.cells #[.int .i64 b0, .int .i64 b1, .int .i64 b2, .int .i64 b3] 32)) 32 0 0 0 0
    simp only [World.size_alloc] at y z
    exact ⟨0, 0, by omega, rfl, rfl, boxed (boxed (boxed (Below.refl _ _) _) _) _, (x.later (boxed (Below.refl _ _) _)).later (boxed (Below.refl _ _) _), y.later (boxed (Below.refl _ _) _), z⟩
  case round =>
    obtain ⟨k, z, hk, hz, rfl, hb, A, B, R⟩ := hrel
    have hk' : k = 0 ∨ k = 1 ∨ k = 2 ∨ k = 3 ∨ k = 4 := by omega
    clear hk
    rcases hk' with rfl | rfl | rfl | rfl | rfl
    all_goals simp only [Nat.lt_irrefl, Nat.not_lt_zero, if_true, if_false, Nat.reduceLT] at A
    · obtain rfl : z = 0 := by omega
      clear hz
      go_wp2
      have c0 := Later.cell A.c0
      have c1 := Later.cell B.c0
      by_cases h : a0 < b0
      · refine wp_region_later (by kernel_rfl) (by kernel_rfl) ?_
        repeat (go_big_quiet_step (fail))
        refine wpQuiet_nil ?_
        rintro w5 ⟨⟨_, hb7⟩, rfl⟩
        replace A := A.later hb7
        replace B := B.later hb7
        replace R := R.later hb7
        clear c0 c1
        have d0 := A.c0
        have d1 := B.c0
        have d2 := A.f0
        go_wp2
        go_roundw
        case rel => exact ⟨1, 1, by omega, rfl, by go_num, (behind hb hb7).setCell (by simp) _, by simpa [maxZ_pos h] using A.set0 b0, B.far _ _ (by simp), R.far _ _ (by simp; omega)⟩
        case measure => simp [intOf]
      · refine wp_region_later (by kernel_rfl) (by kernel_rfl) ?_
        repeat (go_big_quiet_step (fail))
        refine wpQuiet_nil ?_
        rintro w5 ⟨⟨_, hb7⟩, rfl⟩
        replace A := A.later hb7
        replace B := B.later hb7
        replace R := R.later hb7
        clear c0 c1
        go_wp2
        go_roundw
        case rel => exact ⟨1, 1, by omega, rfl, by go_num, behind hb hb7, by simpa [maxZ_neg h] using A, B, R⟩
        case measure => simp [intOf]
    · obtain rfl : z = 1 := by omega
      clear hz
      go_wp2
      have c0 := Later.cell A.c1
      have c1 := Later.cell B.c1
      by_cases h : a1 < b1
      · refine wp_region_later (by kernel_rfl) (by kernel_rfl) ?_
        repeat (go_big_quiet_step (fail))
        refine wpQuiet_nil ?_
        rintro w5 ⟨⟨_, hb7⟩, rfl⟩
        replace A := A.later hb7
        replace B := B.later hb7
        replace R := R.later hb7
        clear c0 c1
        have d0 := A.c1
        have d1 := B.c1
        have d2 := A.f1
        go_wp2
        go_roundw
        case rel => exact ⟨2, 2, by omega, rfl, by go_num, (behind hb hb7).setCell (by simp) _, by simpa [maxZ_pos h] using A.set1 b1, B.far _ _ (by simp), R.far _ _ (by simp; omega)⟩
        case measure => simp [intOf]
      · refine wp_region_later (by kernel_rfl) (by kernel_rfl) ?_
        repeat (go_big_quiet_step (fail))
        refine wpQuiet_nil ?_
        rintro w5 ⟨⟨_, hb7⟩, rfl⟩
        replace A := A.later hb7
        replace B := B.later hb7
        replace R := R.later hb7
        clear c0 c1
        go_wp2
        go_roundw
        case rel => exact ⟨2, 2, by omega, rfl, by go_num, behind hb hb7, by simpa [maxZ_neg h] using A, B, R⟩
        case measure => simp [intOf]
    · obtain rfl : z = 2 := by omega
      clear hz
      go_wp2
      have c0 := Later.cell A.c2
      have c1 := Later.cell B.c2
      by_cases h : a2 < b2
      · refine wp_region_later (by kernel_rfl) (by kernel_rfl) ?_
        repeat (go_big_quiet_step (fail))
        refine wpQuiet_nil ?_
        rintro w5 ⟨⟨_, hb7⟩, rfl⟩
        replace A := A.later hb7
        replace B := B.later hb7
        replace R := R.later hb7
        clear c0 c1
        have d0 := A.c2
        have d1 := B.c2
        have d2 := A.f2
        go_wp2
        go_roundw
        case rel => exact ⟨3, 3, by omega, rfl, by go_num, (behind hb hb7).setCell (by simp) _, by simpa [maxZ_pos h] using A.set2 b2, B.far _ _ (by simp), R.far _ _ (by simp; omega)⟩
        case measure => simp [intOf]
      · refine wp_region_later (by kernel_rfl) (by kernel_rfl) ?_
        repeat (go_big_quiet_step (fail))
        refine wpQuiet_nil ?_
        rintro w5 ⟨⟨_, hb7⟩, rfl⟩
        replace A := A.later hb7
        replace B := B.later hb7
        replace R := R.later hb7
        clear c0 c1
        go_wp2
        go_roundw
        case rel => exact ⟨3, 3, by omega, rfl, by go_num, behind hb hb7, by simpa [maxZ_neg h] using A, B, R⟩
        case measure => simp [intOf]
    · obtain rfl : z = 3 := by omega
      clear hz
      go_wp2
      have c0 := Later.cell A.c3
      have c1 := Later.cell B.c3
      by_cases h : a3 < b3
      · refine wp_region_later (by kernel_rfl) (by kernel_rfl) ?_
        repeat (go_big_quiet_step (fail))
        refine wpQuiet_nil ?_
        rintro w5 ⟨⟨_, hb7⟩, rfl⟩
        replace A := A.later hb7
        replace B := B.later hb7
        replace R := R.later hb7
        clear c0 c1
        have d0 := A.c3
        have d1 := B.c3
        have d2 := A.f3
        go_wp2
        go_roundw
        case rel => exact ⟨4, 4, by omega, rfl, by go_num, (behind hb hb7).setCell (by simp) _, by simpa [maxZ_pos h] using A.set3 b3, B.far _ _ (by simp), R.far _ _ (by simp; omega)⟩
        case measure => simp [intOf]
      · refine wp_region_later (by kernel_rfl) (by kernel_rfl) ?_
        repeat (go_big_quiet_step (fail))
        refine wpQuiet_nil ?_
        rintro w5 ⟨⟨_, hb7⟩, rfl⟩
        replace A := A.later hb7
        replace B := B.later hb7
        replace R := R.later hb7
        clear c0 c1
        go_wp2
        go_roundw
        case rel => exact ⟨4, 4, by omega, rfl, by go_num, behind hb hb7, by simpa [maxZ_neg h] using A, B, R⟩
        case measure => simp [intOf]
    · obtain rfl : z = 4 := by omega
      clear hz
      obtain ⟨c0, c1, c2, c3, f0, f1, f2, f3⟩ := A
      obtain ⟨d0, d1, d2, d3, e0, e1, e2, e3⟩ := R
      go_wp2
      exact bodyPost_ret (v := .agg #[.int .i64 (maxZ a0 b0), .int .i64 (maxZ a1 b1), .int .i64 (maxZ a2 b2), .int .i64 (maxZ a3 b3)]) (by simp [results, Tryz.results13, go_sem, d0, d1, d2, d3]) rfl ⟨rfl, (((hb.setCell (by simp; omega) _).setCell (by simp; omega) _).setCell (by simp; omega) _).setCell (by simp; omega) _⟩

set_option maxHeartbeats 2000000 in
theorem refMin_any (a0 a1 a2 a3 b0 b1 b2 b3 : Int) (w : World) :
    Calls Tryz.prog 17 #[.agg #[.int .i64 a0, .int .i64 a1, .int .i64 a2, .int .i64 a3], .agg #[.int .i64 b0, .int .i64 b1, .int .i64 b2, .int .i64 b3]] w fun e w' => e = .returned (.agg #[.int .i64 (minZ a0 b0), .int .i64 (minZ a1 b1), .int .i64 (minZ a2 b2), .int .i64 (minZ a3 b3)]) ∧ Below w.heap.size w w' := by
  have hne := Later.one
  go_enter Tryz.func17, Tryz.ntmps17
  go_wp2
  go_loopw [6] (fun i wr => ∃ (k : Nat) (z : Int), k ≤ 4 ∧ z = k ∧ i = .int .i64 z ∧ Below w.heap.size w wr ∧ Row4 wr w.heap.size (if 0 < k then minZ a0 b0 else a0) (if 1 < k then minZ a1 b1 else a1) (if 2 < k then minZ a2 b2 else a2) (if 3 < k then minZ a3 b3 else a3) ∧ Row4 wr (w.heap.size + 1) b0 b1 b2 b3 ∧ Row4 wr (w.heap.size + 1 + 1) 0 0 0 0) (fun i _ => 4 - (intOf i).toNat)
  case atStart =>
    have x := Row4.new w 32 a0 a1 a2 a3
    have y := Row4.new (w.alloc (.cells #[.int .i64 a0, .int .i64 a1, .int .i64 a2, .int .i64 a3] 32)) 32 b0 b1 b2 b3
    have z := Row4.new ((w.alloc (.cells #[.int .i64 a0, .int .i64 a1, .int .i64 a2, .int .i64 a3] 32)).alloc (.cells #[.int .i64 b0, .int .i64 b1, .int .i64 b2, .int .i64 b3] 32)) 32 0 0 0 0
    simp only [World.size_alloc] at y z
    exact ⟨0, 0, by omega, rfl, rfl, boxed (boxed (boxed (Below.refl _ _) _) _) _, (x.later (boxed (Below.refl _ _) _)).later (boxed (Below.refl _ _) _), y.later (boxed (Below.refl _ _) _), z⟩
  case round =>
    obtain ⟨k, z, hk, hz, rfl, hb, A, B, R⟩ := hrel
    have hk' : k = 0 ∨ k = 1 ∨ k = 2 ∨ k = 3 ∨ k = 4 := by omega
    clear hk
    rcases hk' with rfl | rfl | rfl | rfl | rfl
    all_goals simp only [Nat.lt_irrefl, Nat.not_lt_zero, if_true, if_false, Nat.reduceLT] at A
    · obtain rfl : z = 0 := by omega
      clear hz
      go_wp2
      have c0 := Later.cell A.c0
      have c1 := Later.cell B.c0
      by_cases h : b0 < a0
      · refine wp_region_later (by kernel_rfl) (by kernel_rfl) ?_
        repeat (go_big_quiet_step (fail))
        refine wpQuiet_nil ?_
        rintro w5 ⟨⟨_, hb7⟩, rfl⟩
        replace A := A.later hb7
        replace B := B.later hb7
        replace R := R.later hb7
        clear c0 c1
        have d0 := A.c0
        have d1 := B.c0
        have d2 := A.f0
        go_wp2
        go_roundw
        case rel => exact ⟨1, 1, by omega, rfl, by go_num, (behind hb hb7).setCell (by simp) _, by simpa [minZ_pos h] using A.set0 b0, B.far _ _ (by simp), R.far _ _ (by simp; omega)⟩
        case measure => simp [intOf]
      · refine wp_region_later (by kernel_rfl) (by kernel_rfl) ?_
        repeat (go_big_quiet_step (fail))
        refine wpQuiet_nil ?_
        rintro w5 ⟨⟨_, hb7⟩, rfl⟩
        replace A := A.later hb7
        replace B := B.later hb7
        replace R := R.later hb7
        clear c0 c1
        go_wp2
        go_roundw
        case rel => exact ⟨1, 1, by omega, rfl, by go_num, behind hb hb7, by simpa [minZ_neg h] using A, B, R⟩
        case measure => simp [intOf]
    · obtain rfl : z = 1 := by omega
      clear hz
      go_wp2
      have c0 := Later.cell A.c1
      have c1 := Later.cell B.c1
      by_cases h : b1 < a1
      · refine wp_region_later (by kernel_rfl) (by kernel_rfl) ?_
        repeat (go_big_quiet_step (fail))
        refine wpQuiet_nil ?_
        rintro w5 ⟨⟨_, hb7⟩, rfl⟩
        replace A := A.later hb7
        replace B := B.later hb7
        replace R := R.later hb7
        clear c0 c1
        have d0 := A.c1
        have d1 := B.c1
        have d2 := A.f1
        go_wp2
        go_roundw
        case rel => exact ⟨2, 2, by omega, rfl, by go_num, (behind hb hb7).setCell (by simp) _, by simpa [minZ_pos h] using A.set1 b1, B.far _ _ (by simp), R.far _ _ (by simp; omega)⟩
        case measure => simp [intOf]
      · refine wp_region_later (by kernel_rfl) (by kernel_rfl) ?_
        repeat (go_big_quiet_step (fail))
        refine wpQuiet_nil ?_
        rintro w5 ⟨⟨_, hb7⟩, rfl⟩
        replace A := A.later hb7
        replace B := B.later hb7
        replace R := R.later hb7
        clear c0 c1
        go_wp2
        go_roundw
        case rel => exact ⟨2, 2, by omega, rfl, by go_num, behind hb hb7, by simpa [minZ_neg h] using A, B, R⟩
        case measure => simp [intOf]
    · obtain rfl : z = 2 := by omega
      clear hz
      go_wp2
      have c0 := Later.cell A.c2
      have c1 := Later.cell B.c2
      by_cases h : b2 < a2
      · refine wp_region_later (by kernel_rfl) (by kernel_rfl) ?_
        repeat (go_big_quiet_step (fail))
        refine wpQuiet_nil ?_
        rintro w5 ⟨⟨_, hb7⟩, rfl⟩
        replace A := A.later hb7
        replace B := B.later hb7
        replace R := R.later hb7
        clear c0 c1
        have d0 := A.c2
        have d1 := B.c2
        have d2 := A.f2
        go_wp2
        go_roundw
        case rel => exact ⟨3, 3, by omega, rfl, by go_num, (behind hb hb7).setCell (by simp) _, by simpa [minZ_pos h] using A.set2 b2, B.far _ _ (by simp), R.far _ _ (by simp; omega)⟩
        case measure => simp [intOf]
      · refine wp_region_later (by kernel_rfl) (by kernel_rfl) ?_
        repeat (go_big_quiet_step (fail))
        refine wpQuiet_nil ?_
        rintro w5 ⟨⟨_, hb7⟩, rfl⟩
        replace A := A.later hb7
        replace B := B.later hb7
        replace R := R.later hb7
        clear c0 c1
        go_wp2
        go_roundw
        case rel => exact ⟨3, 3, by omega, rfl, by go_num, behind hb hb7, by simpa [minZ_neg h] using A, B, R⟩
        case measure => simp [intOf]
    · obtain rfl : z = 3 := by omega
      clear hz
      go_wp2
      have c0 := Later.cell A.c3
      have c1 := Later.cell B.c3
      by_cases h : b3 < a3
      · refine wp_region_later (by kernel_rfl) (by kernel_rfl) ?_
        repeat (go_big_quiet_step (fail))
        refine wpQuiet_nil ?_
        rintro w5 ⟨⟨_, hb7⟩, rfl⟩
        replace A := A.later hb7
        replace B := B.later hb7
        replace R := R.later hb7
        clear c0 c1
        have d0 := A.c3
        have d1 := B.c3
        have d2 := A.f3
        go_wp2
        go_roundw
        case rel => exact ⟨4, 4, by omega, rfl, by go_num, (behind hb hb7).setCell (by simp) _, by simpa [minZ_pos h] using A.set3 b3, B.far _ _ (by simp), R.far _ _ (by simp; omega)⟩
        case measure => simp [intOf]
      · refine wp_region_later (by kernel_rfl) (by kernel_rfl) ?_
        repeat (go_big_quiet_step (fail))
        refine wpQuiet_nil ?_
        rintro w5 ⟨⟨_, hb7⟩, rfl⟩
        replace A := A.later hb7
        replace B := B.later hb7
        replace R := R.later hb7
        clear c0 c1
        go_wp2
        go_roundw
        case rel => exact ⟨4, 4, by omega, rfl, by go_num, behind hb hb7, by simpa [minZ_neg h] using A, B, R⟩
        case measure => simp [intOf]
    · obtain rfl : z = 4 := by omega
      clear hz
      obtain ⟨c0, c1, c2, c3, f0, f1, f2, f3⟩ := A
      obtain ⟨d0, d1, d2, d3, e0, e1, e2, e3⟩ := R
      go_wp2
      exact bodyPost_ret (v := .agg #[.int .i64 (minZ a0 b0), .int .i64 (minZ a1 b1), .int .i64 (minZ a2 b2), .int .i64 (minZ a3 b3)]) (by simp [results, Tryz.results17, go_sem, d0, d1, d2, d3]) rfl ⟨rfl, (((hb.setCell (by simp; omega) _).setCell (by simp; omega) _).setCell (by simp; omega) _).setCell (by simp; omega) _⟩

end Go.Proofs.YtpncedpfoakfkaaGreatDoor
