/-
  What Right of package vector does, as the model runs it.
  What wire.RightTx does, as the model runs it.
  plain.Bare and copselaw.bare for an error that is nil or a bare api.Errno, as the model runs them.
  Errors that are the same: of the program, of the document.
-/
import Derived.Test.YtpncedpfoakfkaaGreatDoorChecked
import Derived.Test.YtpncedpfoakfkaaGreatDoorSiteA
import Derived.WalkKit
import Derived.WalkSpells
import Derived.WalkLawsBesides
import Derived.LoopN
import Derived.Test.YtpncedpfoakfkaaGreatDoorSiteB
import Derived.Test.YtpncedpfoakfkaaGreatDoorTellB
namespace Go.Proofs.YtpncedpfoakfkaaGreatDoor
open Go.RowKit

set_option maxHeartbeats 1000000 in
theorem rightv_any (a0 a1 a2 a3 : Int) (w : World) :
    Calls Tryz.prog 53 #[.agg #[.int .i64 a0, .int .i64 a1, .int .i64 a2, .int .i64 a3]] w fun e w' => e = .returned (.bool (timesB a0 a1 a2 a3)) ∧ Below w.heap.size w w' := by
  have i0 : ∀ w, (Instr.index 32 (.agg #[.int .i64 a0, .int .i64 a1, .int .i64 a2, .int .i64 a3]) (.int .i64 0)).run Tryz.prog w = .ok (.int .i64 a0) w := fun _ => by kernel_rfl
  have i1 : ∀ w, (Instr.index 32 (.agg #[.int .i64 a0, .int .i64 a1, .int .i64 a2, .int .i64 a3]) (.int .i64 1)).run Tryz.prog w = .ok (.int .i64 a1) w := fun _ => by kernel_rfl
  have i2 : ∀ w, (Instr.index 32 (.agg #[.int .i64 a0, .int .i64 a1, .int .i64 a2, .int .i64 a3]) (.int .i64 2)).run Tryz.prog w = .ok (.int .i64 a2) w := fun _ => by kernel_rfl
  have i3 : ∀ w, (Instr.index 32 (.agg #[.int .i64 a0, .int .i64 a1, .int .i64 a2, .int .i64 a3]) (.int .i64 3)).run Tryz.prog w = .ok (.int .i64 a3) w := fun _ => by kernel_rfl
  by_cases l0 : a0 < 0
  · have e : timesB a0 a1 a2 a3 = false := by simp [timesB, timeB]; omega
    rw [e]
    clear e
    go_enter Tryz.func53, Tryz.ntmps53
    go_wp2
    refine wp_loop_rounds 5 ?_
    rw [rounds_succ]
    go_wp2
    go_ret
    exact ⟨rfl, by repeat (first | exact Below.refl _ _ | apply below_drawn | apply boxed)⟩
  by_cases g0 : 1099511627776 < a0
  · have e : timesB a0 a1 a2 a3 = false := by simp [timesB, timeB]; omega
    rw [e]
    clear e
    go_enter Tryz.func53, Tryz.ntmps53
    go_wp2
    refine wp_loop_rounds 5 ?_
    rw [rounds_succ]
    go_wp2
    go_ret
    exact ⟨rfl, by repeat (first | exact Below.refl _ _ | apply below_drawn | apply boxed)⟩
  by_cases l1 : a1 < 0
  · have e : timesB a0 a1 a2 a3 = false := by simp [timesB, timeB]; omega
    rw [e]
    clear e
    go_enter Tryz.func53, Tryz.ntmps53
    go_wp2
    refine wp_loop_rounds 5 ?_
    rw [rounds_succ]
    go_wp2
    rw [rounds_succ]
    go_wp2
    go_ret
    exact ⟨rfl, by repeat (first | exact Below.refl _ _ | apply below_drawn | apply boxed)⟩
  by_cases g1 : 1099511627776 < a1
  · have e : timesB a0 a1 a2 a3 = false := by simp [timesB, timeB]; omega
    rw [e]
    clear e
    go_enter Tryz.func53, Tryz.ntmps53
    go_wp2
    refine wp_loop_rounds 5 ?_
    rw [rounds_succ]
    go_wp2
    rw [rounds_succ]
    go_wp2
    go_ret
    exact ⟨rfl, by repeat (first | exact Below.refl _ _ | apply below_drawn | apply boxed)⟩
  by_cases l2 : a2 < 0
  · have e : timesB a0 a1 a2 a3 = false := by simp [timesB, timeB]; omega
    rw [e]
    clear e
    go_enter Tryz.func53, Tryz.ntmps53
    go_wp2
    refine wp_loop_rounds 5 ?_
    rw [rounds_succ]
    go_wp2
    rw [rounds_succ]
    go_wp2
    rw [rounds_succ]
    go_wp2
    go_ret
    exact ⟨rfl, by repeat (first | exact Below.refl _ _ | apply below_drawn | apply boxed)⟩
  by_cases g2 : 1099511627776 < a2
  · have e : timesB a0 a1 a2 a3 = false := by simp [timesB, timeB]; omega
    rw [e]
    clear e
    go_enter Tryz.func53, Tryz.ntmps53
    go_wp2
    refine wp_loop_rounds 5 ?_
    rw [rounds_succ]
    go_wp2
    rw [rounds_succ]
    go_wp2
    rw [rounds_succ]
    go_wp2
    go_ret
    exact ⟨rfl, by repeat (first | exact Below.refl _ _ | apply below_drawn | apply boxed)⟩
  by_cases l3 : a3 < 0
  · have e : timesB a0 a1 a2 a3 = false := by simp [timesB, timeB]; omega
    rw [e]
    clear e
    go_enter Tryz.func53, Tryz.ntmps53
    go_wp2
    refine wp_loop_rounds 5 ?_
    rw [rounds_succ]
    go_wp2
    rw [rounds_succ]
    go_wp2
    rw [rounds_succ]
    go_wp2
    rw [rounds_succ]
    go_wp2
    go_ret
    exact ⟨rfl, by repeat (first | exact Below.refl _ _ | apply below_drawn | apply boxed)⟩
  by_cases g3 : 1099511627776 < a3
  · have e : timesB a0 a1 a2 a3 = false := by simp [timesB, timeB]; omega
    rw [e]
    clear e
    go_enter Tryz.func53, Tryz.ntmps53
    go_wp2
    refine wp_loop_rounds 5 ?_
    rw [rounds_succ]
    go_wp2
    rw [rounds_succ]
    go_wp2
    rw [rounds_succ]
    go_wp2
    rw [rounds_succ]
    go_wp2
    go_ret
    exact ⟨rfl, by repeat (first | exact Below.refl _ _ | apply below_drawn | apply boxed)⟩
  have e : timesB a0 a1 a2 a3 = true := by simp [timesB, timeB]; omega
  rw [e]
  clear e
  go_enter Tryz.func53, Tryz.ntmps53
  go_wp2
  refine wp_loop_rounds 5 ?_
  rw [rounds_succ]
  go_wp2
  rw [rounds_succ]
  go_wp2
  rw [rounds_succ]
  go_wp2
  rw [rounds_succ]
  go_wp2
  rw [rounds_succ]
  go_wp2
  go_ret
  exact ⟨rfl, by repeat (first | exact Below.refl _ _ | apply below_drawn | apply boxed)⟩

end Go.Proofs.YtpncedpfoakfkaaGreatDoor

namespace Go.Proofs.YtpncedpfoakfkaaGreatDoor
open Go.RowKit

theorem right_is {x c : Int} {v : Bool} (h : (timeB x && timeB c) = v) (w : World) :
    Calls Tryz.prog 85 #[.agg #[.int .i64 x, .int .i64 c]] w fun e w' => e = .returned (.bool v) ∧ Below w.heap.size w w' := by
  subst h
  exact right_any x c w
theorem rightv_is {a0 a1 a2 a3 : Int} {v : Bool} (h : timesB a0 a1 a2 a3 = v) (w : World) :
    Calls Tryz.prog 53 #[.agg #[.int .i64 a0, .int .i64 a1, .int .i64 a2, .int .i64 a3]] w fun e w' => e = .returned (.bool v) ∧ Below w.heap.size w w' := by
  subst h
  exact rightv_any a0 a1 a2 a3 w

set_option maxHeartbeats 4000000 in
theorem rightTx_any (site seq wall count d0 d1 d2 d3 : Int) (a : Option Addr) (cap : Nat) (l : List Wr) (w : World) (hW0 : WrIn w a cap l) :
    Calls Tryz.prog 59 #[.agg #[.int .i64 site, .int .i64 seq, .int .i64 wall, .int .i64 count, .int .i64 d0, .int .i64 d1, .int .i64 d2, .int .i64 d3, .slice a l.length cap]] w fun e w' => e = .returned (.bool (okTx site seq wall count d0 d1 d2 d3 l)) ∧ Below w.heap.size w w' := by
  have hne := Later.one
  have hW := hW0.later (boxed (Below.refl _ w) (.cells #[.int .i64 site, .int .i64 seq, .int .i64 wall, .int .i64 count, .int .i64 d0, .int .i64 d1, .int .i64 d2, .int .i64 d3, .slice a l.length cap] 44))
  clear hW0
  have c0 : (w.alloc (.cells #[.int .i64 site, .int .i64 seq, .int .i64 wall, .int .i64 count, .int .i64 d0, .int .i64 d1, .int .i64 d2, .int .i64 d3, .slice a l.length cap] 44)).cell? ⟨w.heap.size, 0, none⟩ = some (.int .i64 site) := by go_simp
  have c1 : (w.alloc (.cells #[.int .i64 site, .int .i64 seq, .int .i64 wall, .int .i64 count, .int .i64 d0, .int .i64 d1, .int .i64 d2, .int .i64 d3, .slice a l.length cap] 44)).cell? ⟨w.heap.size, 1, none⟩ = some (.int .i64 seq) := by go_simp
  have c2 : (w.alloc (.cells #[.int .i64 site, .int .i64 seq, .int .i64 wall, .int .i64 count, .int .i64 d0, .int .i64 d1, .int .i64 d2, .int .i64 d3, .slice a l.length cap] 44)).cell? ⟨w.heap.size, 2, none⟩ = some (.int .i64 wall) := by go_simp
  have c3 : (w.alloc (.cells #[.int .i64 site, .int .i64 seq, .int .i64 wall, .int .i64 count, .int .i64 d0, .int .i64 d1, .int .i64 d2, .int .i64 d3, .slice a l.length cap] 44)).cell? ⟨w.heap.size, 3, none⟩ = some (.int .i64 count) := by go_simp
  have c4 : (w.alloc (.cells #[.int .i64 site, .int .i64 seq, .int .i64 wall, .int .i64 count, .int .i64 d0, .int .i64 d1, .int .i64 d2, .int .i64 d3, .slice a l.length cap] 44)).cell? ⟨w.heap.size, 4, none⟩ = some (.int .i64 d0) := by go_simp
  have c5 : (w.alloc (.cells #[.int .i64 site, .int .i64 seq, .int .i64 wall, .int .i64 count, .int .i64 d0, .int .i64 d1, .int .i64 d2, .int .i64 d3, .slice a l.length cap] 44)).cell? ⟨w.heap.size, 5, none⟩ = some (.int .i64 d1) := by go_simp
  have c6 : (w.alloc (.cells #[.int .i64 site, .int .i64 seq, .int .i64 wall, .int .i64 count, .int .i64 d0, .int .i64 d1, .int .i64 d2, .int .i64 d3, .slice a l.length cap] 44)).cell? ⟨w.heap.size, 6, none⟩ = some (.int .i64 d2) := by go_simp
  have c7 : (w.alloc (.cells #[.int .i64 site, .int .i64 seq, .int .i64 wall, .int .i64 count, .int .i64 d0, .int .i64 d1, .int .i64 d2, .int .i64 d3, .slice a l.length cap] 44)).cell? ⟨w.heap.size, 7, none⟩ = some (.int .i64 d3) := by go_simp
  have c8 : (w.alloc (.cells #[.int .i64 site, .int .i64 seq, .int .i64 wall, .int .i64 count, .int .i64 d0, .int .i64 d1, .int .i64 d2, .int .i64 d3, .slice a l.length cap] 44)).cell? ⟨w.heap.size, 8, none⟩ = some (.slice a l.length cap) := by go_simp
  cases p1 : inB site 0 3
  · have e : Hid (okTx site seq wall count d0 d1 d2 d3 l = false) := by show okTx site seq wall count d0 d1 d2 d3 l = false; simp only [okTx, p1, Bool.false_and]
    have P1 : Hid (inB site 0 3 = false) := p1
    clear p1
    go_enter Tryz.func59, Tryz.ntmps59
    go_wp2_with (go_at_call 90; refine (isSite_is P1.out _).mono ?_; rintro e w1 ⟨rfl, hb1⟩; replace c0 := cell_later hb1 c0; replace c1 := cell_later hb1 c1; replace c2 := cell_later hb1 c2; replace c3 := cell_later hb1 c3; replace c4 := cell_later hb1 c4; replace c5 := cell_later hb1 c5; replace c6 := cell_later hb1 c6; replace c7 := cell_later hb1 c7; replace c8 := cell_later hb1 c8; replace hW := hW.later hb1)
    go_ret
    exact ⟨by rw [e.out]; rfl, behind (boxed (Below.refl _ _) _) hb1⟩
  · have P1 : Hid (inB site 0 3 = true) := p1
    by_cases s1 : seq < 1
    · have e : Hid (okTx site seq wall count d0 d1 d2 d3 l = false) := by
        have p2 : inB seq 1 1099511627776 = false := by simp [inB]; omega
        show okTx site seq wall count d0 d1 d2 d3 l = false; simp only [okTx, p2, Bool.and_false, Bool.false_and]
      clear p1
      go_enter Tryz.func59, Tryz.ntmps59
      go_wp2_with (go_at_call 90; refine (isSite_is P1.out _).mono ?_; rintro e w1 ⟨rfl, hb1⟩; replace c0 := cell_later hb1 c0; replace c1 := cell_later hb1 c1; replace c2 := cell_later hb1 c2; replace c3 := cell_later hb1 c3; replace c4 := cell_later hb1 c4; replace c5 := cell_later hb1 c5; replace c6 := cell_later hb1 c6; replace c7 := cell_later hb1 c7; replace c8 := cell_later hb1 c8; replace hW := hW.later hb1)
      go_ret
      exact ⟨by rw [e.out]; rfl, behind (boxed (Below.refl _ _) _) hb1⟩
    · by_cases s2 : 1099511627776 < seq
      · have e : Hid (okTx site seq wall count d0 d1 d2 d3 l = false) := by
          have p2 : inB seq 1 1099511627776 = false := by simp [inB]; omega
          show okTx site seq wall count d0 d1 d2 d3 l = false; simp only [okTx, p2, Bool.and_false, Bool.false_and]
        clear p1
        go_enter Tryz.func59, Tryz.ntmps59
        go_wp2_with (go_at_call 90; refine (isSite_is P1.out _).mono ?_; rintro e w1 ⟨rfl, hb1⟩; replace c0 := cell_later hb1 c0; replace c1 := cell_later hb1 c1; replace c2 := cell_later hb1 c2; replace c3 := cell_later hb1 c3; replace c4 := cell_later hb1 c4; replace c5 := cell_later hb1 c5; replace c6 := cell_later hb1 c6; replace c7 := cell_later hb1 c7; replace c8 := cell_later hb1 c8; replace hW := hW.later hb1)
        go_ret
        exact ⟨by rw [e.out]; rfl, behind (boxed (Below.refl _ _) _) hb1⟩
      · have p2 : inB seq 1 1099511627776 = true := by rw [inB_iff]; omega
        have P2 : Hid (inB seq 1 1099511627776 = true) := p2
        clear p2
        clear p1
        go_enter Tryz.func59, Tryz.ntmps59
        go_wp2_with (go_at_call 90; refine (isSite_is P1.out _).mono ?_; rintro e w1 ⟨rfl, hb1⟩; replace c0 := cell_later hb1 c0; replace c1 := cell_later hb1 c1; replace c2 := cell_later hb1 c2; replace c3 := cell_later hb1 c3; replace c4 := cell_later hb1 c4; replace c5 := cell_later hb1 c5; replace c6 := cell_later hb1 c6; replace c7 := cell_later hb1 c7; replace c8 := cell_later hb1 c8; replace hW := hW.later hb1)
        have hb := behind (boxed (Below.refl _ _) _) hb1
        clear hb1
        replace c0 := Later.cell c0
        replace c1 := Later.cell c1
        replace c2 := Later.cell c2
        replace c3 := Later.cell c3
        replace c4 := Later.cell c4
        replace c5 := Later.cell c5
        replace c6 := Later.cell c6
        replace c7 := Later.cell c7
        replace c8 := Later.cell c8
        cases p3 : (timeB wall && timeB count)
        · have e : Hid (okTx site seq wall count d0 d1 d2 d3 l = false) := by show okTx site seq wall count d0 d1 d2 d3 l = false; simp only [okTx, p3, Bool.and_false, Bool.false_and]
          refine wp_region_later (by kernel_rfl) (by kernel_rfl) ?_
          repeat (go_big_quiet_step (first | (go_at_call 85; with_reducible exact calls_later (right_is p3 _)) | (go_at_call 53; with_reducible exact calls_later (rightv_is p4 _)) | (go_at_call 52; exact calls_later (rightW_any (WrIn.later (Later.below _) hW)))))
          refine wpQuiet_nil ?_
          rintro w5 ⟨⟨_, hb7⟩, rfl⟩
          go_wp2
          go_ret
          exact ⟨by rw [e.out]; rfl, behind hb hb7⟩
        · cases p4 : timesB d0 d1 d2 d3
          · have e : Hid (okTx site seq wall count d0 d1 d2 d3 l = false) := by show okTx site seq wall count d0 d1 d2 d3 l = false; simp only [okTx, p4, Bool.and_false, Bool.false_and]
            refine wp_region_later (by kernel_rfl) (by kernel_rfl) ?_
            repeat (go_big_quiet_step (first | (go_at_call 85; with_reducible exact calls_later (right_is p3 _)) | (go_at_call 53; with_reducible exact calls_later (rightv_is p4 _)) | (go_at_call 52; exact calls_later (rightW_any (WrIn.later (Later.below _) hW)))))
            refine wpQuiet_nil ?_
            rintro w5 ⟨⟨_, hb7⟩, rfl⟩
            go_wp2
            go_ret
            exact ⟨by rw [e.out]; rfl, behind hb hb7⟩
          · have hs := inB_iff.1 P1.out
            have hs' : site = 0 ∨ site = 1 ∨ site = 2 ∨ site = 3 := by omega
            clear hs
            rcases hs' with rfl | rfl | rfl | rfl
            · by_cases h5 : d0 = seq - 1
              · have e5 : (d0 == seq - 1) = true := by simp [h5]
                have e : Hid (okTx 0 seq wall count d0 d1 d2 d3 l = okWs l) := by show okTx 0 seq wall count d0 d1 d2 d3 l = okWs l; simp only [okTx, P1.out, P2.out, p3, p4, Bool.and_true, Bool.true_and, depOf]; simp [h5]
                clear h5
                refine wp_region_later (by kernel_rfl) (by kernel_rfl) ?_
                repeat (go_big_quiet_step (first | (go_at_call 85; with_reducible exact calls_later (right_is p3 _)) | (go_at_call 53; with_reducible exact calls_later (rightv_is p4 _)) | (go_at_call 52; exact calls_later (rightW_any (WrIn.later (Later.below _) hW)))))
                refine wpQuiet_nil ?_
                rintro w5 ⟨⟨_, hb7⟩, rfl⟩
                go_wp2
                go_ret
                exact ⟨by rw [e.out]; rfl, behind hb hb7⟩
              · have e5 : (d0 == seq - 1) = false := by simp [h5]
                have e : Hid (okTx 0 seq wall count d0 d1 d2 d3 l = false) := by show okTx 0 seq wall count d0 d1 d2 d3 l = false; simp only [okTx, P1.out, P2.out, p3, p4, Bool.and_true, Bool.true_and, depOf]; simp [h5]
                clear h5
                refine wp_region_later (by kernel_rfl) (by kernel_rfl) ?_
                repeat (go_big_quiet_step (first | (go_at_call 85; with_reducible exact calls_later (right_is p3 _)) | (go_at_call 53; with_reducible exact calls_later (rightv_is p4 _)) | (go_at_call 52; exact calls_later (rightW_any (WrIn.later (Later.below _) hW)))))
                refine wpQuiet_nil ?_
                rintro w5 ⟨⟨_, hb7⟩, rfl⟩
                go_wp2
                go_ret
                exact ⟨by rw [e.out]; rfl, behind hb hb7⟩
            · by_cases h5 : d1 = seq - 1
              · have e5 : (d1 == seq - 1) = true := by simp [h5]
                have e : Hid (okTx 1 seq wall count d0 d1 d2 d3 l = okWs l) := by show okTx 1 seq wall count d0 d1 d2 d3 l = okWs l; simp only [okTx, P1.out, P2.out, p3, p4, Bool.and_true, Bool.true_and, depOf]; simp [h5]
                clear h5
                refine wp_region_later (by kernel_rfl) (by kernel_rfl) ?_
                repeat (go_big_quiet_step (first | (go_at_call 85; with_reducible exact calls_later (right_is p3 _)) | (go_at_call 53; with_reducible exact calls_later (rightv_is p4 _)) | (go_at_call 52; exact calls_later (rightW_any (WrIn.later (Later.below _) hW)))))
                refine wpQuiet_nil ?_
                rintro w5 ⟨⟨_, hb7⟩, rfl⟩
                go_wp2
                go_ret
                exact ⟨by rw [e.out]; rfl, behind hb hb7⟩
              · have e5 : (d1 == seq - 1) = false := by simp [h5]
                have e : Hid (okTx 1 seq wall count d0 d1 d2 d3 l = false) := by show okTx 1 seq wall count d0 d1 d2 d3 l = false; simp only [okTx, P1.out, P2.out, p3, p4, Bool.and_true, Bool.true_and, depOf]; simp [h5]
                clear h5
                refine wp_region_later (by kernel_rfl) (by kernel_rfl) ?_
                repeat (go_big_quiet_step (first | (go_at_call 85; with_reducible exact calls_later (right_is p3 _)) | (go_at_call 53; with_reducible exact calls_later (rightv_is p4 _)) | (go_at_call 52; exact calls_later (rightW_any (WrIn.later (Later.below _) hW)))))
                refine wpQuiet_nil ?_
                rintro w5 ⟨⟨_, hb7⟩, rfl⟩
                go_wp2
                go_ret
                exact ⟨by rw [e.out]; rfl, behind hb hb7⟩
            · by_cases h5 : d2 = seq - 1
              · have e5 : (d2 == seq - 1) = true := by simp [h5]
                have e : Hid (okTx 2 seq wall count d0 d1 d2 d3 l = okWs l) := by show okTx 2 seq wall count d0 d1 d2 d3 l = okWs l; simp only [okTx, P1.out, P2.out, p3, p4, Bool.and_true, Bool.true_and, depOf]; simp [h5]
                clear h5
                refine wp_region_later (by kernel_rfl) (by kernel_rfl) ?_
                repeat (go_big_quiet_step (first | (go_at_call 85; with_reducible exact calls_later (right_is p3 _)) | (go_at_call 53; with_reducible exact calls_later (rightv_is p4 _)) | (go_at_call 52; exact calls_later (rightW_any (WrIn.later (Later.below _) hW)))))
                refine wpQuiet_nil ?_
                rintro w5 ⟨⟨_, hb7⟩, rfl⟩
                go_wp2
                go_ret
                exact ⟨by rw [e.out]; rfl, behind hb hb7⟩
              · have e5 : (d2 == seq - 1) = false := by simp [h5]
                have e : Hid (okTx 2 seq wall count d0 d1 d2 d3 l = false) := by show okTx 2 seq wall count d0 d1 d2 d3 l = false; simp only [okTx, P1.out, P2.out, p3, p4, Bool.and_true, Bool.true_and, depOf]; simp [h5]
                clear h5
                refine wp_region_later (by kernel_rfl) (by kernel_rfl) ?_
                repeat (go_big_quiet_step (first | (go_at_call 85; with_reducible exact calls_later (right_is p3 _)) | (go_at_call 53; with_reducible exact calls_later (rightv_is p4 _)) | (go_at_call 52; exact calls_later (rightW_any (WrIn.later (Later.below _) hW)))))
                refine wpQuiet_nil ?_
                rintro w5 ⟨⟨_, hb7⟩, rfl⟩
                go_wp2
                go_ret
                exact ⟨by rw [e.out]; rfl, behind hb hb7⟩
            · by_cases h5 : d3 = seq - 1
              · have e5 : (d3 == seq - 1) = true := by simp [h5]
                have e : Hid (okTx 3 seq wall count d0 d1 d2 d3 l = okWs l) := by show okTx 3 seq wall count d0 d1 d2 d3 l = okWs l; simp only [okTx, P1.out, P2.out, p3, p4, Bool.and_true, Bool.true_and, depOf]; simp [h5]
                clear h5
                refine wp_region_later (by kernel_rfl) (by kernel_rfl) ?_
                repeat (go_big_quiet_step (first | (go_at_call 85; with_reducible exact calls_later (right_is p3 _)) | (go_at_call 53; with_reducible exact calls_later (rightv_is p4 _)) | (go_at_call 52; exact calls_later (rightW_any (WrIn.later (Later.below _) hW)))))
                refine wpQuiet_nil ?_
                rintro w5 ⟨⟨_, hb7⟩, rfl⟩
                go_wp2
                go_ret
                exact ⟨by rw [e.out]; rfl, behind hb hb7⟩
              · have e5 : (d3 == seq - 1) = false := by simp [h5]
                have e : Hid (okTx 3 seq wall count d0 d1 d2 d3 l = false) := by show okTx 3 seq wall count d0 d1 d2 d3 l = false; simp only [okTx, P1.out, P2.out, p3, p4, Bool.and_true, Bool.true_and, depOf]; simp [h5]
                clear h5
                refine wp_region_later (by kernel_rfl) (by kernel_rfl) ?_
                repeat (go_big_quiet_step (first | (go_at_call 85; with_reducible exact calls_later (right_is p3 _)) | (go_at_call 53; with_reducible exact calls_later (rightv_is p4 _)) | (go_at_call 52; exact calls_later (rightW_any (WrIn.later (Later.below _) hW)))))
                refine wpQuiet_nil ?_
                rintro w5 ⟨⟨_, hb7⟩, rfl⟩
                go_wp2
                go_ret
                exact ⟨by rw [e.out]; rfl, behind hb hb7⟩

theorem rightTx_is {site seq wall count d0 d1 d2 d3 : Int} {a : Option Addr} {cap : Nat} {l : List Wr} {w : World} {v : Bool} (hW : WrIn w a cap l) (h : okTx site seq wall count d0 d1 d2 d3 l = v) :
    Calls Tryz.prog 59 #[.agg #[.int .i64 site, .int .i64 seq, .int .i64 wall, .int .i64 count, .int .i64 d0, .int .i64 d1, .int .i64 d2, .int .i64 d3, .slice a l.length cap]] w fun e w' => e = .returned (.bool v) ∧ Below w.heap.size w w' := by
  subst h
  exact rightTx_any site seq wall count d0 d1 d2 d3 a cap l w hW

end Go.Proofs.YtpncedpfoakfkaaGreatDoor

namespace Go.Proofs.YtpncedpfoakfkaaGreatDoor
open Go.RowKit Go.Extern.Stop Go.Stop Go.Extern

set_option maxHeartbeats 1000000 in
theorem bare0_nil (w : World) : Calls Tryz.prog 46 #[.nilIface] w fun e w' => e = .returned (.tuple #[.int .i64 0, .bool true]) ∧ w' = w := by
  go_enter Tryz.func46, Tryz.ntmps46
  go_wp2_with (go_at_call 80; refine (tell_nil _).mono ?_; rintro e w' ⟨rfl, rfl⟩)
  refine wp_loop_rounds 1 ?_
  rw [rounds_succ]
  go_wp2
  go_ret2
  exact ⟨rfl, rfl⟩

/-- an api.Errno is no *api.At, and has no Unwrap -/
theorem assertAt (n : Int) (w : World) : (Instr.typeAssert (.iface 29 (.int .i64 n)) 25 136 true).run Tryz.prog w = .ok (.tuple #[.pointer none, .bool false]) w := by kernel_rfl
theorem assertUnwrap (n : Int) (w : World) : (Instr.typeAssert (.iface 29 (.int .i64 n)) 25 138 true).run Tryz.prog w = .ok (.tuple #[.nilIface, .bool false]) w :=
  run_typeAssert_lacksB Tryz.underlying138 (by kernel_rfl) (by kernel_rfl) _ _ w

set_option maxHeartbeats 1000000 in
theorem bare0_errno (n : Int) (w : World) (hg : w.cell? ⟨0, 0, none⟩ = some (.iface 186 (.agg #[.pointer (some ⟨1, 25, none⟩)]))) :
    Calls Tryz.prog 46 #[.iface 29 (.int .i64 n)] w fun e w' => e = .returned (.tuple #[.int .i64 n, .bool true]) ∧ Below w.heap.size w w' := by
  have hx := assertAt
  have hy := assertUnwrap
  go_enter Tryz.func46, Tryz.ntmps46
  go_wp2_with (go_at_call 80; refine (tell_errno _ _ hg).mono ?_; rintro e w1 ⟨rfl, hb⟩)
  refine wp_loop_rounds 1 ?_
  rw [rounds_succ]
  go_wp2
  go_ret2
  exact ⟨rfl, hb⟩

set_option maxHeartbeats 1000000 in
theorem bare_nil (w : World) : Calls Tryz.prog 6 #[.nilIface, .int .i64 0] w fun e w' => e = .returned (.bool true) ∧ Below w.heap.size w w' := by
  go_enter Tryz.func6, Tryz.ntmps6
  go_wp2_with (go_at_call 46; refine (bare0_nil _).mono ?_; rintro e w' ⟨rfl, rfl⟩)
  go_ret
  exact ⟨rfl, Below.refl _ _⟩

set_option maxHeartbeats 1000000 in
theorem bare_errno (n : Int) (w : World) (hg : w.cell? ⟨0, 0, none⟩ = some (.iface 186 (.agg #[.pointer (some ⟨1, 25, none⟩)]))) :
    Calls Tryz.prog 6 #[.iface 29 (.int .i64 n), .int .i64 n] w fun e w' => e = .returned (.bool true) ∧ Below w.heap.size w w' := by
  go_enter Tryz.func6, Tryz.ntmps6
  go_wp2_with (go_at_call 46; refine (bare0_errno _ _ hg).mono ?_; rintro e w1 ⟨rfl, hb⟩)
  go_ret
  exact ⟨by simp, hb⟩

end Go.Proofs.YtpncedpfoakfkaaGreatDoor

namespace Go.Proofs.YtpncedpfoakfkaaGreatDoor
open Go.RowKit

/-- the error of both is the same one -/
def SameErr (ev : Value) (n : Int) : Prop := ∀ w : World, w.cell? ⟨0, 0, none⟩ = some (.iface 186 (.agg #[.pointer (some ⟨1, 25, none⟩)])) →
    Calls Tryz.prog 6 #[ev, .int .i64 n] w fun e w' => e = .returned (.bool true) ∧ Below w.heap.size w w'
theorem sameErr_nil : SameErr .nilIface 0 := fun w _ => bare_nil w
theorem sameErr_no (n : Int) : SameErr (.iface 29 (.int .i64 n)) n := fun w hg => bare_errno n w hg

end Go.Proofs.YtpncedpfoakfkaaGreatDoor
