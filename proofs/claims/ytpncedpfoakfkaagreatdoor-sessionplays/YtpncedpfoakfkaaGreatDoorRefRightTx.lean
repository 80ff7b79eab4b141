/-
  What the document's own RightTx does, as the model runs it (package copseref).
-/
import Derived.Test.YtpncedpfoakfkaaGreatDoorRefRightW
import Derived.Test.YtpncedpfoakfkaaGreatDoorSiteA
import Derived.Test.YtpncedpfoakfkaaGreatDoorSiteB
namespace Go.Proofs.YtpncedpfoakfkaaGreatDoor
open Go.RowKit

set_option maxHeartbeats 4000000 in
theorem refRightTx_any (site seq wall count d0 d1 d2 d3 : Int) (a : Option Addr) (cap : Nat) (l : List Wr) (w : World) (hW0 : WrIn w a cap l) :
    Calls Tryz.prog 64 #[.agg #[.int .i64 site, .int .i64 seq, .int .i64 wall, .int .i64 count, .int .i64 d0, .int .i64 d1, .int .i64 d2, .int .i64 d3, .slice a l.length cap]] w fun e w' => e = .returned (.bool (okTx site seq wall count d0 d1 d2 d3 l)) ∧ Below w.heap.size w w' := by
  have hne := Later.one
  have hW := hW0.later (boxed (Below.refl _ w) (.cells #[.int .i64 site, .int .i64 seq, .int .i64 wall, .int .i64 count, .int .i64 d0, .int .i64 d1, .int .i64 d2, .int .i64 d3, .slice a l.length cap] 44))
  clear hW0
  have c0 : (w.alloc (.cells #[.int .i64 site, .int .i64 seq, .int .i64 wall, .int .i64 count, .int .i64 d0, .int .i64 d1, .int .i64 d2, .int .i64 d3, .slice a l.length cap] 44)).cell? ⟨w.heap.size, 0, none⟩ = some (.int .i64 site) := by go_simp
  have c1 : (w.alloc (.cells #[.int .i64 site, .int .i64 seq, .int .i64 wall, .int .i64 count, .int .i64 d0, .int .i64 d1, .int .i64 d2, .int .i64 d3, .slice a l.length cap] 44)).cell? ⟨w.heap.size, 1, none⟩ = some (.int .i64 seq) := by go_simp
  have c2 : (w.alloc (.cells #[.int .i64 site, .int .i64 seq, .int .i64 wall, .int .i64 count, .int .i64 d0, .int .i64 d1, .int .i64 d2, .int .i64 d3, .slice a l.length cap] 44)).cell? ⟨w.heap.size, 2, none⟩ = some (.int .i64 wall) := by go_simp
  have c3 : (w.alloc (.cells #[.int .i64 site, .int .i64 seq, .int .i64 wall, .int .i64 count, .int .i64 d0, .int .i64 d1, .int .i64 d2, .int .i64 d3, .slice a l.length cap] 44)).cell? ⟨w.heap.size, 3, none⟩ = some (.int .i64 count) := by go_simp
  have c4 : (w.alloc (.cells #[.int .i64 site, .int .i64 seq, .int .i64 wall, .int .i64 count, .int .i64 d0, .int .i64 d1, .int .i64 d2, .int .i64 d3, .slice a l.length cap] 44)).cell? ⟨w.heap.size, 4, none⟩ = some (.int .i64 d0) := by go_simp
  have c5 : (w.alloc (.cells #[.int .i64 site, .int .i64 seq, .int .i64 wall, .int .i64 count, .int .i64 d0, .int .i64 d1, .int .i64 d2, .int .i64 d3, .slice a l.length cap] 44)).cell? ⟨w.heap.size, 5, none⟩ = some (.int .i64 d1) := by go_simp
  have c6 : (w.alloc (.cells #[.int .i64 site, .int .i64 seq, .int .i64 wall, .int .i64 count, .int .i64 d0, .int .i64 d1, .int .i64 d2, .int .i64 d3, .slice a l.length cap] 44)).cell? ⟨w.heap.size, 6, none⟩ = some (.int .i64 d2) := by go_simp
  have c7 : (w.alloc (.cells #[.int .i64 site, .int .i64 seq, .int .i64 wall, .int .i64 count, .int .i64 d0, .int .i64 d1, .int .i64 d2, .int .i64 d3, .slice a l.length cap] 44)).cell? ⟨w.heap.size, 7, none⟩ = some (.int .i64 d3) := by go_simp
  have c8 : (w.alloc (.cells #[.int .i64 site, .int .i64 seq, .int .i64 wall, .int .i64 count, .int .i64 d0, .int .i64 d1, .int .i64 d2, .int .i64 d3, .slice a l.length cap] 44)).cell? ⟨w.heap.size, 8, none⟩ = some (.slice a l.length cap) := by go_simp
  replace c0 := Later.cell c0
  replace c1 := Later.cell c1
  replace c2 := Later.cell c2
  replace c3 := Later.cell c3
  replace c4 := Later.cell c4
  replace c5 := Later.cell c5
  replace c6 := Later.cell c6
  replace c7 := Later.cell c7
  replace c8 := Later.cell c8
  cases p1 : inB site 0 3
  · rw [show okTx site seq wall count d0 d1 d2 d3 l = false by simp [okTx, p1]]
    go_enter Tryz.func64, Tryz.ntmps64
    go_wp2_with fail
    refine wp_region_later (by kernel_rfl) (by kernel_rfl) ?_
    repeat (go_big_quiet_step (first | (go_at_call 76; with_reducible exact calls_later (inB_is p1 _)) | (go_at_call 76; with_reducible exact calls_later (inB_is p2 _)) | (go_at_call 81; with_reducible exact calls_later (refRight_is p3 _)) | (go_at_call 48; with_reducible exact calls_later (refRightVec_is p4 _)) | (go_at_call 47; exact calls_later (refRightW_any (WrIn.later (Later.below _) hW)))))
    refine wpQuiet_nil ?_
    rintro w5 ⟨⟨_, hb7⟩, rfl⟩
    go_wp2
    go_ret
    exact ⟨rfl, behind (boxed (Below.refl _ _) _) hb7⟩
  · cases p2 : inB seq 1 1099511627776
    · rw [show okTx site seq wall count d0 d1 d2 d3 l = false by simp [okTx, p2]]
      go_enter Tryz.func64, Tryz.ntmps64
      go_wp2_with fail
      refine wp_region_later (by kernel_rfl) (by kernel_rfl) ?_
      repeat (go_big_quiet_step (first | (go_at_call 76; with_reducible exact calls_later (inB_is p1 _)) | (go_at_call 76; with_reducible exact calls_later (inB_is p2 _)) | (go_at_call 81; with_reducible exact calls_later (refRight_is p3 _)) | (go_at_call 48; with_reducible exact calls_later (refRightVec_is p4 _)) | (go_at_call 47; exact calls_later (refRightW_any (WrIn.later (Later.below _) hW)))))
      refine wpQuiet_nil ?_
      rintro w5 ⟨⟨_, hb7⟩, rfl⟩
      go_wp2
      go_ret
      exact ⟨rfl, behind (boxed (Below.refl _ _) _) hb7⟩
    · cases p3 : (timeB wall && timeB count)
      · rw [show okTx site seq wall count d0 d1 d2 d3 l = false by simp only [okTx, p3, Bool.and_false, Bool.false_and]]
        go_enter Tryz.func64, Tryz.ntmps64
        go_wp2_with fail
        refine wp_region_later (by kernel_rfl) (by kernel_rfl) ?_
        repeat (go_big_quiet_step (first | (go_at_call 76; with_reducible exact calls_later (inB_is p1 _)) | (go_at_call 76; with_reducible exact calls_later (inB_is p2 _)) | (go_at_call 81; with_reducible exact calls_later (refRight_is p3 _)) | (go_at_call 48; with_reducible exact calls_later (refRightVec_is p4 _)) | (go_at_call 47; exact calls_later (refRightW_any (WrIn.later (Later.below _) hW)))))
        refine wpQuiet_nil ?_
        rintro w5 ⟨⟨_, hb7⟩, rfl⟩
        go_wp2
        go_ret
        exact ⟨rfl, behind (boxed (Below.refl _ _) _) hb7⟩
      · cases p4 : timesB d0 d1 d2 d3
        · rw [show okTx site seq wall count d0 d1 d2 d3 l = false by simp only [okTx, p4, Bool.and_false, Bool.false_and]]
          go_enter Tryz.func64, Tryz.ntmps64
          go_wp2_with fail
          refine wp_region_later (by kernel_rfl) (by kernel_rfl) ?_
          repeat (go_big_quiet_step (first | (go_at_call 76; with_reducible exact calls_later (inB_is p1 _)) | (go_at_call 76; with_reducible exact calls_later (inB_is p2 _)) | (go_at_call 81; with_reducible exact calls_later (refRight_is p3 _)) | (go_at_call 48; with_reducible exact calls_later (refRightVec_is p4 _)) | (go_at_call 47; exact calls_later (refRightW_any (WrIn.later (Later.below _) hW)))))
          refine wpQuiet_nil ?_
          rintro w5 ⟨⟨_, hb7⟩, rfl⟩
          go_wp2
          go_ret
          exact ⟨rfl, behind (boxed (Below.refl _ _) _) hb7⟩
        · have hs := inB_iff.1 p1
          have hq := inB_iff.1 p2
          have e : okTx site seq wall count d0 d1 d2 d3 l = (decide (depOf site d0 d1 d2 d3 = seq - 1) && okWs l) := by simp only [okTx, p1, p2, p3, p4, Bool.and_true, Bool.true_and]
          rw [e]
          clear e
          have hs' : site = 0 ∨ site = 1 ∨ site = 2 ∨ site = 3 := by omega
          obtain ⟨q1, q2⟩ := hq
          clear hs
          rcases hs' with rfl | rfl | rfl | rfl
          · by_cases h5 : d0 = seq - 1
            · have e5 : (d0 == seq - 1) = true := by simp [h5]
              rw [show (decide (depOf 0 d0 d1 d2 d3 = seq - 1) && okWs l) = okWs l by simp [depOf, h5]]
              clear h5
              go_enter Tryz.func64, Tryz.ntmps64
              go_wp2_with fail
              refine wp_region_later (by kernel_rfl) (by kernel_rfl) ?_
              repeat (go_big_quiet_step (first | (go_at_call 76; with_reducible exact calls_later (inB_is p1 _)) | (go_at_call 76; with_reducible exact calls_later (inB_is p2 _)) | (go_at_call 81; with_reducible exact calls_later (refRight_is p3 _)) | (go_at_call 48; with_reducible exact calls_later (refRightVec_is p4 _)) | (go_at_call 47; exact calls_later (refRightW_any (WrIn.later (Later.below _) hW)))))
              refine wpQuiet_nil ?_
              rintro w5 ⟨⟨_, hb7⟩, rfl⟩
              go_wp2
              go_ret
              exact ⟨rfl, behind (boxed (Below.refl _ _) _) hb7⟩
            · have e5 : (d0 == seq - 1) = false := by simp [h5]
              rw [show (decide (depOf 0 d0 d1 d2 d3 = seq - 1) && okWs l) = false by simp [depOf, h5]]
              clear h5
              go_enter Tryz.func64, Tryz.ntmps64
              go_wp2_with fail
              refine wp_region_later (by kernel_rfl) (by kernel_rfl) ?_
              repeat (go_big_quiet_step (first | (go_at_call 76; with_reducible exact calls_later (inB_is p1 _)) | (go_at_call 76; with_reducible exact calls_later (inB_is p2 _)) | (go_at_call 81; with_reducible exact calls_later (refRight_is p3 _)) | (go_at_call 48; with_reducible exact calls_later (refRightVec_is p4 _)) | (go_at_call 47; exact calls_later (refRightW_any (WrIn.later (Later.below _) hW)))))
              refine wpQuiet_nil ?_
              rintro w5 ⟨⟨_, hb7⟩, rfl⟩
              go_wp2
              go_ret
              exact ⟨rfl, behind (boxed (Below.refl _ _) _) hb7⟩
          · by_cases h5 : d1 = seq - 1
            · have e5 : (d1 == seq - 1) = true := by simp [h5]
              rw [show (decide (depOf 1 d0 d1 d2 d3 = seq - 1) && okWs l) = okWs l by simp [depOf, h5]]
              clear h5
              go_enter Tryz.func64, Tryz.ntmps64
              go_wp2_with fail
              refine wp_region_later (by kernel_rfl) (by kernel_rfl) ?_
              repeat (go_big_quiet_step (first | (go_at_call 76; with_reducible exact calls_later (inB_is p1 _)) | (go_at_call 76; with_reducible exact calls_later (inB_is p2 _)) | (go_at_call 81; with_reducible exact calls_later (refRight_is p3 _)) | (go_at_call 48; with_reducible exact calls_later (refRightVec_is p4 _)) | (go_at_call 47; exact calls_later (refRightW_any (WrIn.later (Later.below _) hW)))))
              refine wpQuiet_nil ?_
              rintro w5 ⟨⟨_, hb7⟩, rfl⟩
              go_wp2
              go_ret
              exact ⟨rfl, behind (boxed (Below.refl _ _) _) hb7⟩
            · have e5 : (d1 == seq - 1) = false := by simp [h5]
              rw [show (decide (depOf 1 d0 d1 d2 d3 = seq - 1) && okWs l) = false by simp [depOf, h5]]
              clear h5
              go_enter Tryz.func64, Tryz.ntmps64
              go_wp2_with fail
              refine wp_region_later (by kernel_rfl) (by kernel_rfl) ?_
              repeat (go_big_quiet_step (first | (go_at_call 76; with_reducible exact calls_later (inB_is p1 _)) | (go_at_call 76; with_reducible exact calls_later (inB_is p2 _)) | (go_at_call 81; with_reducible exact calls_later (refRight_is p3 _)) | (go_at_call 48; with_reducible exact calls_later (refRightVec_is p4 _)) | (go_at_call 47; exact calls_later (refRightW_any (WrIn.later (Later.below _) hW)))))
              refine wpQuiet_nil ?_
              rintro w5 ⟨⟨_, hb7⟩, rfl⟩
              go_wp2
              go_ret
              exact ⟨rfl, behind (boxed (Below.refl _ _) _) hb7⟩
          · by_cases h5 : d2 = seq - 1
            · have e5 : (d2 == seq - 1) = true := by simp [h5]
              rw [show (decide (depOf 2 d0 d1 d2 d3 = seq - 1) && okWs l) = okWs l by simp [depOf, h5]]
              clear h5
              go_enter Tryz.func64, Tryz.ntmps64
              go_wp2_with fail
              refine wp_region_later (by kernel_rfl) (by kernel_rfl) ?_
              repeat (go_big_quiet_step (first | (go_at_call 76; with_reducible exact calls_later (inB_is p1 _)) | (go_at_call 76; with_reducible exact calls_later (inB_is p2 _)) | (go_at_call 81; with_reducible exact calls_later (refRight_is p3 _)) | (go_at_call 48; with_reducible exact calls_later (refRightVec_is p4 _)) | (go_at_call 47; exact calls_later (refRightW_any (WrIn.later (Later.below _) hW)))))
              refine wpQuiet_nil ?_
              rintro w5 ⟨⟨_, hb7⟩, rfl⟩
              go_wp2
              go_ret
              exact ⟨rfl, behind (boxed (Below.refl _ _) _) hb7⟩
            · have e5 : (d2 == seq - 1) = false := by simp [h5]
              rw [show (decide (depOf 2 d0 d1 d2 d3 = seq - 1) && okWs l) = false by simp [depOf, h5]]
              clear h5
              go_enter Tryz.func64, Tryz.ntmps64
              go_wp2_with fail
              refine wp_region_later (by kernel_rfl) (by kernel_rfl) ?_
              repeat (go_big_quiet_step (first | (go_at_call 76; with_reducible exact calls_later (inB_is p1 _)) | (go_at_call 76; with_reducible exact calls_later (inB_is p2 _)) | (go_at_call 81; with_reducible exact calls_later (refRight_is p3 _)) | (go_at_call 48; with_reducible exact calls_later (refRightVec_is p4 _)) | (go_at_call 47; exact calls_later (refRightW_any (WrIn.later (Later.below _) hW)))))
              refine wpQuiet_nil ?_
              rintro w5 ⟨⟨_, hb7⟩, rfl⟩
              go_wp2
              go_ret
              exact ⟨rfl, behind (boxed (Below.refl _ _) _) hb7⟩
          · by_cases h5 : d3 = seq - 1
            · have e5 : (d3 == seq - 1) = true := by simp [h5]
              rw [show (decide (depOf 3 d0 d1 d2 d3 = seq - 1) && okWs l) = okWs l by simp [depOf, h5]]
              clear h5
              go_enter Tryz.func64, Tryz.ntmps64
              go_wp2_with fail
              refine wp_region_later (by kernel_rfl) (by kernel_rfl) ?_
              repeat (go_big_quiet_step (first | (go_at_call 76; with_reducible exact calls_later (inB_is p1 _)) | (go_at_call 76; with_reducible exact calls_later (inB_is p2 _)) | (go_at_call 81; with_reducible exact calls_later (refRight_is p3 _)) | (go_at_call 48; with_reducible exact calls_later (refRightVec_is p4 _)) | (go_at_call 47; exact calls_later (refRightW_any (WrIn.later (Later.below _) hW)))))
              refine wpQuiet_nil ?_
              rintro w5 ⟨⟨_, hb7⟩, rfl⟩
              go_wp2
              go_ret
              exact ⟨rfl, behind (boxed (Below.refl _ _) _) hb7⟩
            · have e5 : (d3 == seq - 1) = false := by simp [h5]
              rw [show (decide (depOf 3 d0 d1 d2 d3 = seq - 1) && okWs l) = false by simp [depOf, h5]]
              clear h5
              go_enter Tryz.func64, Tryz.ntmps64
              go_wp2_with fail
              refine wp_region_later (by kernel_rfl) (by kernel_rfl) ?_
              repeat (go_big_quiet_step (first | (go_at_call 76; with_reducible exact calls_later (inB_is p1 _)) | (go_at_call 76; with_reducible exact calls_later (inB_is p2 _)) | (go_at_call 81; with_reducible exact calls_later (refRight_is p3 _)) | (go_at_call 48; with_reducible exact calls_later (refRightVec_is p4 _)) | (go_at_call 47; exact calls_later (refRightW_any (WrIn.later (Later.below _) hW)))))
              refine wpQuiet_nil ?_
              rintro w5 ⟨⟨_, hb7⟩, rfl⟩
              go_wp2
              go_ret
              exact ⟨rfl, behind (boxed (Below.refl _ _) _) hb7⟩

end Go.Proofs.YtpncedpfoakfkaaGreatDoor
