/-
  'copselaw.VectorMeets': the walk: the law returns true, whatever the two vectors are; nothing that was there is written.
-/
import Derived.Test.YtbmadccfipbjlaaVector
import Derived.Test.YtbmadccfipbjlaaRefVector
import Derived.Test.YtbmadccfipbjlaaEqVec
namespace Go.Proofs.Ytbmadccfipbjlaa
open Go.RowKit

set_option maxHeartbeats 2000000 in
theorem meets_any (a0 a1 a2 a3 b0 b1 b2 b3 : Int) (w : World) :
    Calls Try.prog 4 #[.agg #[.int .i64 a0, .int .i64 a1, .int .i64 a2, .int .i64 a3], .agg #[.int .i64 b0, .int .i64 b1, .int .i64 b2, .int .i64 b3]] w fun e w' => e = .returned (.bool true) ∧ Below w.heap.size w w' := by
  have he := eqVecB
  have hne := Later.one
  have hsm := same4_self
  go_enter Try.func4, Try.ntmps4
  go_wp2_with fail
  have x := Row4.new w 34 a0 a1 a2 a3
  have y := Row4.new (w.alloc (.cells #[.int .i64 a0, .int .i64 a1, .int .i64 a2, .int .i64 a3] 34)) 34 b0 b1 b2 b3
  simp only [World.size_alloc] at y
  replace x := x.later (boxed (Below.refl _ _) (.cells #[.int .i64 b0, .int .i64 b1, .int .i64 b2, .int .i64 b3] 34))
  have x0 := Later.cell x.c0
  have x1 := Later.cell x.c1
  have x2 := Later.cell x.c2
  have x3 := Later.cell x.c3
  have y0 := Later.cell y.c0
  have y1 := Later.cell y.c1
  have y2 := Later.cell y.c2
  have y3 := Later.cell y.c3
  clear x y
  refine wp_region_later (by kernel_rfl) (by kernel_rfl) ?_
  repeat (go_big_quiet_step (first | (go_at_call 11; exact calls_later (max_any _ _ _ _ _ _ _ _ _)) | (go_at_call 13; exact calls_later (min_any _ _ _ _ _ _ _ _ _)) | (go_at_call 12; exact calls_later (refMax_any _ _ _ _ _ _ _ _ _)) | (go_at_call 14; exact calls_later (refMin_any _ _ _ _ _ _ _ _ _)) | (go_at_call 15; exact calls_later (covers_any _ _ _ _ _ _ _ _ _)) | (go_at_call 16; exact calls_later (refCovers_any _ _ _ _ _ _ _ _ _)) | (go_at_call 17; exact calls_later (rightv_any _ _ _ _ _)) | (go_at_call 18; exact calls_later (refRightVec_any _ _ _ _ _))))
  refine wpQuiet_nil ?_
  rintro w6 ⟨⟨_, hb8⟩, rfl⟩
  go_wp2
  go_ret
  exact ⟨rfl, below2 hb8⟩

end Go.Proofs.Ytbmadccfipbjlaa
