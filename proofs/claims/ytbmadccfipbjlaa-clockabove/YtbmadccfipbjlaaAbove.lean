/-
  'copsekeep.ClockAbove': the walk: the law returns true, whatever the stamps and the wall are; nothing that was there is written.
-/
import Derived.Test.YtbmadccfipbjlaaClock
import Derived.Test.YtbmadccfipbjlaaEq
namespace Go.Proofs.Ytbmadccfipbjlaa
open Go.RowKit

set_option maxHeartbeats 400000 in
theorem timed_any (w : World) :
    Calls Try.prog 6 #[] w fun e w' => e = .returned (.bool true) ∧ Below w.heap.size w w' := by
  go_enter Try.func6, Try.ntmps6
  go_wp2_with fail
  refine (next_count 5 3 4 _ (by decide) (by decide) (by decide) (by decide) (by decide) (by decide)).mono ?_
  rintro e w1 ⟨rfl, hb⟩
  go_wp2_with fail
  refine (next_wall 5 4 6 _ (by decide) (by decide) (by decide)).mono ?_
  rintro e w2 ⟨rfl, hb2⟩
  obtain ⟨hc, hf⟩ := bcell hb2
  have hz : w1.heap.size < w2.heap.size := by have := hb2.size; simp at this; omega
  go_wp2
  go_ret
  exact ⟨rfl, boxed (behind (boxed hb _) hb2) _⟩

/-- what the three boxed stamps hold in a later world -/
theorem boxes6 {w w1 : World} {aw ac bw bc cw cc : Int} {T : TypeId} (hb : Below (((w.alloc (.cells #[.int .i64 aw, .int .i64 ac] T)).alloc (.cells #[.int .i64 bw, .int .i64 bc] T)).alloc (.cells #[.int .i64 cw, .int .i64 cc] T)).heap.size (((w.alloc (.cells #[.int .i64 aw, .int .i64 ac] T)).alloc (.cells #[.int .i64 bw, .int .i64 bc] T)).alloc (.cells #[.int .i64 cw, .int .i64 cc] T)) w1) :
    Below w.heap.size w w1 ∧ w1.cell? ⟨w.heap.size, 0, none⟩ = some (.int .i64 aw) ∧ w1.cell? ⟨w.heap.size, 1, none⟩ = some (.int .i64 ac) ∧ w1.cell? ⟨w.heap.size + 1, 0, none⟩ = some (.int .i64 bw) ∧ w1.cell? ⟨w.heap.size + 1, 1, none⟩ = some (.int .i64 bc) ∧ w1.cell? ⟨w.heap.size + 1 + 1, 0, none⟩ = some (.int .i64 cw) ∧ w1.cell? ⟨w.heap.size + 1 + 1, 1, none⟩ = some (.int .i64 cc) := by
  refine ⟨below3 hb, cell_later hb ?_, cell_later hb ?_, cell_later hb ?_, cell_later hb ?_, cell_later hb ?_, cell_later hb ?_⟩ <;> go_simp

set_option maxHeartbeats 2000000 in
theorem above_any (aw ac bw bc cw cc now : Int) (w : World) :
    Calls Try.prog 3 #[.agg #[.int .i64 aw, .int .i64 ac], .agg #[.int .i64 bw, .int .i64 bc], .agg #[.int .i64 cw, .int .i64 cc], .int .i64 now] w fun e w' => e = .returned (.bool true) ∧ Below w.heap.size w w' := by
  have he := eqStampB
  have hne := Later.one
  have hsm := same2_self
  go_enter Try.func3, Try.ntmps3
  go_wp2_with fail
  refine (timed_any _).mono ?_
  rintro e w1 ⟨rfl, hb1⟩
  obtain ⟨hb, c1, c2, c3, c4, c5, c6⟩ := boxes6 hb1
  clear hb1
  go_wp2_with fail
  refine (next_any _ _ _ _).mono ?_
  rintro e w2 (⟨sw, sc, rfl, hs1, hs2, hs3, hb2⟩ | ⟨n, rfl, hb2⟩)
  · obtain ⟨hb, d1, d2, d3, d4, d5, d6⟩ := keep6 (boxed hb2 (.cells #[.int .i64 sw, .int .i64 sc] 23)) ⟨hb, c1, c2, c3, c4, c5, c6⟩
    clear hb2 c1 c2 c3 c4 c5 c6
    have f1 : (w2.alloc (.cells #[.int .i64 sw, .int .i64 sc] 23)).cell? ⟨w2.heap.size, 0, none⟩ = some (.int .i64 sw) := by go_simp
    have f2 : (w2.alloc (.cells #[.int .i64 sw, .int .i64 sc] 23)).cell? ⟨w2.heap.size, 1, none⟩ = some (.int .i64 sc) := by go_simp
    go_wp2_with fail
    refine (compare_any _ _ _ _ _).mono ?_
    rintro e w3 ⟨rfl, hb4⟩
    have f1 := cell_later hb4 f1
    have f2 := cell_later hb4 f2
    obtain ⟨hb, c1, c2, c3, c4, c5, c6⟩ := keep6 hb4 ⟨hb, d1, d2, d3, d4, d5, d6⟩
    clear hb4 d1 d2 d3 d4 d5 d6
    go_wp2_with fail
    refine (right_any _ _ _).mono ?_
    rintro e w4 ⟨rfl, hb6⟩
    obtain ⟨hb, c1, c2, c3, c4, c5, c6⟩ := keep6 hb6 ⟨hb, c1, c2, c3, c4, c5, c6⟩
    clear hb6 f1 f2
    go_wp2_with fail
    have C1 := c1
    have c1 := Later.cell c1
    have C2 := c2
    have c2 := Later.cell c2
    have C3 := c3
    have c3 := Later.cell c3
    have C4 := c4
    have c4 := Later.cell c4
    have C5 := c5
    have c5 := Later.cell c5
    have C6 := c6
    have c6 := Later.cell c6
    refine wp_region_later (by kernel_rfl) (by kernel_rfl) ?_
    repeat (go_big_quiet_step ((go_at_call 8; exact calls_later (compare_any _ _ _ _ _))))
    refine wpQuiet_nil ?_
    rintro w5 ⟨⟨_, hb7⟩, rfl⟩
    obtain ⟨hb, d1, d2, d3, d4, d5, d6⟩ := keep6 hb7 ⟨hb, C1, C2, C3, C4, C5, C6⟩
    clear hb7 c1 c2 c3 c4 c5 c6 C1 C2 C3 C4 C5 C6
    go_wp2_with fail
    have d1 := Later.cell d1
    have d2 := Later.cell d2
    have d3 := Later.cell d3
    have d4 := Later.cell d4
    rcases three aw ac bw bc cw cc with ⟨h1, h2, h3⟩ | ⟨⟨h1, h2, h3⟩, h4 | ⟨h4, h5⟩⟩ | ⟨⟨h1, h2, h3⟩, h4 | ⟨h4, h5⟩⟩
    all_goals
      refine wp_region_later (by kernel_rfl) (by kernel_rfl) ?_
      repeat (go_big_quiet_step (first | (go_at_call 8; exact calls_later (compare_any _ _ _ _ _)) | (go_at_call 10; refine calls_later (later_a _ _ _ _ _ ?_); omega) | (go_at_call 10; refine calls_later (later_b _ _ _ _ _ ?_); omega)))
      refine wpQuiet_nil ?_
      rintro w6 ⟨⟨_, hb8⟩, rfl⟩
      go_wp2
      go_ret
      exact ⟨rfl, behind hb hb8⟩
  · obtain ⟨hb, c1, c2, c3, c4, c5, c6⟩ := keep6 (boxed hb2 (.cells #[.int .i64 0, .int .i64 0] 23)) ⟨hb, c1, c2, c3, c4, c5, c6⟩
    clear hb2
    go_wp2_with fail
    have C1 := c1
    have c1 := Later.cell c1
    have C2 := c2
    have c2 := Later.cell c2
    have C3 := c3
    have c3 := Later.cell c3
    have C4 := c4
    have c4 := Later.cell c4
    have C5 := c5
    have c5 := Later.cell c5
    have C6 := c6
    have c6 := Later.cell c6
    refine wp_region_later (by kernel_rfl) (by kernel_rfl) ?_
    repeat (go_big_quiet_step ((go_at_call 8; exact calls_later (compare_any _ _ _ _ _))))
    refine wpQuiet_nil ?_
    rintro w5 ⟨⟨_, hb7⟩, rfl⟩
    obtain ⟨hb, d1, d2, d3, d4, d5, d6⟩ := keep6 hb7 ⟨hb, C1, C2, C3, C4, C5, C6⟩
    clear hb7 c1 c2 c3 c4 c5 c6 C1 C2 C3 C4 C5 C6
    go_wp2_with fail
    have d1 := Later.cell d1
    have d2 := Later.cell d2
    have d3 := Later.cell d3
    have d4 := Later.cell d4
    rcases three aw ac bw bc cw cc with ⟨h1, h2, h3⟩ | ⟨⟨h1, h2, h3⟩, h4 | ⟨h4, h5⟩⟩ | ⟨⟨h1, h2, h3⟩, h4 | ⟨h4, h5⟩⟩
    all_goals
      refine wp_region_later (by kernel_rfl) (by kernel_rfl) ?_
      repeat (go_big_quiet_step (first | (go_at_call 8; exact calls_later (compare_any _ _ _ _ _)) | (go_at_call 10; refine calls_later (later_a _ _ _ _ _ ?_); omega) | (go_at_call 10; refine calls_later (later_b _ _ _ _ _ ?_); omega)))
      refine wpQuiet_nil ?_
      rintro w6 ⟨⟨_, hb8⟩, rfl⟩
      go_wp2
      go_ret
      exact ⟨rfl, behind hb hb8⟩

end Go.Proofs.Ytbmadccfipbjlaa
