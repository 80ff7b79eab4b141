/-
  What the document's own answers on stamps do, as the model runs them (package copseref).
-/
import Derived.Test.YtknejedgddlabaaDoorClock
import Derived.Test.YtknejedgddlabaaDoorSiteA
namespace Go.Proofs.YtknejedgddlabaaDoor
open Go.RowKit

set_option maxHeartbeats 1000000 in
theorem refCompare_any (aw ac bw bc : Int) (w : World) :
    Calls Tryd.prog 11 #[.agg #[.int .i64 aw, .int .i64 ac], .agg #[.int .i64 bw, .int .i64 bc]] w fun e w' => e = .returned (.int .i64 (cmpS aw ac bw bc)) ∧ Below w.heap.size w w' := by
  have he := eqStampB
  rcases cmpS_cases aw ac bw bc with ⟨h, e⟩ | ⟨⟨rfl, rfl⟩, e⟩ | ⟨h, e⟩
  · have hs : same2 aw ac bw bc = false := by simp [same2]; omega
    rw [e]
    clear e
    rcases h with h | ⟨rfl, h⟩
    · go_enter Tryd.func11, Tryd.ntmps11
      go_wp2
      go_ret
      exact ⟨rfl, boxed (boxed (Below.refl _ _) _) _⟩
    · go_enter Tryd.func11, Tryd.ntmps11
      go_wp2
      go_ret
      exact ⟨rfl, boxed (boxed (Below.refl _ _) _) _⟩
  · have hs := same2_self aw ac
    rw [e]
    clear e
    go_enter Tryd.func11, Tryd.ntmps11
    go_wp2
    go_ret
    exact ⟨rfl, boxed (boxed (Below.refl _ _) _) _⟩
  · have hs : same2 aw ac bw bc = false := by simp [same2]; omega
    rw [e]
    clear e
    rcases h with h | ⟨rfl, h⟩
    · have h1 : ¬ aw < bw := by omega
      have h2 : (aw == bw) = false := by simp; omega
      go_enter Tryd.func11, Tryd.ntmps11
      go_wp2
      go_ret
      exact ⟨rfl, boxed (boxed (Below.refl _ _) _) _⟩
    · have h1 : ¬ ac < bc := by omega
      go_enter Tryd.func11, Tryd.ntmps11
      go_wp2
      go_ret
      exact ⟨rfl, boxed (boxed (Below.refl _ _) _) _⟩

set_option maxHeartbeats 400000 in
theorem refNext_range1 (lw lc now : Int) (w : World) (h : (timeB lw && timeB lc) = false) :
    Calls Tryd.prog 9 #[.agg #[.int .i64 lw, .int .i64 lc], .int .i64 now] w fun e w' => e = .returned (.tuple #[.agg #[.int .i64 0, .int .i64 0], .int .i64 2]) ∧ Below w.heap.size w w' := by
  go_enter Tryd.func9, Tryd.ntmps9
  go_wp2_with fail
  refine (refRight_any _ _ _).mono ?_
  rintro e w1 ⟨rfl, hb⟩
  obtain ⟨hc, hf⟩ := bcell hb
  have hz : w.heap.size + 1 < w1.heap.size := by have := hb.size; simp at this; omega
  go_wp2_with (go_at_call 54; refine (in_any _ _).mono ?_; rintro e w' ⟨rfl, rfl⟩)
  refine bodyPost_ret (v := .tuple #[.agg #[.int .i64 0, .int .i64 0], .int .i64 2]) (by simp [results, Tryd.results9, go_sem, hc]) rfl ⟨rfl, ?_⟩
  repeat (first | (with_reducible exact below2 hb) | (with_reducible refine Below.setCell ?_ (by simp) _))

set_option maxHeartbeats 400000 in
theorem refNext_range2 (lw lc now : Int) (w : World) (h : (timeB lw && timeB lc) = true) (h2 : timeB now = false) :
    Calls Tryd.prog 9 #[.agg #[.int .i64 lw, .int .i64 lc], .int .i64 now] w fun e w' => e = .returned (.tuple #[.agg #[.int .i64 0, .int .i64 0], .int .i64 2]) ∧ Below w.heap.size w w' := by
  go_enter Tryd.func9, Tryd.ntmps9
  go_wp2_with fail
  refine (refRight_any _ _ _).mono ?_
  rintro e w1 ⟨rfl, hb⟩
  obtain ⟨hc, hf⟩ := bcell hb
  have hz : w.heap.size + 1 < w1.heap.size := by have := hb.size; simp at this; omega
  go_wp2_with (go_at_call 54; refine (in_any _ _).mono ?_; rintro e w' ⟨rfl, rfl⟩)
  refine bodyPost_ret (v := .tuple #[.agg #[.int .i64 0, .int .i64 0], .int .i64 2]) (by simp [results, Tryd.results9, go_sem, hc]) rfl ⟨rfl, ?_⟩
  repeat (first | (with_reducible exact below2 hb) | (with_reducible refine Below.setCell ?_ (by simp) _))

set_option maxHeartbeats 400000 in
theorem refNext_wall (lw lc now : Int) (w : World) (h : (timeB lw && timeB lc) = true) (h2 : timeB now = true) (h3 : lw < now) :
    Calls Tryd.prog 9 #[.agg #[.int .i64 lw, .int .i64 lc], .int .i64 now] w fun e w' => e = .returned (.tuple #[.agg #[.int .i64 now, .int .i64 0], .int .i64 0]) ∧ Below w.heap.size w w' := by
  go_enter Tryd.func9, Tryd.ntmps9
  go_wp2_with fail
  refine (refRight_any _ _ _).mono ?_
  rintro e w1 ⟨rfl, hb⟩
  obtain ⟨hc, hf⟩ := bcell hb
  have hz : w.heap.size + 1 < w1.heap.size := by have := hb.size; simp at this; omega
  go_wp2_with (go_at_call 54; refine (in_any _ _).mono ?_; rintro e w' ⟨rfl, rfl⟩)
  refine bodyPost_ret (v := .tuple #[.agg #[.int .i64 now, .int .i64 0], .int .i64 0]) (by simp [results, Tryd.results9, go_sem, hc]) rfl ⟨rfl, ?_⟩
  repeat (first | (with_reducible exact below2 hb) | (with_reducible refine Below.setCell ?_ (by simp) _))

set_option maxHeartbeats 400000 in
theorem refNext_full (lw lc now : Int) (w : World) (h : (timeB lw && timeB lc) = true) (h2 : timeB now = true) (h3 : ¬ lw < now) (h5 : 0 ≤ lc) (h6 : lc ≤ 1099511627776) (h4 : 1099511627776 < lc + 1) :
    Calls Tryd.prog 9 #[.agg #[.int .i64 lw, .int .i64 lc], .int .i64 now] w fun e w' => e = .returned (.tuple #[.agg #[.int .i64 0, .int .i64 0], .int .i64 12]) ∧ Below w.heap.size w w' := by
  go_enter Tryd.func9, Tryd.ntmps9
  go_wp2_with fail
  refine (refRight_any _ _ _).mono ?_
  rintro e w1 ⟨rfl, hb⟩
  obtain ⟨⟨c0, c1, f0, f1⟩, ⟨d0, d1, e0, e1⟩⟩ := rows2 hb
  have hz : w.heap.size + 1 < w1.heap.size := by have := hb.size; simp at this; omega
  go_wp2_with (go_at_call 54; refine (in_any _ _).mono ?_; rintro e w' ⟨rfl, rfl⟩)
  refine bodyPost_ret (v := .tuple #[.agg #[.int .i64 0, .int .i64 0], .int .i64 12]) (by simp [results, Tryd.results9, go_sem, d0, d1]) rfl ⟨rfl, ?_⟩
  repeat (first | (with_reducible exact below2 hb) | (with_reducible refine Below.setCell ?_ (by simp) _))

set_option maxHeartbeats 400000 in
theorem refNext_count (lw lc now : Int) (w : World) (h : (timeB lw && timeB lc) = true) (h2 : timeB now = true) (h3 : ¬ lw < now) (h5 : 0 ≤ lc) (h6 : lc ≤ 1099511627776) (h4 : ¬ 1099511627776 < lc + 1) :
    Calls Tryd.prog 9 #[.agg #[.int .i64 lw, .int .i64 lc], .int .i64 now] w fun e w' => e = .returned (.tuple #[.agg #[.int .i64 lw, .int .i64 (lc + 1)], .int .i64 0]) ∧ Below w.heap.size w w' := by
  go_enter Tryd.func9, Tryd.ntmps9
  go_wp2_with fail
  refine (refRight_any _ _ _).mono ?_
  rintro e w1 ⟨rfl, hb⟩
  obtain ⟨⟨c0, c1, f0, f1⟩, ⟨d0, d1, e0, e1⟩⟩ := rows2 hb
  have hz : w.heap.size + 1 < w1.heap.size := by have := hb.size; simp at this; omega
  go_wp2_with (go_at_call 54; refine (in_any _ _).mono ?_; rintro e w' ⟨rfl, rfl⟩)
  refine bodyPost_ret (v := .tuple #[.agg #[.int .i64 lw, .int .i64 (lc + 1)], .int .i64 0]) (by simp [results, Tryd.results9, go_sem, d0, d1]) rfl ⟨rfl, ?_⟩
  repeat (first | (with_reducible exact below2 hb) | (with_reducible refine Below.setCell ?_ (by simp) _))

end Go.Proofs.YtknejedgddlabaaDoor
