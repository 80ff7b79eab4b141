/-
  'copselaw.ClockStamps': the walk: the law returns true, whatever the stamps and the wall are; nothing that was there is written.
-/
import Derived.Test.YtbmadccfipbjlaaDoorRefClock
import Derived.Test.YtbmadccfipbjlaaDoorBareE
namespace Go.Proofs.YtbmadccfipbjlaaDoor
open Go.RowKit

/-- BOTH Nexts give the same stamp, and the same error: nil where the document says OK -/
theorem next_both (lw lc now : Int) : ∃ (s0 s1 n : Int) (ev : Value), (ev = .nilIface ∧ n = 0 ∨ ev = .iface 24 (.int .i64 n)) ∧
    (∀ w, Calls Tryd.prog 4 #[.agg #[.int .i64 lw, .int .i64 lc], .int .i64 now] w fun e w' => e = .returned (.tuple #[.agg #[.int .i64 s0, .int .i64 s1], .int .i64 n]) ∧ Below w.heap.size w w') ∧
    (∀ w, Calls Tryd.prog 5 #[.agg #[.int .i64 lw, .int .i64 lc], .int .i64 now] w fun e w' => e = .returned (.tuple #[.agg #[.int .i64 s0, .int .i64 s1], ev]) ∧ Below w.heap.size w w') := by
  by_cases h : (timeB lw && timeB lc) = true
  · by_cases h2 : timeB now = true
    · have hb : 0 ≤ lc ∧ lc ≤ 1099511627776 := by simp only [Bool.and_eq_true, timeB_iff] at h; omega
      by_cases h3 : lw < now
      · exact ⟨_, _, _, _, .inl ⟨rfl, rfl⟩, fun w => refNext_wall lw lc now w h h2 h3, fun w => next_wall lw lc now w h h2 h3⟩
      · by_cases h4 : lc = 1099511627776
        · exact ⟨_, _, _, _, .inr rfl, fun w => refNext_full lw lc now w h h2 h3 hb.1 hb.2 (by omega), fun w => next_full lw lc now w h h2 h3 (by simp [h4])⟩
        · exact ⟨_, _, _, _, .inl ⟨rfl, rfl⟩, fun w => refNext_count lw lc now w h h2 h3 hb.1 hb.2 (by omega), fun w => next_count lw lc now w h h2 h3 (by simp [h4]) hb.1 (by omega)⟩
    · exact ⟨_, _, _, _, .inr rfl, fun w => refNext_range2 lw lc now w h (by simpa using h2), fun w => next_range2 lw lc now w h (by simpa using h2)⟩
  · exact ⟨_, _, _, _, .inr rfl, fun w => refNext_range1 lw lc now w (by simpa using h), fun w => next_range1 lw lc now w (by simpa using h)⟩

/-- the tail of the walk's facts: a row, and nothing else -/
theorem Row2.boxed {w : World} {b : Nat} {a0 a1 : Int} (h : Row2 w b a0 a1) (o : Obj) : Row2 (w.alloc o) b a0 a1 := h.later (YtbmadccfipbjlaaDoor.boxed (Below.refl _ _) o)

set_option maxHeartbeats 2000000 in
theorem stamps_nil_a (aw ac bw bc now : Int) (w : World) (s0 s1 : Int) (hg : w.cell? ⟨0, 0, none⟩ = some (.iface 63 (.agg #[.pointer (some ⟨1, 28, none⟩)])))
    (hR : ∀ w, Calls Tryd.prog 4 #[.agg #[.int .i64 aw, .int .i64 ac], .int .i64 now] w fun e w' => e = .returned (.tuple #[.agg #[.int .i64 s0, .int .i64 s1], .int .i64 0]) ∧ Below w.heap.size w w')
    (hN : ∀ w, Calls Tryd.prog 5 #[.agg #[.int .i64 aw, .int .i64 ac], .int .i64 now] w fun e w' => e = .returned (.tuple #[.agg #[.int .i64 s0, .int .i64 s1], .nilIface]) ∧ Below w.heap.size w w')
    (hlt : ¬ cmpS aw ac bw bc < 0) :
    Calls Tryd.prog 3 #[.agg #[.int .i64 aw, .int .i64 ac], .agg #[.int .i64 bw, .int .i64 bc], .int .i64 now] w fun e w' => e = .returned (.bool true) ∧ Below w.heap.size w w' := by
  have he := eqStampB
  have hne := Later.one
  have hsm := same2_self
  have HR : Hid (∀ w, Calls Tryd.prog 4 #[.agg #[.int .i64 aw, .int .i64 ac], .int .i64 now] w fun e w' => e = .returned (.tuple #[.agg #[.int .i64 s0, .int .i64 s1], .int .i64 0]) ∧ Below w.heap.size w w') := hR
  have HN : Hid (∀ w, Calls Tryd.prog 5 #[.agg #[.int .i64 aw, .int .i64 ac], .int .i64 now] w fun e w' => e = .returned (.tuple #[.agg #[.int .i64 s0, .int .i64 s1], .nilIface]) ∧ Below w.heap.size w w') := hN
  have HG : Hid (w.cell? ⟨0, 0, none⟩ = some (.iface 63 (.agg #[.pointer (some ⟨1, 28, none⟩)]))) := hg
  clear hR hN hg
  go_enter Tryd.func3, Tryd.ntmps3
  go_wp2_with fail
  refine (HR.out _).mono ?_
  rintro e w1 ⟨rfl, hb⟩
  obtain ⟨A, B⟩ := rows2 hb
  replace hb := below2 hb
  replace A := A.boxed (.cells #[.int .i64 s0, .int .i64 s1] 23)
  replace B := B.boxed (.cells #[.int .i64 s0, .int .i64 s1] 23)
  have X := Row2.new w1 23 s0 s1
  have c0 := A.c0
  have c1 := A.c1
  go_wp2_with fail
  refine (HN.out _).mono ?_
  rintro e w2 ⟨rfl, hb2⟩
  have lB := (B.later hb2).lt
  have lX := (X.later hb2).lt
  replace hb := behind (boxed hb (.cells #[.int .i64 s0, .int .i64 s1] 23)) hb2
  replace A := (A.later hb2).boxed (.cells #[.int .i64 s0, .int .i64 s1] 23)
  replace B := (B.later hb2).boxed (.cells #[.int .i64 s0, .int .i64 s1] 23)
  replace X := (X.later hb2).boxed (.cells #[.int .i64 s0, .int .i64 s1] 23)
  have Y := Row2.new w2 23 s0 s1
  clear hb2 c0 c1
  have c0 := A.c0
  have c1 := A.c1
  have d0 := (A.boxed (.cells #[.int .i64 aw, .int .i64 ac] 23)).c0
  have d1 := (A.boxed (.cells #[.int .i64 aw, .int .i64 ac] 23)).c1
  have e0 := (B.boxed (.cells #[.int .i64 aw, .int .i64 ac] 23)).c0
  have e1 := (B.boxed (.cells #[.int .i64 aw, .int .i64 ac] 23)).c1
  go_wp2_with fail
  refine (refCompare_any _ _ _ _ _).mono ?_
  rintro e w3 ⟨rfl, hb3⟩
  have Z := Row2.new (w2.alloc (.cells #[.int .i64 s0, .int .i64 s1] 23)) 23 aw ac
  simp only [World.size_alloc] at Z
  replace Z := Z.later hb3
  replace A := (A.boxed (.cells #[.int .i64 aw, .int .i64 ac] 23)).later hb3
  replace B := (B.boxed (.cells #[.int .i64 aw, .int .i64 ac] 23)).later hb3
  replace X := (X.boxed (.cells #[.int .i64 aw, .int .i64 ac] 23)).later hb3
  replace Y := (Y.boxed (.cells #[.int .i64 aw, .int .i64 ac] 23)).later hb3
  have hs2 := hb.size
  replace hb := behind (boxed (boxed hb (.cells #[.int .i64 s0, .int .i64 s1] 23)) (.cells #[.int .i64 aw, .int .i64 ac] 23)) hb3
  clear hb3 c0 c1 d0 d1 e0 e1
  go_wp2_with fail
  have G := cell_later hb HG.out
  have g := Later.cell G
  have a0 := Later.cell A.c0
  have a1 := Later.cell A.c1
  have b0 := Later.cell B.c0
  have b1 := Later.cell B.c1
  have x0 := Later.cell X.c0
  have x1 := Later.cell X.c1
  have y0 := Later.cell Y.c0
  have y1 := Later.cell Y.c1
  have z0 := Later.cell Z.c0
  have z1 := Later.cell Z.c1
  clear A B X Y Z G HR HN HG
  refine wp_region_later (by kernel_rfl) (by kernel_rfl) ?_
  repeat (go_big_quiet_step (first | (go_at_call 7; exact calls_later (bare_nil _)) | (go_at_call 8; exact calls_later (right_any _ _ _)) | (go_at_call 9; exact calls_later (refRight_any _ _ _)) | (go_at_call 10; exact calls_later (compare_any _ _ _ _ _)) | (go_at_call 6; exact calls_later (refCompare_any _ _ _ _ _)) | (go_at_call 11; refine calls_later (later_a _ _ _ _ _ ?_); omega)))
  refine wpQuiet_nil ?_
  rintro w6 ⟨⟨_, hb8⟩, rfl⟩
  go_wp2
  go_ret
  exact ⟨rfl, behind hb hb8⟩

set_option maxHeartbeats 2000000 in
theorem stamps_nil_b (aw ac bw bc now : Int) (w : World) (s0 s1 : Int) (hg : w.cell? ⟨0, 0, none⟩ = some (.iface 63 (.agg #[.pointer (some ⟨1, 28, none⟩)])))
    (hR : ∀ w, Calls Tryd.prog 4 #[.agg #[.int .i64 aw, .int .i64 ac], .int .i64 now] w fun e w' => e = .returned (.tuple #[.agg #[.int .i64 s0, .int .i64 s1], .int .i64 0]) ∧ Below w.heap.size w w')
    (hN : ∀ w, Calls Tryd.prog 5 #[.agg #[.int .i64 aw, .int .i64 ac], .int .i64 now] w fun e w' => e = .returned (.tuple #[.agg #[.int .i64 s0, .int .i64 s1], .nilIface]) ∧ Below w.heap.size w w')
    (hlt : cmpS aw ac bw bc < 0) :
    Calls Tryd.prog 3 #[.agg #[.int .i64 aw, .int .i64 ac], .agg #[.int .i64 bw, .int .i64 bc], .int .i64 now] w fun e w' => e = .returned (.bool true) ∧ Below w.heap.size w w' := by
  have he := eqStampB
  have hne := Later.one
  have hsm := same2_self
  have HR : Hid (∀ w, Calls Tryd.prog 4 #[.agg #[.int .i64 aw, .int .i64 ac], .int .i64 now] w fun e w' => e = .returned (.tuple #[.agg #[.int .i64 s0, .int .i64 s1], .int .i64 0]) ∧ Below w.heap.size w w') := hR
  have HN : Hid (∀ w, Calls Tryd.prog 5 #[.agg #[.int .i64 aw, .int .i64 ac], .int .i64 now] w fun e w' => e = .returned (.tuple #[.agg #[.int .i64 s0, .int .i64 s1], .nilIface]) ∧ Below w.heap.size w w') := hN
  have HG : Hid (w.cell? ⟨0, 0, none⟩ = some (.iface 63 (.agg #[.pointer (some ⟨1, 28, none⟩)]))) := hg
  clear hR hN hg
  go_enter Tryd.func3, Tryd.ntmps3
  go_wp2_with fail
  refine (HR.out _).mono ?_
  rintro e w1 ⟨rfl, hb⟩
  obtain ⟨A, B⟩ := rows2 hb
  replace hb := below2 hb
  replace A := A.boxed (.cells #[.int .i64 s0, .int .i64 s1] 23)
  replace B := B.boxed (.cells #[.int .i64 s0, .int .i64 s1] 23)
  have X := Row2.new w1 23 s0 s1
  have c0 := A.c0
  have c1 := A.c1
  go_wp2_with fail
  refine (HN.out _).mono ?_
  rintro e w2 ⟨rfl, hb2⟩
  have lB := (B.later hb2).lt
  have lX := (X.later hb2).lt
  replace hb := behind (boxed hb (.cells #[.int .i64 s0, .int .i64 s1] 23)) hb2
  replace A := (A.later hb2).boxed (.cells #[.int .i64 s0, .int .i64 s1] 23)
  replace B := (B.later hb2).boxed (.cells #[.int .i64 s0, .int .i64 s1] 23)
  replace X := (X.later hb2).boxed (.cells #[.int .i64 s0, .int .i64 s1] 23)
  have Y := Row2.new w2 23 s0 s1
  clear hb2 c0 c1
  have c0 := A.c0
  have c1 := A.c1
  have d0 := (A.boxed (.cells #[.int .i64 aw, .int .i64 ac] 23)).c0
  have d1 := (A.boxed (.cells #[.int .i64 aw, .int .i64 ac] 23)).c1
  have e0 := (B.boxed (.cells #[.int .i64 aw, .int .i64 ac] 23)).c0
  have e1 := (B.boxed (.cells #[.int .i64 aw, .int .i64 ac] 23)).c1
  go_wp2_with fail
  refine (refCompare_any _ _ _ _ _).mono ?_
  rintro e w3 ⟨rfl, hb3⟩
  have Z := Row2.new (w2.alloc (.cells #[.int .i64 s0, .int .i64 s1] 23)) 23 aw ac
  simp only [World.size_alloc] at Z
  replace Z := Z.later hb3
  replace A := (A.boxed (.cells #[.int .i64 aw, .int .i64 ac] 23)).later hb3
  replace B := (B.boxed (.cells #[.int .i64 aw, .int .i64 ac] 23)).later hb3
  replace X := (X.boxed (.cells #[.int .i64 aw, .int .i64 ac] 23)).later hb3
  replace Y := (Y.boxed (.cells #[.int .i64 aw, .int .i64 ac] 23)).later hb3
  have hs2 := hb.size
  replace hb := behind (boxed (boxed hb (.cells #[.int .i64 s0, .int .i64 s1] 23)) (.cells #[.int .i64 aw, .int .i64 ac] 23)) hb3
  clear hb3 c0 c1 d0 d1 e0 e1
  have b0 := B.c0
  have b1 := B.c1
  have z0 := Z.c0
  have z1 := Z.c1
  have y0 := Z.f0
  have y1 := Z.f1
  go_wp2_with fail
  clear b0 b1 z0 z1 y0 y1
  have hl2 := hb.size
  replace hb := (hb.setCell (p := ⟨w2.heap.size + 1, 0, none⟩) (by simp; omega) (.int .i64 bw)).setCell (p := ⟨w2.heap.size + 1, 1, none⟩) (by simp; omega) (.int .i64 bc)
  replace A := (A.far ⟨w2.heap.size + 1, 0, none⟩ (.int .i64 bw) (by simp; omega)).far ⟨w2.heap.size + 1, 1, none⟩ (.int .i64 bc) (by simp; omega)
  replace B := (B.far ⟨w2.heap.size + 1, 0, none⟩ (.int .i64 bw) (by simp; omega)).far ⟨w2.heap.size + 1, 1, none⟩ (.int .i64 bc) (by simp; omega)
  replace X := (X.far ⟨w2.heap.size + 1, 0, none⟩ (.int .i64 bw) (by simp; omega)).far ⟨w2.heap.size + 1, 1, none⟩ (.int .i64 bc) (by simp; omega)
  replace Y := (Y.far ⟨w2.heap.size + 1, 0, none⟩ (.int .i64 bw) (by simp)).far ⟨w2.heap.size + 1, 1, none⟩ (.int .i64 bc) (by simp)
  replace Z := (Z.set0 bw).set1 bc
  have G := cell_later hb HG.out
  have g := Later.cell G
  have a0 := Later.cell A.c0
  have a1 := Later.cell A.c1
  have b0 := Later.cell B.c0
  have b1 := Later.cell B.c1
  have x0 := Later.cell X.c0
  have x1 := Later.cell X.c1
  have y0 := Later.cell Y.c0
  have y1 := Later.cell Y.c1
  have z0 := Later.cell Z.c0
  have z1 := Later.cell Z.c1
  clear A B X Y Z G HR HN HG
  refine wp_region_later (by kernel_rfl) (by kernel_rfl) ?_
  repeat (go_big_quiet_step (first | (go_at_call 7; exact calls_later (bare_nil _)) | (go_at_call 8; exact calls_later (right_any _ _ _)) | (go_at_call 9; exact calls_later (refRight_any _ _ _)) | (go_at_call 10; exact calls_later (compare_any _ _ _ _ _)) | (go_at_call 6; exact calls_later (refCompare_any _ _ _ _ _)) | (go_at_call 11; refine calls_later (later_b _ _ _ _ _ ?_); omega)))
  refine wpQuiet_nil ?_
  rintro w6 ⟨⟨_, hb8⟩, rfl⟩
  go_wp2
  go_ret
  exact ⟨rfl, behind hb hb8⟩

set_option maxHeartbeats 2000000 in
theorem stamps_err_a (aw ac bw bc now : Int) (w : World) (s0 s1 n : Int) (hg : w.cell? ⟨0, 0, none⟩ = some (.iface 63 (.agg #[.pointer (some ⟨1, 28, none⟩)])))
    (hR : ∀ w, Calls Tryd.prog 4 #[.agg #[.int .i64 aw, .int .i64 ac], .int .i64 now] w fun e w' => e = .returned (.tuple #[.agg #[.int .i64 s0, .int .i64 s1], .int .i64 n]) ∧ Below w.heap.size w w')
    (hN : ∀ w, Calls Tryd.prog 5 #[.agg #[.int .i64 aw, .int .i64 ac], .int .i64 now] w fun e w' => e = .returned (.tuple #[.agg #[.int .i64 s0, .int .i64 s1], .iface 24 (.int .i64 n)]) ∧ Below w.heap.size w w')
    (hlt : ¬ cmpS aw ac bw bc < 0) :
    Calls Tryd.prog 3 #[.agg #[.int .i64 aw, .int .i64 ac], .agg #[.int .i64 bw, .int .i64 bc], .int .i64 now] w fun e w' => e = .returned (.bool true) ∧ Below w.heap.size w w' := by
  have he := eqStampB
  have hne := Later.one
  have hsm := same2_self
  have HR : Hid (∀ w, Calls Tryd.prog 4 #[.agg #[.int .i64 aw, .int .i64 ac], .int .i64 now] w fun e w' => e = .returned (.tuple #[.agg #[.int .i64 s0, .int .i64 s1], .int .i64 n]) ∧ Below w.heap.size w w') := hR
  have HN : Hid (∀ w, Calls Tryd.prog 5 #[.agg #[.int .i64 aw, .int .i64 ac], .int .i64 now] w fun e w' => e = .returned (.tuple #[.agg #[.int .i64 s0, .int .i64 s1], .iface 24 (.int .i64 n)]) ∧ Below w.heap.size w w') := hN
  have HG : Hid (w.cell? ⟨0, 0, none⟩ = some (.iface 63 (.agg #[.pointer (some ⟨1, 28, none⟩)]))) := hg
  clear hR hN hg
  go_enter Tryd.func3, Tryd.ntmps3
  go_wp2_with fail
  refine (HR.out _).mono ?_
  rintro e w1 ⟨rfl, hb⟩
  obtain ⟨A, B⟩ := rows2 hb
  replace hb := below2 hb
  replace A := A.boxed (.cells #[.int .i64 s0, .int .i64 s1] 23)
  replace B := B.boxed (.cells #[.int .i64 s0, .int .i64 s1] 23)
  have X := Row2.new w1 23 s0 s1
  have c0 := A.c0
  have c1 := A.c1
  go_wp2_with fail
  refine (HN.out _).mono ?_
  rintro e w2 ⟨rfl, hb2⟩
  have lB := (B.later hb2).lt
  have lX := (X.later hb2).lt
  replace hb := behind (boxed hb (.cells #[.int .i64 s0, .int .i64 s1] 23)) hb2
  replace A := (A.later hb2).boxed (.cells #[.int .i64 s0, .int .i64 s1] 23)
  replace B := (B.later hb2).boxed (.cells #[.int .i64 s0, .int .i64 s1] 23)
  replace X := (X.later hb2).boxed (.cells #[.int .i64 s0, .int .i64 s1] 23)
  have Y := Row2.new w2 23 s0 s1
  clear hb2 c0 c1
  have c0 := A.c0
  have c1 := A.c1
  have d0 := (A.boxed (.cells #[.int .i64 aw, .int .i64 ac] 23)).c0
  have d1 := (A.boxed (.cells #[.int .i64 aw, .int .i64 ac] 23)).c1
  have e0 := (B.boxed (.cells #[.int .i64 aw, .int .i64 ac] 23)).c0
  have e1 := (B.boxed (.cells #[.int .i64 aw, .int .i64 ac] 23)).c1
  go_wp2_with fail
  refine (refCompare_any _ _ _ _ _).mono ?_
  rintro e w3 ⟨rfl, hb3⟩
  have Z := Row2.new (w2.alloc (.cells #[.int .i64 s0, .int .i64 s1] 23)) 23 aw ac
  simp only [World.size_alloc] at Z
  replace Z := Z.later hb3
  replace A := (A.boxed (.cells #[.int .i64 aw, .int .i64 ac] 23)).later hb3
  replace B := (B.boxed (.cells #[.int .i64 aw, .int .i64 ac] 23)).later hb3
  replace X := (X.boxed (.cells #[.int .i64 aw, .int .i64 ac] 23)).later hb3
  replace Y := (Y.boxed (.cells #[.int .i64 aw, .int .i64 ac] 23)).later hb3
  have hs2 := hb.size
  replace hb := behind (boxed (boxed hb (.cells #[.int .i64 s0, .int .i64 s1] 23)) (.cells #[.int .i64 aw, .int .i64 ac] 23)) hb3
  clear hb3 c0 c1 d0 d1 e0 e1
  go_wp2_with fail
  have G := cell_later hb HG.out
  have g := Later.cell G
  have a0 := Later.cell A.c0
  have a1 := Later.cell A.c1
  have b0 := Later.cell B.c0
  have b1 := Later.cell B.c1
  have x0 := Later.cell X.c0
  have x1 := Later.cell X.c1
  have y0 := Later.cell Y.c0
  have y1 := Later.cell Y.c1
  have z0 := Later.cell Z.c0
  have z1 := Later.cell Z.c1
  clear A B X Y Z G HR HN HG
  refine wp_region_later (by kernel_rfl) (by kernel_rfl) ?_
  repeat (go_big_quiet_step (first | (go_at_call 7; exact calls_later (bare_errno _ _ (g _))) | (go_at_call 8; exact calls_later (right_any _ _ _)) | (go_at_call 9; exact calls_later (refRight_any _ _ _)) | (go_at_call 10; exact calls_later (compare_any _ _ _ _ _)) | (go_at_call 6; exact calls_later (refCompare_any _ _ _ _ _)) | (go_at_call 11; refine calls_later (later_a _ _ _ _ _ ?_); omega)))
  refine wpQuiet_nil ?_
  rintro w6 ⟨⟨_, hb8⟩, rfl⟩
  go_wp2
  go_ret
  exact ⟨rfl, behind hb hb8⟩

set_option maxHeartbeats 2000000 in
theorem stamps_err_b (aw ac bw bc now : Int) (w : World) (s0 s1 n : Int) (hg : w.cell? ⟨0, 0, none⟩ = some (.iface 63 (.agg #[.pointer (some ⟨1, 28, none⟩)])))
    (hR : ∀ w, Calls Tryd.prog 4 #[.agg #[.int .i64 aw, .int .i64 ac], .int .i64 now] w fun e w' => e = .returned (.tuple #[.agg #[.int .i64 s0, .int .i64 s1], .int .i64 n]) ∧ Below w.heap.size w w')
    (hN : ∀ w, Calls Tryd.prog 5 #[.agg #[.int .i64 aw, .int .i64 ac], .int .i64 now] w fun e w' => e = .returned (.tuple #[.agg #[.int .i64 s0, .int .i64 s1], .iface 24 (.int .i64 n)]) ∧ Below w.heap.size w w')
    (hlt : cmpS aw ac bw bc < 0) :
    Calls Tryd.prog 3 #[.agg #[.int .i64 aw, .int .i64 ac], .agg #[.int .i64 bw, .int .i64 bc], .int .i64 now] w fun e w' => e = .returned (.bool true) ∧ Below w.heap.size w w' := by
  have he := eqStampB
  have hne := Later.one
  have hsm := same2_self
  have HR : Hid (∀ w, Calls Tryd.prog 4 #[.agg #[.int .i64 aw, .int .i64 ac], .int .i64 now] w fun e w' => e = .returned (.tuple #[.agg #[.int .i64 s0, .int .i64 s1], .int .i64 n]) ∧ Below w.heap.size w w') := hR
  have HN : Hid (∀ w, Calls Tryd.prog 5 #[.agg #[.int .i64 aw, .int .i64 ac], .int .i64 now] w fun e w' => e = .returned (.tuple #[.agg #[.int .i64 s0, .int .i64 s1], .iface 24 (.int .i64 n)]) ∧ Below w.heap.size w w') := hN
  have HG : Hid (w.cell? ⟨0, 0, none⟩ = some (.iface 63 (.agg #[.pointer (some ⟨1, 28, none⟩)]))) := hg
  clear hR hN hg
  go_enter Tryd.func3, Tryd.ntmps3
  go_wp2_with fail
  refine (HR.out _).mono ?_
  rintro e w1 ⟨rfl, hb⟩
  obtain ⟨A, B⟩ := rows2 hb
  replace hb := below2 hb
  replace A := A.boxed (.cells #[.int .i64 s0, .int .i64 s1] 23)
  replace B := B.boxed (.cells #[.int .i64 s0, .int .i64 s1] 23)
  have X := Row2.new w1 23 s0 s1
  have c0 := A.c0
  have c1 := A.c1
  go_wp2_with fail
  refine (HN.out _).mono ?_
  rintro e w2 ⟨rfl, hb2⟩
  have lB := (B.later hb2).lt
  have lX := (X.later hb2).lt
  replace hb := behind (boxed hb (.cells #[.int .i64 s0, .int .i64 s1] 23)) hb2
  replace A := (A.later hb2).boxed (.cells #[.int .i64 s0, .int .i64 s1] 23)
  replace B := (B.later hb2).boxed (.cells #[.int .i64 s0, .int .i64 s1] 23)
  replace X := (X.later hb2).boxed (.cells #[.int .i64 s0, .int .i64 s1] 23)
  have Y := Row2.new w2 23 s0 s1
  clear hb2 c0 c1
  have c0 := A.c0
  have c1 := A.c1
  have d0 := (A.boxed (.cells #[.int .i64 aw, .int .i64 ac] 23)).c0
  have d1 := (A.boxed (.cells #[.int .i64 aw, .int .i64 ac] 23)).c1
  have e0 := (B.boxed (.cells #[.int .i64 aw, .int .i64 ac] 23)).c0
  have e1 := (B.boxed (.cells #[.int .i64 aw, .int .i64 ac] 23)).c1
  go_wp2_with fail
  refine (refCompare_any _ _ _ _ _).mono ?_
  rintro e w3 ⟨rfl, hb3⟩
  have Z := Row2.new (w2.alloc (.cells #[.int .i64 s0, .int .i64 s1] 23)) 23 aw ac
  simp only [World.size_alloc] at Z
  replace Z := Z.later hb3
  replace A := (A.boxed (.cells #[.int .i64 aw, .int .i64 ac] 23)).later hb3
  replace B := (B.boxed (.cells #[.int .i64 aw, .int .i64 ac] 23)).later hb3
  replace X := (X.boxed (.cells #[.int .i64 aw, .int .i64 ac] 23)).later hb3
  replace Y := (Y.boxed (.cells #[.int .i64 aw, .int .i64 ac] 23)).later hb3
  have hs2 := hb.size
  replace hb := behind (boxed (boxed hb (.cells #[.int .i64 s0, .int .i64 s1] 23)) (.cells #[.int .i64 aw, .int .i64 ac] 23)) hb3
  clear hb3 c0 c1 d0 d1 e0 e1
  have b0 := B.c0
  have b1 := B.c1
  have z0 := Z.c0
  have z1 := Z.c1
  have y0 := Z.f0
  have y1 := Z.f1
  go_wp2_with fail
  clear b0 b1 z0 z1 y0 y1
  have hl2 := hb.size
  replace hb := (hb.setCell (p := ⟨w2.heap.size + 1, 0, none⟩) (by simp; omega) (.int .i64 bw)).setCell (p := ⟨w2.heap.size + 1, 1, none⟩) (by simp; omega) (.int .i64 bc)
  replace A := (A.far ⟨w2.heap.size + 1, 0, none⟩ (.int .i64 bw) (by simp; omega)).far ⟨w2.heap.size + 1, 1, none⟩ (.int .i64 bc) (by simp; omega)
  replace B := (B.far ⟨w2.heap.size + 1, 0, none⟩ (.int .i64 bw) (by simp; omega)).far ⟨w2.heap.size + 1, 1, none⟩ (.int .i64 bc) (by simp; omega)
  replace X := (X.far ⟨w2.heap.size + 1, 0, none⟩ (.int .i64 bw) (by simp; omega)).far ⟨w2.heap.size + 1, 1, none⟩ (.int .i64 bc) (by simp; omega)
  replace Y := (Y.far ⟨w2.heap.size + 1, 0, none⟩ (.int .i64 bw) (by simp)).far ⟨w2.heap.size + 1, 1, none⟩ (.int .i64 bc) (by simp)
  replace Z := (Z.set0 bw).set1 bc
  have G := cell_later hb HG.out
  have g := Later.cell G
  have a0 := Later.cell A.c0
  have a1 := Later.cell A.c1
  have b0 := Later.cell B.c0
  have b1 := Later.cell B.c1
  have x0 := Later.cell X.c0
  have x1 := Later.cell X.c1
  have y0 := Later.cell Y.c0
  have y1 := Later.cell Y.c1
  have z0 := Later.cell Z.c0
  have z1 := Later.cell Z.c1
  clear A B X Y Z G HR HN HG
  refine wp_region_later (by kernel_rfl) (by kernel_rfl) ?_
  repeat (go_big_quiet_step (first | (go_at_call 7; exact calls_later (bare_errno _ _ (g _))) | (go_at_call 8; exact calls_later (right_any _ _ _)) | (go_at_call 9; exact calls_later (refRight_any _ _ _)) | (go_at_call 10; exact calls_later (compare_any _ _ _ _ _)) | (go_at_call 6; exact calls_later (refCompare_any _ _ _ _ _)) | (go_at_call 11; refine calls_later (later_b _ _ _ _ _ ?_); omega)))
  refine wpQuiet_nil ?_
  rintro w6 ⟨⟨_, hb8⟩, rfl⟩
  go_wp2
  go_ret
  exact ⟨rfl, behind hb hb8⟩

/-- THE WALK: whatever the stamps and the wall are -/
theorem stamps_any (aw ac bw bc now : Int) (w : World) (hg : w.cell? ⟨0, 0, none⟩ = some (.iface 63 (.agg #[.pointer (some ⟨1, 28, none⟩)]))) :
    Calls Tryd.prog 3 #[.agg #[.int .i64 aw, .int .i64 ac], .agg #[.int .i64 bw, .int .i64 bc], .int .i64 now] w fun e w' => e = .returned (.bool true) ∧ Below w.heap.size w w' := by
  obtain ⟨s0, s1, n, ev, hev, hR, hN⟩ := next_both aw ac now
  by_cases h : cmpS aw ac bw bc < 0
  · rcases hev with ⟨rfl, rfl⟩ | rfl
    · exact stamps_nil_b aw ac bw bc now w s0 s1 hg hR hN h
    · exact stamps_err_b aw ac bw bc now w s0 s1 n hg hR hN h
  · rcases hev with ⟨rfl, rfl⟩ | rfl
    · exact stamps_nil_a aw ac bw bc now w s0 s1 hg hR hN h
    · exact stamps_err_a aw ac bw bc now w s0 s1 n hg hR hN h

end Go.Proofs.YtbmadccfipbjlaaDoor
