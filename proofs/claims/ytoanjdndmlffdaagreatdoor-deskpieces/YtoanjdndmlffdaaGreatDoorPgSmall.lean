import Derived.Test.YtoanjdndmlffdaaGreatDoorSiteB
namespace Go.Proofs.YtoanjdndmlffdaaGreatDoor
open Go.RowKit
set_option maxHeartbeats 1000000 in
theorem has_is {a0 a1 a2 a3 : Int} {v : Ver} {r : Bool} (h : hasV a0 a1 a2 a3 v = r) (h0 : 0 ≤ v.site) (h1 : v.site ≤ 3) (w : World) :
    Calls Tryz.prog 263 #[.agg #[.int .i64 a0, .int .i64 a1, .int .i64 a2, .int .i64 a3], .agg #[.int .i64 v.wall, .int .i64 v.count, .int .i64 v.site, .int .i64 v.seq, .string v.data, .bool v.gone]] w fun e w' => e = .returned (.bool r) ∧ Below w.heap.size w w' := by
  have hne := Later.one
  obtain ⟨wl, ct, st, sq, dt, gn⟩ := v
  have H : Hid (decide (sq ≤ depOf st a0 a1 a2 a3) = r) := h
  simp only at h0 h1
  have h2 : st < 4 := by omega
  clear h
  have RA := (Row4.new w 77 a0 a1 a2 a3).boxed (.cells #[.int .i64 wl, .int .i64 ct, .int .i64 st, .int .i64 sq, .string dt, .bool gn] 130)
  have RB := RowL.new (w := w.alloc (.cells #[.int .i64 a0, .int .i64 a1, .int .i64 a2, .int .i64 a3] 77)) (T := 130) (n := w.heap.size + 1) [.int .i64 wl, .int .i64 ct, .int .i64 st, .int .i64 sq, .string dt, .bool gn] (by simp)
  have hb := boxed (boxed (Below.refl _ w) (.cells #[.int .i64 a0, .int .i64 a1, .int .i64 a2, .int .i64 a3] 77)) (.cells #[.int .i64 wl, .int .i64 ct, .int .i64 st, .int .i64 sq, .string dt, .bool gn] 130)
  have c2 := Later.cell (RB.cell 2 _ rfl)
  have c3 := Later.cell (RB.cell 3 _ rfl)
  have hat := Later.cell (vec_at RA h0 h1)
  clear RA RB
  go_enter Tryz.func263, Tryz.ntmps263
  go_wp2_with fail
  refine wp_region_later (by kernel_rfl) (by kernel_rfl) ?_
  repeat (go_big_quiet_step (fail))
  refine wpQuiet_nil ?_
  rintro w5 ⟨⟨_, hb7⟩, rfl⟩
  go_wp2_with fail
  go_ret
  exact ⟨by rw [← H.out]; rfl, behind hb hb7⟩

/-- how two versions compare -/
def ordV (a b : Ver) : Int := if cmpS a.wall a.count b.wall b.count = 0 then cmpZ a.site b.site else cmpS a.wall a.count b.wall b.count
theorem ordV_neg {a b : Ver} : ordV a b < 0 ↔ beforeV a b = true := by
  rw [beforeV_iff]
  unfold ordV
  rcases cmpS_cases a.wall a.count b.wall b.count with ⟨h, e⟩ | ⟨h, e⟩ | ⟨h, e⟩
  · rw [e, if_neg (by decide)]; omega
  · rw [e, if_pos rfl]
    rcases cmpZ_cases a.site b.site with ⟨g, f⟩ | ⟨g, f⟩ | ⟨g, f⟩ <;> rw [f] <;> omega
  · rw [e, if_neg (by decide)]; omega
theorem ordV_zero {a b : Ver} : ordV a b = 0 ↔ Twin a b := by
  unfold ordV Twin
  rcases cmpS_cases a.wall a.count b.wall b.count with ⟨h, e⟩ | ⟨h, e⟩ | ⟨h, e⟩
  · rw [e, if_neg (by decide)]; omega
  · rw [e, if_pos rfl]
    rcases cmpZ_cases a.site b.site with ⟨g, f⟩ | ⟨g, f⟩ | ⟨g, f⟩ <;> rw [f] <;> omega
  · rw [e, if_neg (by decide)]; omega

set_option maxHeartbeats 1000000 in
theorem order_is {a b : Ver} {r : Int} (h : ordV a b = r) (w : World) :
    Calls Tryz.prog 285 #[.agg #[.int .i64 a.wall, .int .i64 a.count, .int .i64 a.site, .int .i64 a.seq, .string a.data, .bool a.gone], .agg #[.int .i64 b.wall, .int .i64 b.count, .int .i64 b.site, .int .i64 b.seq, .string b.data, .bool b.gone]] w fun e w' => e = .returned (.int .i64 r) ∧ Below w.heap.size w w' := by
  obtain ⟨aw, ac, asi, asq, ad, ag⟩ := a
  obtain ⟨bw, bc, bs, bq, bd, bg⟩ := b
  have RA := (RowL.new (w := w) (T := 130) [.int .i64 aw, .int .i64 ac, .int .i64 asi, .int .i64 asq, .string ad, .bool ag] rfl).boxed (.cells #[.int .i64 bw, .int .i64 bc, .int .i64 bs, .int .i64 bq, .string bd, .bool bg] 130)
  have RB := RowL.new (w := w.alloc (.cells #[.int .i64 aw, .int .i64 ac, .int .i64 asi, .int .i64 asq, .string ad, .bool ag] 130)) (T := 130) (n := w.heap.size + 1) [.int .i64 bw, .int .i64 bc, .int .i64 bs, .int .i64 bq, .string bd, .bool bg] (by simp)
  have hb := boxed (boxed (Below.refl _ w) (.cells #[.int .i64 aw, .int .i64 ac, .int .i64 asi, .int .i64 asq, .string ad, .bool ag] 130)) (.cells #[.int .i64 bw, .int .i64 bc, .int .i64 bs, .int .i64 bq, .string bd, .bool bg] 130)
  simp only [ordV] at h
  obtain ⟨c, hc⟩ : ∃ c, cmpS aw ac bw bc = c := ⟨_, rfl⟩
  rw [hc] at h
  have HC : Hid (cmpS aw ac bw bc = c) := hc
  clear hc
  by_cases h0 : c = 0
  · rw [if_pos h0] at h
    subst h0
    have H : Hid (cmpZ asi bs = r) := h
    clear h
    go_enter Tryz.func285, Tryz.ntmps285
    go_wp2_with fail
    refine (compare_any aw ac bw bc _).mono ?_
    rintro e w1 ⟨rfl, hb1⟩
    rw [HC.out]
    replace RA := RA.later hb1
    replace RB := RB.later hb1
    have c2 := RA.cell 2 _ rfl
    have d2 := RB.cell 2 _ rfl
    go_wp2_with (go_at_call 289; refine (cmp_any _ _ _).mono ?_; rintro e w' ⟨rfl, rfl⟩)
    go_ret
    exact ⟨by rw [← H.out]; rfl, behind hb hb1⟩
  · rw [if_neg h0] at h
    have e0 : (c == 0) = false := beq_eq_false_iff_ne.2 h0
    clear h0
    subst h
    go_enter Tryz.func285, Tryz.ntmps285
    go_wp2_with fail
    refine (compare_any aw ac bw bc _).mono ?_
    rintro e w1 ⟨rfl, hb1⟩
    rw [HC.out]
    go_wp2_with fail
    go_ret
    exact ⟨rfl, behind hb hb1⟩

set_option maxHeartbeats 400000 in
theorem isKey_is {n : Int} {r : Bool} (h : inB n 0 7 = r) (w : World) :
    Calls Tryz.prog 280 #[.int .i64 n] w fun e w' => e = .returned (.bool r) ∧ w' = w := by
  by_cases h0 : 0 ≤ n
  · by_cases h1 : n < 8
    · have e : inB n 0 7 = true := inB_iff.2 ⟨h0, by omega⟩
      rw [e] at h
      subst h
      go_enter Tryz.func280, Tryz.ntmps280
      go_wp2
      go_ret
      exact ⟨rfl, rfl⟩
    · have e : inB n 0 7 = false := by simp [inB]; omega
      rw [e] at h
      subst h
      go_enter Tryz.func280, Tryz.ntmps280
      go_wp2
      go_ret
      exact ⟨rfl, rfl⟩
  · have e : inB n 0 7 = false := by simp [inB, h0]
    rw [e] at h
    subst h
    go_enter Tryz.func280, Tryz.ntmps280
    go_wp2
    go_ret
    exact ⟨rfl, rfl⟩

set_option maxHeartbeats 2000000 in
theorem isRight_is {v : Ver} {r : Bool} (h : okVer v = r) (w : World) :
    Calls Tryz.prog 283 #[.agg #[.int .i64 v.wall, .int .i64 v.count, .int .i64 v.site, .int .i64 v.seq, .string v.data, .bool v.gone]] w fun e w' => e = .returned (.bool r) ∧ Below w.heap.size w w' := by
  obtain ⟨wl, ct, st, sq, dt, gn⟩ := v
  have R := RowL.new (w := w) (T := 130) [.int .i64 wl, .int .i64 ct, .int .i64 st, .int .i64 sq, .string dt, .bool gn] rfl
  have hb := boxed (Below.refl _ w) (.cells #[.int .i64 wl, .int .i64 ct, .int .i64 st, .int .i64 sq, .string dt, .bool gn] 130)
  obtain ⟨t, ht⟩ : ∃ t, (timeB wl && timeB ct) = t := ⟨_, rfl⟩
  have HT : Hid ((timeB wl && timeB ct) = t) := ht
  have h' : (t && inB st 0 3 && inB sq 1 1099511627776 && decide ((dt.size : Int) ≤ 12) && !(gn && !dt.toList.isEmpty)) = r := by rw [← ht]; exact h
  have H : Hid ((t && inB st 0 3 && inB sq 1 1099511627776 && decide ((dt.size : Int) ≤ 12) && !(gn && !dt.toList.isEmpty)) = r) := h'
  clear h ht h'
  go_enter Tryz.func283, Tryz.ntmps283
  go_wp2_with fail
  refine (right_any wl ct _).mono ?_
  rintro e w1 ⟨rfl, hb1⟩
  rw [HT.out]
  replace R := R.later hb1
  replace hb := behind hb hb1
  clear hb1 HT
  have c2 := R.cell 2 _ rfl
  have c3 := R.cell 3 _ rfl
  have c4 := R.cell 4 _ rfl
  have c5 := R.cell 5 _ rfl
  cases t
  · go_wp2_with fail
    go_ret
    exact ⟨by rw [← H.out]; rfl, hb⟩
  · by_cases a1 : st < 0
    · have e : inB st 0 3 = false := by simp [inB]; omega
      have HE : Hid (r = false) := by show r = false; rw [← H.out, e]; simp
      clear e
      go_wp2_with fail
      go_ret
      exact ⟨by rw [HE.out]; rfl, hb⟩
    · by_cases a2 : 4 ≤ st
      · have e : inB st 0 3 = false := by simp [inB]; omega
        have HE : Hid (r = false) := by show r = false; rw [← H.out, e]; simp
        clear e
        go_wp2_with fail
        go_ret
        exact ⟨by rw [HE.out]; rfl, hb⟩
      · have e1 : Hid (inB st 0 3 = true) := inB_iff.2 (by omega)
        by_cases a3 : sq < 1
        · have e : inB sq 1 1099511627776 = false := by simp [inB]; omega
          have HE : Hid (r = false) := by show r = false; rw [← H.out, e]; simp
          clear e
          go_wp2_with fail
          go_ret
          exact ⟨by rw [HE.out]; rfl, hb⟩
        · by_cases a4 : 1099511627776 < sq
          · have e : inB sq 1 1099511627776 = false := by simp [inB]; omega
            have HE : Hid (r = false) := by show r = false; rw [← H.out, e]; simp
            clear e
            go_wp2_with fail
            go_ret
            exact ⟨by rw [HE.out]; rfl, hb⟩
          · have e2 : Hid (inB sq 1 1099511627776 = true) := inB_iff.2 (by omega)
            cases gn
            · have HE : Hid (r = decide ((dt.size : Int) ≤ 12)) := by show r = _; rw [← H.out, e1.out, e2.out]; simp
              go_wp2_with fail
              go_ret
              exact ⟨by rw [HE.out]; rfl, hb⟩
            · have HE : Hid (r = dt.toList.isEmpty) := by
                show r = _
                rw [← H.out, e1.out, e2.out]
                cases hd : dt.toList.isEmpty
                · simp
                · have : dt.size = 0 := by
                    have : dt.toList.length = 0 := by rw [List.isEmpty_iff.1 hd]; rfl
                    rwa [byteList, toL_length] at this
                  simp [this]
              go_wp2_with fail
              go_ret
              exact ⟨by rw [HE.out]; rfl, hb⟩
end Go.Proofs.YtoanjdndmlffdaaGreatDoor
