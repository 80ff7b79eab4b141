/-
  Whether a transaction may be applied at a site of the program, as the model runs it (site.Site.isReady).
  Which transactions a vector has not, at a site of the program, as the model runs it (site.Site.Missing): copies, in blocks of their own.
  What store.All does, as the model runs it.
-/
import Derived.Test.YtknejedgddlabaaDoorPSmall
import Derived.Test.YtknejedgddlabaaDoorSiteD
import Derived.Test.YtknejedgddlabaaDoorPgRead
import Derived.Laws.OwnMore
namespace Go.Proofs.YtknejedgddlabaaDoor
open Go.RowKit

theorem wrap_next {x : Int} (h : small x) : wrap64 (x + 1) = x + 1 := by
  obtain ⟨h0, h1⟩ := h
  unfold wrap64
  omega
set_option maxRecDepth 100000 in
set_option maxHeartbeats 8000000 in
theorem isReady_any {b : Nat} {lv : Value} {bm : Nat} {F : Nat → Prop} {S : SiteS} {log waits : List TxM} {v : Bool} (m : TxM) (w : World) (h : PMem w b lv bm F S log waits) (h0 : 0 ≤ m.t.site) (h3 : m.t.site ≤ 3) (hd : small (depOf m.t.site S.a0 S.a1 S.a2 S.a3)) (hv : readyS S m.t = v) :
    Calls Tryd.prog 88 #[.pointer (some ⟨b, 0, none⟩), txV m] w fun e w' => e = .returned (.bool v) ∧ Below w.heap.size w w' := by
  obtain ⟨⟨site, seq, wall, count, d0, d1, d2, d3, ws⟩, a, cap⟩ := m
  simp only at h0 h3 hd hv
  have hb := boxed (Below.refl _ w) (.cells #[.int .i64 site, .int .i64 seq, .int .i64 wall, .int .i64 count, .int .i64 d0, .int .i64 d1, .int .i64 d2, .int .i64 d3, .slice a ws.length cap] 40)
  have RB := RowL.new (w := w) (T := 40) [.int .i64 site, .int .i64 seq, .int .i64 wall, .int .i64 count, .int .i64 d0, .int .i64 d1, .int .i64 d2, .int .i64 d3, .slice a ws.length cap] rfl
  have hne := Later.one
  have PM := h.later hb
  have t0 := Later.cell (RB.cell 0 _ rfl)
  have t1 := Later.cell (RB.cell 1 _ rfl)
  have t4 := Later.cell (RB.cell 4 _ rfl)
  have t5 := Later.cell (RB.cell 5 _ rfl)
  have t6 := Later.cell (RB.cell 6 _ rfl)
  have t7 := Later.cell (RB.cell 7 _ rfl)
  have k1 := Later.cell (PM.box.cell 1 _ rfl)
  have k2 := Later.cell (PM.box.cell 2 _ rfl)
  have k3 := Later.cell (PM.box.cell 3 _ rfl)
  have k4 := Later.cell (PM.box.cell 4 _ rfl)
  have ks := Later.cell (PM.box.cell _ _ (app_at h0 h3))
  have HR : readyS S ⟨site, seq, wall, count, d0, d1, d2, d3, ws⟩ = (decide (seq = depOf site S.a0 S.a1 S.a2 S.a3 + 1) && covB S.a0 S.a1 S.a2 S.a3 d0 d1 d2 d3) := rfl
  obtain ⟨D, hD⟩ : ∃ D, depOf site S.a0 S.a1 S.a2 S.a3 = D := ⟨_, rfl⟩
  rw [hD] at ks hd HR
  rw [HR] at hv
  have hw : wrap64 (D + 1) = D + 1 := wrap_next hd
  clear HR h PM RB hD
  show Calls Tryd.prog 88 #[.pointer (some ⟨b, 0, none⟩), .agg #[.int .i64 site, .int .i64 seq, .int .i64 wall, .int .i64 count, .int .i64 d0, .int .i64 d1, .int .i64 d2, .int .i64 d3, .slice a ws.length cap]] w _
  by_cases hq : seq = D + 1
  · have q1 : (seq == D + 1) = true := by simp [hq]
    have q2 : decide (seq = D + 1) = true := by simp [hq]
    have HC : Hid (covB S.a0 S.a1 S.a2 S.a3 d0 d1 d2 d3 = v) := by
      show _ = _
      rw [q2] at hv
      simpa using hv
    clear hv hd hq
    go_enter Tryd.func88, Tryd.ntmps88
    go_wp2_with fail
    refine wp_region_later (by kernel_rfl) (by kernel_rfl) ?_
    repeat (go_big_quiet_step (first | rfl | (go_at_call 50; with_reducible exact calls_later (covers_is HC.out _))))
    refine wpQuiet_nil ?_
    rintro w2 ⟨⟨_, hb2⟩, rfl⟩
    go_wp2_with fail
    go_ret
    exact ⟨rfl, behind hb hb2⟩
  · have q1 : (seq == D + 1) = false := by simp [hq]
    have q2 : decide (seq = D + 1) = false := by simp [hq]
    have HV : Hid (false = v) := by
      show _ = _
      rw [q2] at hv
      simpa using hv
    clear hv hd hq
    go_enter Tryd.func88, Tryd.ntmps88
    go_wp2_with fail
    refine wp_region_later (by kernel_rfl) (by kernel_rfl) ?_
    repeat (go_big_quiet_step (first | rfl | fail))
    refine wpQuiet_nil ?_
    rintro w2 ⟨⟨_, hb2⟩, rfl⟩
    go_wp2_with fail
    go_ret
    exact ⟨by rw [← HV.out]; rfl, behind hb hb2⟩

end Go.Proofs.YtknejedgddlabaaDoor

namespace Go.Proofs.YtknejedgddlabaaDoor
open Go.RowKit

/-- a row of these transactions, with their writes -/
def MissIs (w : World) (L : List TxM) (v : Value) (w' : World) : Prop := ∃ kept : List TxM, L.map (·.t) = kept.map (·.t) ∧ (∃ B, w'.ownsRow B 40 9 v kept.length (txsC kept)) ∧ (∀ m ∈ kept, WrIn w' m.wa m.wc m.t.ws) ∧ Below w.heap.size w w'
set_option maxRecDepth 100000 in
set_option maxHeartbeats 8000000 in
theorem missing_any {b : Nat} {lv : Value} {bm : Nat} {F : Nat → Prop} {S : SiteS} {log waits : List TxM} (h0 h1 h2 h3 : Int) (w : World) (h : PMem w b lv bm F S log waits) (hs : ∀ m ∈ log, (0 ≤ m.t.site ∧ m.t.site ≤ 3) ∧ 1 ≤ m.t.ws.length ∧ m.t.ws.length ≤ 5) (hl : log.length ≤ 1000) :
    Calls Tryd.prog 53 #[.pointer (some ⟨b, 0, none⟩), .agg #[.int .i64 h0, .int .i64 h1, .int .i64 h2, .int .i64 h3]] w fun e w' =>
      ∃ v, e = .returned v ∧ MissIs w (log.filter (missB h0 h1 h2 h3)) v w' := by
  obtain ⟨la, lc, rfl, hT⟩ := txsIn_own h.rlog
  have hc1 := hT.len
  have hc2 := hT.cap
  have RA := Row4.new w 37 h0 h1 h2 h3
  have hb := boxed (Below.refl _ w) (.cells #[.int .i64 h0, .int .i64 h1, .int .i64 h2, .int .i64 h3] 37)
  have s7 := cell_later hb (h.box.cell 7 _ rfl)
  have HH : Hid (PMem w b (.slice la log.length lc) bm F S log waits) := h
  have HS : Hid (∀ m ∈ log, (0 ≤ m.t.site ∧ m.t.site ≤ 3) ∧ 1 ≤ m.t.ws.length ∧ m.t.ws.length ≤ 5) := hs
  clear h hs
  go_enter Tryd.func53, Tryd.ntmps53
  go_wp2_with fail
  obtain ⟨W, hWW⟩ : ∃ W, w.alloc (.cells #[.int .i64 h0, .int .i64 h1, .int .i64 h2, .int .i64 h3] 37) = W := ⟨_, rfl⟩
  rw [hWW] at RA hb s7 ⊢
  clear hWW s7
  go_loopw [5, 13] (fun sl iv wr => ∃ (k : Nat) (z : Int) (kept : List TxM) (ov : Value), ov = sl ∧ k ≤ log.length ∧ z = k ∧ iv = .int .i64 z ∧ ((log.take k).filter (missB h0 h1 h2 h3)).map (·.t) = kept.map (·.t) ∧ wr.ownsRow (w.heap.size + 1) 40 9 ov kept.length (txsC kept) ∧ Hid (∀ m ∈ kept, WrIn wr m.wa m.wc m.t.ws ∧ ∀ j, m.blk j → ov.ownBlock ≠ some j) ∧ Row4 wr w.heap.size h0 h1 h2 h3 ∧ Below w.heap.size w wr) (fun _ i _ => log.length - (intOf i).toNat)
  case atStart => exact ⟨0, 0, [], _, rfl, by omega, rfl, rfl, by simp, World.ownsRow_nil _ _ _ _, (fun m hm => (by cases hm)), RA, hb⟩
  case round =>
    clear RA hb
    obtain ⟨k, z, kept, ov, hsl, hk, hz, rfl, hkp, ownk, HWK, RA, hb⟩ := hrel
    subst hsl
    have HZ : Hid (z = k) := hz
    by_cases hlt : k < log.length
    · have g1 : z < (log.length : Int) := by omega
      have g2 : z.toNat = k := by omega
      have g3 : 0 ≤ z := by omega
      have hk6 : kept.length ≤ 1000 := by
        have a0 := congrArg List.length hkp
        simp only [List.length_map] at a0
        have a1 := List.length_filter_le (missB h0 h1 h2 h3) (log.take k)
        have a2 := List.length_take_le k log
        omega
      obtain ⟨wb, off, hwa, hcc⟩ : ∃ wb off, la = some ⟨wb, off, none⟩ ∧ ∀ i m r u, log[i]? = some m → (txC m)[r]? = some u → w.cell? ⟨wb, off + (i * 9 + r), none⟩ = some u := by
        rcases hT.held with e | e
        · rw [e] at hlt; simp at hlt
        · exact e
      obtain ⟨⟨⟨site, seq, wall, count, d0, d1, d2, d3, ws⟩, ta, tc⟩, hx⟩ : ∃ m, log[k]? = some m := ⟨log[k], List.getElem?_eq_getElem hlt⟩
      obtain ⟨⟨hs0, hs1⟩, hn1, hn5⟩ := HS.out _ (List.mem_of_getElem? hx)
      simp only at hs0 hs1 hn1 hn5
      have HL5 : Hid (1 ≤ ws.length ∧ ws.length ≤ 5) := ⟨hn1, hn5⟩
      have HWX : Hid (WrIn w ta tc ws) := (HH.out.hold _ (List.mem_append.2 (.inl (List.mem_of_getElem? hx)))).1
      clear hn1 hn5
      have HX : Hid (log[k]? = some ⟨⟨site, seq, wall, count, d0, d1, d2, d3, ws⟩, ta, tc⟩) := hx
      have HKP : Hid (((log.take k).filter (missB h0 h1 h2 h3)).map (·.t) = kept.map (·.t)) := hkp
      have cc := fun r u (hu : (txC ⟨⟨site, seq, wall, count, d0, d1, d2, d3, ws⟩, ta, tc⟩)[r]? = some u) => (show wr.cell? ⟨wb, off + k * 9 + r, none⟩ = some u by rw [Nat.add_assoc]; exact cell_later hb (hcc k _ r u hx hu))
      have x0 := cc 0 _ rfl
      have x1 := cc 1 _ rfl
      have x2 := cc 2 _ rfl
      have x3 := cc 3 _ rfl
      have x4 := cc 4 _ rfl
      have x5 := cc 5 _ rfl
      have x6 := cc 6 _ rfl
      have x7 := cc 7 _ rfl
      have x8 := cc 8 _ rfl
      rw [Nat.add_zero] at x0
      rw [hwa]
      clear cc hcc hx hkp hz
      replace RA := RA.boxed (.cells #[.int .i64 site, .int .i64 seq, .int .i64 wall, .int .i64 count, .int .i64 d0, .int .i64 d1, .int .i64 d2, .int .i64 d3, .slice ta ws.length tc] 40)
      replace ownk := ownk.alloc (.cells #[.int .i64 site, .int .i64 seq, .int .i64 wall, .int .i64 count, .int .i64 d0, .int .i64 d1, .int .i64 d2, .int .i64 d3, .slice ta ws.length tc] 40)
      replace hb := boxed hb (.cells #[.int .i64 site, .int .i64 seq, .int .i64 wall, .int .i64 count, .int .i64 d0, .int .i64 d1, .int .i64 d2, .int .i64 d3, .slice ta ws.length tc] 40)
      have RY := RowL.new (w := wr) (T := 40) [.int .i64 site, .int .i64 seq, .int .i64 wall, .int .i64 count, .int .i64 d0, .int .i64 d1, .int .i64 d2, .int .i64 d3, .slice ta ws.length tc] rfl
      have y0 := Later.cell (RY.cell 0 _ rfl)
      have y1 := Later.cell (RY.cell 1 _ rfl)
      have va := Later.cell (vec_at RA hs0 hs1)
      have KE : Hid (missB h0 h1 h2 h3 ⟨⟨site, seq, wall, count, d0, d1, d2, d3, ws⟩, ta, tc⟩ = decide (depOf site h0 h1 h2 h3 < seq)) := rfl
      go_wp2_with fail
      clear x0 x1 x2 x3 x4 x5 x6 x7 x8
      refine wp_region_later (by kernel_rfl) (by kernel_rfl) ?_
      repeat (go_big_quiet_step (first | rfl | fail))
      refine wpQuiet_nil ?_
      rintro w5 ⟨⟨_, hb5⟩, rfl⟩
      replace RA := RA.later hb5
      replace RY := RY.later hb5
      replace ownk := own_keptN ownk (fun j hj => hb5.block j (ownk.lt j hj).2)
      replace hb := behind hb hb5
      replace HWK : Hid (∀ m ∈ kept, WrIn w5 m.wa m.wc m.t.ws ∧ ∀ j, m.blk j → ov.ownBlock ≠ some j) := fun m hm => ⟨((HWK.out m hm).1.later (boxed (Below.refl _ wr) _)).later hb5, (HWK.out m hm).2⟩
      clear hb5 y0 y1 va
      cases hd : decide (depOf site h0 h1 h2 h3 < seq)
      · have KF : Hid (((log.take (k + 1)).filter (missB h0 h1 h2 h3)).map (·.t) = kept.map (·.t)) := by
          have e : missB h0 h1 h2 h3 ⟨⟨site, seq, wall, count, d0, d1, d2, d3, ws⟩, ta, tc⟩ = false := by rw [KE.out]; exact hd
          show ((log.take (k + 1)).filter (missB h0 h1 h2 h3)).map (·.t) = kept.map (·.t)
          rw [List.take_add_one, HX.out, List.filter_append, List.map_append, HKP.out]
          simp [e]
        clear hd
        go_wp2_with fail
        go_roundw
        case rel => exact ⟨k + 1, z + 1, kept, _, rfl, by omega, by have := HZ.out; omega, by go_num, KF.out, ownk, HWK, RA, hb⟩
        case measure => simp [intOf]; omega
      · have KF : Hid (((log.take (k + 1)).filter (missB h0 h1 h2 h3)).map (·.t) = kept.map (·.t) ++ [⟨site, seq, wall, count, d0, d1, d2, d3, ws⟩]) := by
          have e : missB h0 h1 h2 h3 ⟨⟨site, seq, wall, count, d0, d1, d2, d3, ws⟩, ta, tc⟩ = true := by rw [KE.out]; exact hd
          show ((log.take (k + 1)).filter (missB h0 h1 h2 h3)).map (·.t) = _
          rw [List.take_add_one, HX.out, List.filter_append, List.map_append, HKP.out]
          simp [e]
        have y0 := RY.cell 0 _ rfl
        have y1 := RY.cell 1 _ rfl
        have y2 := RY.cell 2 _ rfl
        have y3 := RY.cell 3 _ rfl
        have y4 := RY.cell 4 _ rfl
        have y5 := RY.cell 5 _ rfl
        have y6 := RY.cell 6 _ rfl
        have y7 := RY.cell 7 _ rfl
        have y8 := RY.cell 8 _ rfl
        obtain ⟨i0, hi, hz0, hz1, hz2⟩ := info_parts txInfo
        have hsz5 : w.heap.size + 1 ≤ w5.heap.size := by have := RA.lt; omega
        have HOLD : Hid (∀ j, ov.ownBlock = some j → j < w5.heap.size) := fun j hj => (ownk.lt j hj).2
        have CP := copyOf_any ⟨⟨site, seq, wall, count, d0, d1, d2, d3, ws⟩, ta, tc⟩ w5 (HWX.out.later hb) HL5.out.1 (by have := HL5.out; simp only; omega)
        simp only [txV] at CP
        clear hd
        go_wp2_with fail
        refine CP.mono ?_
        rintro e w6 ⟨m2, hm2, rfl, W62, hk2, hb6⟩
        obtain ⟨t2, a2, c2⟩ := m2
        simp only at hm2 W62
        subst hm2
        simp only [txV]
        replace RA := RA.later hb6
        replace ownk := own_keptN ownk (fun j hj => hb6.block j (ownk.lt j hj).2)
        have HO5 : Hid (∀ j, ov.ownBlock = some j → j < w5.heap.size) := fun j hj => by
          have := (ownk.lt j hj).1
          exact HOLD.out j hj
        replace hb := behind hb hb6
        have HW6 : Hid (∀ m ∈ kept ++ [⟨⟨site, seq, wall, count, d0, d1, d2, d3, ws⟩, a2, c2⟩], WrIn w6 m.wa m.wc m.t.ws ∧ ∀ j, m.blk j → ov.ownBlock ≠ some j) := fun m hm => by
          rcases List.mem_append.1 hm with h1 | h1
          · exact ⟨(HWK.out m h1).1.later hb6, (HWK.out m h1).2⟩
          · rw [List.mem_singleton.1 h1]
            refine ⟨W62, fun j hj e => ?_⟩
            have q1 := hk2 j hj
            have q2 := HO5.out j e
            omega
        have hsz6 : w.heap.size + 1 ≤ w6.heap.size := by have := RA.lt; omega
        have HS6 : Hid (w.heap.size + 1 ≤ w6.heap.size) := hsz6
        clear hb6 hk2 W62 y0 y1 y2 y3 y4 y5 y6 y7 y8 hsz5
        go_wp2_with (at_builtin; refine wpList_append_lies _ rfl (.tmp 24) (.tmp 27) 98 rfl (w.heap.size + 1) 40 i0 (.agg #[.int .i64 0, .int .i64 0, .int .i64 0, .int .i64 0, .int .i64 0, .int .i64 0, .int .i64 0, .int .i64 0, .slice none 0 0]) 9 88 Tryd.underlying98 hi hz0 hz1 hz2 rfl (by decide) ov kept.length (txsC kept) rfl (ownk.alloc _) ⟨w6.heap.size, 0, none⟩ 1 1 (txC ⟨⟨site, seq, wall, count, d0, d1, d2, d3, ws⟩, a2, c2⟩) rfl rfl (World.news_of_block (heap_alloc_new w6 (.cells #[.int .i64 site, .int .i64 seq, .int .i64 wall, .int .i64 count, .int .i64 d0, .int .i64 d1, .int .i64 d2, .int .i64 d3, .slice a2 ws.length c2] 40))) (txC_one _) (by decide) (by simp only [maxLen]; omega) (by omega) (by simp; omega) _ rfl ?_; intro g cap9 wE ownE grE egE ltE)
        have rowsg : ∀ j, ov.ownBlock = some j → w.heap.size + 1 ≤ j := fun j hj => (ownk.lt j hj).1
        have RAE := (RA.boxed (.cells #[.int .i64 site, .int .i64 seq, .int .i64 wall, .int .i64 count, .int .i64 d0, .int .i64 d1, .int .i64 d2, .int .i64 d3, .slice a2 ws.length c2] 40)).grown4 grE (fun e => by have := rowsg _ e.symm; omega)
        have hbE := (boxed hb (.cells #[.int .i64 site, .int .i64 seq, .int .i64 wall, .int .i64 count, .int .i64 d0, .int .i64 d1, .int .i64 d2, .int .i64 d3, .slice a2 ws.length c2] 40)).grown grE (by have := hb.size; simp; omega) (fun j hj => by have := rowsg j hj; omega)
        have HWE : Hid (∀ m ∈ kept ++ [⟨⟨site, seq, wall, count, d0, d1, d2, d3, ws⟩, a2, c2⟩], WrIn wE m.wa m.wc m.t.ws ∧ ∀ j, m.blk j → (Value.slice (some ⟨g, 0, none⟩) (kept.length + 1) cap9).ownBlock ≠ some j) := fun m hm => by
          have q := HW6.out m hm
          have q1 := q.1.later (boxed (Below.refl _ w6) (.cells #[.int .i64 site, .int .i64 seq, .int .i64 wall, .int .i64 count, .int .i64 d0, .int .i64 d1, .int .i64 d2, .int .i64 d3, .slice a2 ws.length c2] 40))
          refine ⟨q1.kept (fun j hj => grE.block j (q1.blk_lt j hj) (fun e => q.2 j hj e.symm)), fun j hj e => ?_⟩
          have eg : g = j := by simpa [Value.ownBlock] using e
          rcases egE with h1 | h1
          · exact q.2 j hj (by rw [h1, eg])
          · have := q.1.blk_lt j hj
            simp at h1
            omega
        go_roundw
        case rel => exact ⟨k + 1, z + 1, kept ++ [⟨⟨site, seq, wall, count, d0, d1, d2, d3, ws⟩, a2, c2⟩], _, rfl, by omega, by have := HZ.out; omega, by go_num, by rw [List.map_append]; exact KF.out, by rw [txsC_snoc, List.length_append]; exact ownE, HWE, RAE, hbE⟩
        case measure => simp [intOf]; omega
    · have g1 : ¬ z < (log.length : Int) := by omega
      obtain rfl : k = log.length := by omega
      rw [List.take_length] at hkp
      have HKF : Hid ((log.filter (missB h0 h1 h2 h3)).map (·.t) = kept.map (·.t)) := hkp
      clear hz hkp
      go_wp2_with fail
      go_ret
      exact ⟨ov, rfl, kept, HKF.out, ⟨_, ownk⟩, fun m hm => (HWK.out m hm).1, hb⟩

end Go.Proofs.YtknejedgddlabaaDoor

namespace Go.Proofs.YtknejedgddlabaaDoor
open Go.RowKit

/-- the first k told, the others still empty -/
def allC (a0 a1 a2 a3 : Int) (l : List Hd) (k : Nat) : List Value := toldC a0 a1 a2 a3 l k ++ List.replicate (8 - k) (.string ⟨#[]⟩)
theorem toldC_length (a0 a1 a2 a3 : Int) (l : List Hd) (k : Nat) : (toldC a0 a1 a2 a3 l k).length = k := by simp [toldC]
theorem allC_set {a0 a1 a2 a3 : Int} {l : List Hd} {k : Nat} (hk : k < 8) : (allC a0 a1 a2 a3 l k).set k (.string (toldV a0 a1 a2 a3 l k)) = allC a0 a1 a2 a3 l (k + 1) := by
  unfold allC
  rw [List.set_append_right _ _ (by rw [toldC_length]; omega), toldC_length, Nat.sub_self, toldC_succ, show 8 - k = 8 - (k + 1) + 1 by omega, List.replicate_succ, List.set_cons_zero, List.append_assoc]
  rfl
theorem allC_keep {a0 a1 a2 a3 : Int} {l : List Hd} {k : Nat} (hk : k < 8) (h : toldV a0 a1 a2 a3 l k = ⟨#[]⟩) : allC a0 a1 a2 a3 l k = allC a0 a1 a2 a3 l (k + 1) := by
  unfold allC
  rw [toldC_succ, h, show 8 - k = 8 - (k + 1) + 1 by omega, List.replicate_succ, List.append_assoc]
  rfl

set_option maxRecDepth 100000 in
set_option maxHeartbeats 8000000 in
theorem pgAll_any {b : Nat} {F : Nat → Prop} {l : List Hd} (a0 a1 a2 a3 : Int) (w : World) (hS : StP w b F l) (hl : l.length ≤ 1000) (ha : Apart l) (ho : ∀ h ∈ l, okVer h.v = true) :
    Calls Tryd.prog 39 #[.pointer (some ⟨b, 0, none⟩), .agg #[.int .i64 a0, .int .i64 a1, .int .i64 a2, .int .i64 a3]] w fun e w' => ∃ v, e = .returned v ∧ w'.ownsRow w.heap.size 9 1 v 8 (toldC a0 a1 a2 a3 l 8) ∧ Below w.heap.size w w' := by
  have RA := RowL.new (w := w) (T := 37) [.int .i64 a0, .int .i64 a1, .int .i64 a2, .int .i64 a3] rfl
  have hb := boxed (Below.refl _ w) (.cells #[.int .i64 a0, .int .i64 a1, .int .i64 a2, .int .i64 a3] 37)
  have HS : Hid (StP w b F l) := hS
  have HA : Hid (Apart l) := ha
  have HO : Hid (∀ h ∈ l, okVer h.v = true) := ho
  clear hS ha ho
  obtain ⟨i0, hi, hz0, hz1, hz2⟩ := info_parts strInfo
  obtain ⟨W2, hmk, own0, gr0⟩ := run_make_full (P := Tryd.prog) (w.alloc (.cells #[.int .i64 a0, .int .i64 a1, .int .i64 a2, .int .i64 a3] 37)) w.heap.size 83 9 i0 (.string ⟨#[]⟩) 1 Tryd.underlying83 hi hz0 hz1 .i64 .i64 8 (by rw [hz2]; decide) (by simp [maxLen]) (by simp)
  have hmk2 : (Instr.makeSlice 83 (.int .i64 8) (.int .i64 8)).run Tryd.prog (w.alloc (.cells #[.int .i64 a0, .int .i64 a1, .int .i64 a2, .int .i64 a3] 37)) = .ok (.slice (some ⟨w.heap.size + 1, 0, none⟩) 8 8) W2 := by
    rw [World.size_alloc] at hmk
    exact hmk
  have ownA : W2.ownsRow w.heap.size 9 1 (.slice (some ⟨w.heap.size + 1, 0, none⟩) 8 8) 8 (allC a0 a1 a2 a3 l 0) := by
    rw [World.size_alloc, show (Value.string ⟨#[]⟩).cells = #[Value.string ⟨#[]⟩] from rfl, toList_madeCells_one] at own0
    exact own0
  have RA2 := RA.grown gr0 (by simp)
  have hb2 : Below w.heap.size w W2 := hb.grown gr0 hb.size (fun k e => by cases e)
  clear hmk own0 RA hb gr0 hi hz0 hz1 hz2
  go_enter Tryd.func39, Tryd.ntmps39
  go_wp2_with fail
  clear hmk2
  go_loopw [12] (fun iv wr => ∃ (k : Nat) (z : Int), k ≤ 8 ∧ z = k ∧ iv = .int .i64 z ∧ wr.ownsRow w.heap.size 9 1 (.slice (some ⟨w.heap.size + 1, 0, none⟩) 8 8) 8 (allC a0 a1 a2 a3 l k) ∧ RowL wr w.heap.size [.int .i64 a0, .int .i64 a1, .int .i64 a2, .int .i64 a3] ∧ Below w.heap.size w wr) (fun i _ => 8 - (intOf i).toNat)
  case atStart => exact ⟨0, 0, by omega, rfl, rfl, ownA, RA2, hb2⟩
  case round =>
    clear ownA RA2 hb2
    obtain ⟨k, z, hk, hz, rfl, ownk, RA, hb⟩ := hrel
    have HZ : Hid (z = k) := hz
    by_cases hlt : k < 8
    · have h1 : z < 8 := by omega
      have h3 : 0 ≤ z := by omega
      have h2 : z.toNat = k := by omega
      have S4 := HS.out.kept (fun j hj => hb.block j (HS.out.lt j hj)) hb.size
      have c0 := RA.cell 0 _ rfl
      have c1 := RA.cell 1 _ rfl
      have c2 := RA.cell 2 _ rfl
      have c3 := RA.cell 3 _ rfl
      clear hz
      go_wp2_with fail
      refine (pgRead_any z a0 a1 a2 a3 _ S4 hl HA.out HO.out).mono ?_
      rintro e w2 ⟨rfl, hb2⟩
      clear c0 c1 c2 c3 S4
      have hsize := readV_size (key := z) (a0 := a0) (a1 := a1) (a2 := a2) (a3 := a3) HO.out
      have TK0 : Hid (toldV a0 a1 a2 a3 l k = if (readV z a0 a1 a2 a3 l).2 = 0 then (⟨#[61]⟩ : ByteArray) ++ (readV z a0 a1 a2 a3 l).1.data else ⟨#[]⟩) := by
        show toldV a0 a1 a2 a3 l k = _
        rw [HZ.out]
        rfl
      obtain ⟨⟨rv, re⟩, hrd⟩ : ∃ x, readV z a0 a1 a2 a3 l = x := ⟨_, rfl⟩
      rw [hrd] at TK0 hsize ⊢
      simp only at TK0 hsize ⊢
      clear hrd
      obtain ⟨bw, bc, bs, bq, bd, bg⟩ := rv
      simp only at TK0 hsize
      rw [show verL ⟨bw, bc, bs, bq, bd, bg⟩ = [.int .i64 bw, .int .i64 bc, .int .i64 bs, .int .i64 bq, .string bd, .bool bg] from rfl]
      replace RA := (RA.later hb2).boxed (.cells #[.int .i64 bw, .int .i64 bc, .int .i64 bs, .int .i64 bq, .string bd, .bool bg] 71)
      have ownk1 : w2.ownsRow w.heap.size 9 1 (.slice (some ⟨w.heap.size + 1, 0, none⟩) 8 8) 8 (allC a0 a1 a2 a3 l k) := ownk.kept (row := none) ⟨hb2.os, hb2.tape, hb2.output, hb2.size, fun j hj _ => hb2.block j hj⟩ (by simp [Value.ownBlock])
      replace ownk := ownk1.alloc (.cells #[.int .i64 bw, .int .i64 bc, .int .i64 bs, .int .i64 bq, .string bd, .bool bg] 71)
      replace hb := boxed (behind hb hb2) (.cells #[.int .i64 bw, .int .i64 bc, .int .i64 bs, .int .i64 bq, .string bd, .bool bg] 71)
      have RB := RowL.new (w := w2) (T := 71) [.int .i64 bw, .int .i64 bc, .int .i64 bs, .int .i64 bq, .string bd, .bool bg] rfl
      clear hb2 ownk1
      have d3 := RB.cell 4 _ rfl
      clear RB
      by_cases he0 : re = 0
      · subst he0
        have TK : Hid (toldV a0 a1 a2 a3 l k = (⟨#[61]⟩ : ByteArray) ++ bd) := by show toldV a0 a1 a2 a3 l k = _; rw [TK0.out, if_pos rfl]
        have ad := fun w => addS (P := Tryd.prog) (⟨#[61]⟩ : ByteArray) bd (by have z : (⟨#[61]⟩ : ByteArray).size = 1 := rfl; omega) w
        have ev : errV 0 = .nilIface := rfl
        rw [ev]
        have cc := ownk.cellAt k (by omega)
        have cx : ∃ u, (allC a0 a1 a2 a3 l k)[k]? = some u := ⟨_, List.getElem?_eq_getElem (by simp [allC, toldC_length]; omega)⟩
        obtain ⟨ux, hux⟩ := cx
        rw [hux] at cc
        have ff := ownk.frozenAt k
        have ST := ownk.stored k (.string ((⟨#[61]⟩ : ByteArray) ++ bd))
        have hbl := RA.lt
        have RA9 := RA.grown ST.2 (by simp)
        have hb9 := hb.grown ST.2 (by have := hb.size; omega) (fun j e => by cases e; omega)
        have own9 : ((w2.alloc (.cells #[.int .i64 bw, .int .i64 bc, .int .i64 bs, .int .i64 bq, .string bd, .bool bg] 71)).setCell ⟨w.heap.size + 1, k, none⟩ (.string ((⟨#[61]⟩ : ByteArray) ++ bd))).ownsRow w.heap.size 9 1 (.slice (some ⟨w.heap.size + 1, 0, none⟩) 8 8) 8 (allC a0 a1 a2 a3 l (k + 1)) := by
          rw [← allC_set hlt, TK.out]
          exact ST.1
        clear TK0 hux ST ownk
        go_wp2_with fail
        go_roundw
        case rel => exact ⟨k + 1, z + 1, by omega, by have := HZ.out; omega, by go_num, own9, RA9, hb9⟩
        case measure => simp [intOf]; have := HZ.out; omega
      · have ev : errV re = .iface 24 (.int .i64 re) := by unfold errV; rw [if_neg he0]
        rw [ev]
        have TK : Hid (toldV a0 a1 a2 a3 l k = ⟨#[]⟩) := by show toldV a0 a1 a2 a3 l k = _; rw [TK0.out, if_neg he0]
        have own9 : (w2.alloc (.cells #[.int .i64 bw, .int .i64 bc, .int .i64 bs, .int .i64 bq, .string bd, .bool bg] 71)).ownsRow w.heap.size 9 1 (.slice (some ⟨w.heap.size + 1, 0, none⟩) 8 8) 8 (allC a0 a1 a2 a3 l (k + 1)) := by
          rw [← allC_keep hlt TK.out]
          exact ownk
        clear TK0 ownk ev
        go_wp2_with fail
        go_roundw
        case rel => exact ⟨k + 1, z + 1, by omega, by have := HZ.out; omega, by go_num, own9, RA, hb⟩
        case measure => simp [intOf]; have := HZ.out; omega
    · obtain rfl : k = 8 := by omega
      have h1 : ¬ z < 8 := by omega
      clear hz
      have own9 : wr.ownsRow w.heap.size 9 1 (.slice (some ⟨w.heap.size + 1, 0, none⟩) 8 8) 8 (toldC a0 a1 a2 a3 l 8) := by
        have e : allC a0 a1 a2 a3 l 8 = toldC a0 a1 a2 a3 l 8 := by unfold allC; simp
        rw [← e]
        exact ownk
      clear ownk
      go_wp2_with fail
      go_ret
      exact ⟨_, rfl, own9, hb⟩

end Go.Proofs.YtknejedgddlabaaDoor
