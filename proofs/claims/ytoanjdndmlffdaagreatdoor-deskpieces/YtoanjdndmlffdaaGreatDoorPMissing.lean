import Derived.Test.YtoanjdndmlffdaaGreatDoorPSmall
namespace Go.Proofs.YtoanjdndmlffdaaGreatDoor
open Go.RowKit
/-- those, in blocks that are new -/
def MissNew (w : World) (L : List TxM) (v : Value) (w' : World) : Prop := ∃ kept : List TxM, L.map (·.t) = kept.map (·.t) ∧ (∃ B, w.heap.size ≤ B ∧ w'.ownsRow B 102 9 v kept.length (txsC kept)) ∧ (∀ m ∈ kept, WrIn w' m.wa m.wc m.t.ws ∧ ∀ j, m.blk j → w.heap.size ≤ j) ∧ Below w.heap.size w w'
set_option maxRecDepth 100000 in
set_option maxHeartbeats 8000000 in
theorem missing_new {b : Nat} {lv : Value} {bm : Nat} {F : Nat → Prop} {S : SiteS} {log waits : List TxM} (h0 h1 h2 h3 : Int) (w : World) (h : PMem w b lv bm F S log waits) (hs : ∀ m ∈ log, (0 ≤ m.t.site ∧ m.t.site ≤ 3) ∧ 1 ≤ m.t.ws.length ∧ m.t.ws.length ≤ 5) (hl : log.length ≤ 1000) :
    Calls Tryz.prog 258 #[.pointer (some ⟨b, 0, none⟩), .agg #[.int .i64 h0, .int .i64 h1, .int .i64 h2, .int .i64 h3]] w fun e w' =>
      ∃ v, e = .returned v ∧ MissNew w (log.filter (missB h0 h1 h2 h3)) v w' := by
  obtain ⟨la, lc, rfl, hT⟩ := txsIn_own h.rlog
  have hc1 := hT.len
  have hc2 := hT.cap
  have RA := Row4.new w 77 h0 h1 h2 h3
  have hb := boxed (Below.refl _ w) (.cells #[.int .i64 h0, .int .i64 h1, .int .i64 h2, .int .i64 h3] 77)
  have s7 := cell_later hb (h.box.cell 7 _ rfl)
  have HH : Hid (PMem w b (.slice la log.length lc) bm F S log waits) := h
  have HS : Hid (∀ m ∈ log, (0 ≤ m.t.site ∧ m.t.site ≤ 3) ∧ 1 ≤ m.t.ws.length ∧ m.t.ws.length ≤ 5) := hs
  clear h hs
  go_enter Tryz.func258, Tryz.ntmps258
  go_wp2_with fail
  obtain ⟨W, hWW⟩ : ∃ W, w.alloc (.cells #[.int .i64 h0, .int .i64 h1, .int .i64 h2, .int .i64 h3] 77) = W := ⟨_, rfl⟩
  rw [hWW] at RA hb s7 ⊢
  clear hWW s7
  go_loopw [5, 13] (fun sl iv wr => ∃ (k : Nat) (z : Int) (kept : List TxM) (ov : Value), ov = sl ∧ k ≤ log.length ∧ z = k ∧ iv = .int .i64 z ∧ ((log.take k).filter (missB h0 h1 h2 h3)).map (·.t) = kept.map (·.t) ∧ wr.ownsRow (w.heap.size + 1) 102 9 ov kept.length (txsC kept) ∧ Hid (∀ m ∈ kept, WrIn wr m.wa m.wc m.t.ws ∧ ∀ j, m.blk j → ov.ownBlock ≠ some j ∧ w.heap.size ≤ j) ∧ Row4 wr w.heap.size h0 h1 h2 h3 ∧ Below w.heap.size w wr) (fun _ i _ => log.length - (intOf i).toNat)
  case atStart => exact ⟨0, 0, [], _, rfl, by omega, rfl, rfl, by simp, World.ownsRow_nil _ _ _ _, (fun m hm => (by cases hm)), RA, hb⟩
  case round =>
    clear RA hb
    obtain ⟨k, z, kept, ov, hsl, hk, hz, rfl, hkp, ownk, HWK, RA, hb⟩ := hrel
    subst hsl
    have HZ : Hid (z = k) := hz
    by_cases hlt : k < log.length
    · have g1 : z < (log.length : Int) := by omega
      have g2 : z.toNat = k := by omega
      have g3 : 0 ≤ z := by omega
      have hk6 : kept.length ≤ 1000 := by
        have a0 := congrArg List.length hkp
        simp only [List.length_map] at a0
        have a1 := List.length_filter_le (missB h0 h1 h2 h3) (log.take k)
        have a2 := List.length_take_le k log
        omega
      obtain ⟨wb, off, hwa, hcc⟩ : ∃ wb off, la = some ⟨wb, off, none⟩ ∧ ∀ i m r u, log[i]? = some m → (txC m)[r]? = some u → w.cell? ⟨wb, off + (i * 9 + r), none⟩ = some u := by
        rcases hT.held with e | e
        · rw [e] at hlt; simp at hlt
        · exact e
      obtain ⟨⟨⟨site, seq, wall, count, d0, d1, d2, d3, ws⟩, ta, tc⟩, hx⟩ : ∃ m, log[k]? = some m := ⟨log[k], List.getElem?_eq_getElem hlt⟩
      obtain ⟨⟨hs0, hs1⟩, hn1, hn5⟩ := HS.out _ (List.mem_of_getElem? hx)
      simp only at hs0 hs1 hn1 hn5
      have HL5 : Hid (1 ≤ ws.length ∧ ws.length ≤ 5) := ⟨hn1, hn5⟩
      have HWX : Hid (WrIn w ta tc ws) := (HH.out.hold _ (List.mem_append.2 (.inl (List.mem_of_getElem? hx)))).1
      clear hn1 hn5
      have HX : Hid (log[k]? = some ⟨⟨site, seq, wall, count, d0, d1, d2, d3, ws⟩, ta, tc⟩) := hx
      have HKP : Hid (((log.take k).filter (missB h0 h1 h2 h3)).map (·.t) = kept.map (·.t)) := hkp
      have cc := fun r u (hu : (txC ⟨⟨site, seq, wall, count, d0, d1, d2, d3, ws⟩, ta, tc⟩)[r]? = some u) => (show wr.cell? ⟨wb, off + k * 9 + r, none⟩ = some u by rw [Nat.add_assoc]; exact cell_later hb (hcc k _ r u hx hu))
      have x0 := cc 0 _ rfl
      have x1 := cc 1 _ rfl
      have x2 := cc 2 _ rfl
      have x3 := cc 3 _ rfl
      have x4 := cc 4 _ rfl
      have x5 := cc 5 _ rfl
      have x6 := cc 6 _ rfl
      have x7 := cc 7 _ rfl
      have x8 := cc 8 _ rfl
      rw [Nat.add_zero] at x0
      rw [hwa]
      clear cc hcc hx hkp hz
      replace RA := RA.boxed (.cells #[.int .i64 site, .int .i64 seq, .int .i64 wall, .int .i64 count, .int .i64 d0, .int .i64 d1, .int .i64 d2, .int .i64 d3, .slice ta ws.length tc] 102)
      replace ownk := ownk.alloc (.cells #[.int .i64 site, .int .i64 seq, .int .i64 wall, .int .i64 count, .int .i64 d0, .int .i64 d1, .int .i64 d2, .int .i64 d3, .slice ta ws.length tc] 102)
      replace hb := boxed hb (.cells #[.int .i64 site, .int .i64 seq, .int .i64 wall, .int .i64 count, .int .i64 d0, .int .i64 d1, .int .i64 d2, .int .i64 d3, .slice ta ws.length tc] 102)
      have RY := RowL.new (w := wr) (T := 102) [.int .i64 site, .int .i64 seq, .int .i64 wall, .int .i64 count, .int .i64 d0, .int .i64 d1, .int .i64 d2, .int .i64 d3, .slice ta ws.length tc] rfl
      have y0 := Later.cell (RY.cell 0 _ rfl)
      have y1 := Later.cell (RY.cell 1 _ rfl)
      have va := Later.cell (vec_at RA hs0 hs1)
      have KE : Hid (missB h0 h1 h2 h3 ⟨⟨site, seq, wall, count, d0, d1, d2, d3, ws⟩, ta, tc⟩ = decide (depOf site h0 h1 h2 h3 < seq)) := rfl
      go_wp2_with fail
      clear x0 x1 x2 x3 x4 x5 x6 x7 x8
      refine wp_region_later (by kernel_rfl) (by kernel_rfl) ?_
      repeat (go_big_quiet_step (first | rfl | fail))
      refine wpQuiet_nil ?_
      rintro w5 ⟨⟨_, hb5⟩, rfl⟩
      replace RA := RA.later hb5
      replace RY := RY.later hb5
      replace ownk := own_keptN ownk (fun j hj => hb5.block j (ownk.lt j hj).2)
      replace hb := behind hb hb5
      replace HWK : Hid (∀ m ∈ kept, WrIn w5 m.wa m.wc m.t.ws ∧ ∀ j, m.blk j → ov.ownBlock ≠ some j ∧ w.heap.size ≤ j) := fun m hm => ⟨((HWK.out m hm).1.later (boxed (Below.refl _ wr) _)).later hb5, (HWK.out m hm).2⟩
      clear hb5 y0 y1 va
      cases hd : decide (depOf site h0 h1 h2 h3 < seq)
      · have KF : Hid (((log.take (k + 1)).filter (missB h0 h1 h2 h3)).map (·.t) = kept.map (·.t)) := by
          have e : missB h0 h1 h2 h3 ⟨⟨site, seq, wall, count, d0, d1, d2, d3, ws⟩, ta, tc⟩ = false := by rw [KE.out]; exact hd
          show ((log.take (k + 1)).filter (missB h0 h1 h2 h3)).map (·.t) = kept.map (·.t)
          rw [List.take_add_one, HX.out, List.filter_append, List.map_append, HKP.out]
          simp [e]
        clear hd
        go_wp2_with fail
        go_roundw
        case rel => exact ⟨k + 1, z + 1, kept, _, rfl, by omega, by have := HZ.out; omega, by go_num, KF.out, ownk, HWK, RA, hb⟩
        case measure => simp [intOf]; omega
      · have KF : Hid (((log.take (k + 1)).filter (missB h0 h1 h2 h3)).map (·.t) = kept.map (·.t) ++ [⟨site, seq, wall, count, d0, d1, d2, d3, ws⟩]) := by
          have e : missB h0 h1 h2 h3 ⟨⟨site, seq, wall, count, d0, d1, d2, d3, ws⟩, ta, tc⟩ = true := by rw [KE.out]; exact hd
          show ((log.take (k + 1)).filter (missB h0 h1 h2 h3)).map (·.t) = _
          rw [List.take_add_one, HX.out, List.filter_append, List.map_append, HKP.out]
          simp [e]
        have y0 := RY.cell 0 _ rfl
        have y1 := RY.cell 1 _ rfl
        have y2 := RY.cell 2 _ rfl
        have y3 := RY.cell 3 _ rfl
        have y4 := RY.cell 4 _ rfl
        have y5 := RY.cell 5 _ rfl
        have y6 := RY.cell 6 _ rfl
        have y7 := RY.cell 7 _ rfl
        have y8 := RY.cell 8 _ rfl
        obtain ⟨i0, hi, hz0, hz1, hz2⟩ := info_parts txInfo
        have hsz5 : w.heap.size + 1 ≤ w5.heap.size := by have := RA.lt; omega
        have HOLD : Hid (∀ j, ov.ownBlock = some j → j < w5.heap.size) := fun j hj => (ownk.lt j hj).2
        have CP := copyOf_any ⟨⟨site, seq, wall, count, d0, d1, d2, d3, ws⟩, ta, tc⟩ w5 (HWX.out.later hb) HL5.out.1 (by have := HL5.out; simp only; omega)
        simp only [txV] at CP
        clear hd
        go_wp2_with fail
        refine CP.mono ?_
        rintro e w6 ⟨m2, hm2, rfl, W62, hk2, hb6⟩
        obtain ⟨t2, a2, c2⟩ := m2
        simp only at hm2 W62
        subst hm2
        simp only [txV]
        replace RA := RA.later hb6
        replace ownk := own_keptN ownk (fun j hj => hb6.block j (ownk.lt j hj).2)
        have HO5 : Hid (∀ j, ov.ownBlock = some j → j < w5.heap.size) := fun j hj => by
          have := (ownk.lt j hj).1
          exact HOLD.out j hj
        replace hb := behind hb hb6
        have HW6 : Hid (∀ m ∈ kept ++ [⟨⟨site, seq, wall, count, d0, d1, d2, d3, ws⟩, a2, c2⟩], WrIn w6 m.wa m.wc m.t.ws ∧ ∀ j, m.blk j → ov.ownBlock ≠ some j ∧ w.heap.size ≤ j) := fun m hm => by
          rcases List.mem_append.1 hm with h1 | h1
          · exact ⟨(HWK.out m h1).1.later hb6, (HWK.out m h1).2⟩
          · rw [List.mem_singleton.1 h1]
            refine ⟨W62, fun j hj => ⟨fun e => ?_, ?_⟩⟩
            · have q1 := hk2 j hj
              have q2 := HO5.out j e
              omega
            · have q1 := hk2 j hj
              omega
        have hsz6 : w.heap.size + 1 ≤ w6.heap.size := by have := RA.lt; omega
        have HS6 : Hid (w.heap.size + 1 ≤ w6.heap.size) := hsz6
        clear hb6 hk2 W62 y0 y1 y2 y3 y4 y5 y6 y7 y8 hsz5
        go_wp2_with (at_builtin; refine wpList_append_lies _ rfl (.tmp 24) (.tmp 27) 80 rfl (w.heap.size + 1) 102 i0 (.agg #[.int .i64 0, .int .i64 0, .int .i64 0, .int .i64 0, .int .i64 0, .int .i64 0, .int .i64 0, .int .i64 0, .slice none 0 0]) 9 88 Tryz.underlying80 hi hz0 hz1 hz2 rfl (by decide) ov kept.length (txsC kept) rfl (ownk.alloc _) ⟨w6.heap.size, 0, none⟩ 1 1 (txC ⟨⟨site, seq, wall, count, d0, d1, d2, d3, ws⟩, a2, c2⟩) rfl rfl (World.news_of_block (heap_alloc_new w6 (.cells #[.int .i64 site, .int .i64 seq, .int .i64 wall, .int .i64 count, .int .i64 d0, .int .i64 d1, .int .i64 d2, .int .i64 d3, .slice a2 ws.length c2] 102))) (txC_one _) (by decide) (by simp only [maxLen]; omega) (by omega) (by simp; omega) _ rfl ?_; intro g cap9 wE ownE grE egE ltE)
        have rowsg : ∀ j, ov.ownBlock = some j → w.heap.size + 1 ≤ j := fun j hj => (ownk.lt j hj).1
        have RAE := (RA.boxed (.cells #[.int .i64 site, .int .i64 seq, .int .i64 wall, .int .i64 count, .int .i64 d0, .int .i64 d1, .int .i64 d2, .int .i64 d3, .slice a2 ws.length c2] 102)).grown4 grE (fun e => by have := rowsg _ e.symm; omega)
        have hbE := (boxed hb (.cells #[.int .i64 site, .int .i64 seq, .int .i64 wall, .int .i64 count, .int .i64 d0, .int .i64 d1, .int .i64 d2, .int .i64 d3, .slice a2 ws.length c2] 102)).grown grE (by have := hb.size; simp; omega) (fun j hj => by have := rowsg j hj; omega)
        have HWE : Hid (∀ m ∈ kept ++ [⟨⟨site, seq, wall, count, d0, d1, d2, d3, ws⟩, a2, c2⟩], WrIn wE m.wa m.wc m.t.ws ∧ ∀ j, m.blk j → (Value.slice (some ⟨g, 0, none⟩) (kept.length + 1) cap9).ownBlock ≠ some j ∧ w.heap.size ≤ j) := fun m hm => by
          have q := HW6.out m hm
          have q1 := q.1.later (boxed (Below.refl _ w6) (.cells #[.int .i64 site, .int .i64 seq, .int .i64 wall, .int .i64 count, .int .i64 d0, .int .i64 d1, .int .i64 d2, .int .i64 d3, .slice a2 ws.length c2] 102))
          refine ⟨q1.kept (fun j hj => grE.block j (q1.blk_lt j hj) (fun e => (q.2 j hj).1 e.symm)), fun j hj => ⟨fun e => ?_, (q.2 j hj).2⟩⟩
          have eg : g = j := by simpa [Value.ownBlock] using e
          rcases egE with h1 | h1
          · exact (q.2 j hj).1 (by rw [h1, eg])
          · have := q.1.blk_lt j hj
            simp at h1
            omega
        go_roundw
        case rel => exact ⟨k + 1, z + 1, kept ++ [⟨⟨site, seq, wall, count, d0, d1, d2, d3, ws⟩, a2, c2⟩], _, rfl, by omega, by have := HZ.out; omega, by go_num, by rw [List.map_append]; exact KF.out, by rw [txsC_snoc, List.length_append]; exact ownE, HWE, RAE, hbE⟩
        case measure => simp [intOf]; omega
    · have g1 : ¬ z < (log.length : Int) := by omega
      obtain rfl : k = log.length := by omega
      rw [List.take_length] at hkp
      have HKF : Hid ((log.filter (missB h0 h1 h2 h3)).map (·.t) = kept.map (·.t)) := hkp
      clear hz hkp
      go_wp2_with fail
      go_ret
      exact ⟨ov, rfl, kept, HKF.out, ⟨_, Nat.le_succ _, ownk⟩, fun m hm => ⟨(HWK.out m hm).1, fun j hj => ((HWK.out m hm).2 j hj).2⟩, hb⟩
end Go.Proofs.YtoanjdndmlffdaaGreatDoor
