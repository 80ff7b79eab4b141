/-
  A Take, at a site of the document: that goes well, and whichever, as the model runs it (copseref.Site.Take).
-/
import Derived.Test.YtpncedpfoakfkaaGreatDoorRTake
import Derived.Test.YtpncedpfoakfkaaGreatDoorRTakeD
namespace Go.Proofs.YtpncedpfoakfkaaGreatDoor
open Go.RowKit

theorem refTake_results {tmps : Array Value} {v : Value} (w : World) (h : tmps[4]? = some v) : (results Tryz.f12 tmps).run Tryz.prog w = .ok v w := by
  simp [results, Tryz.results12, go_sem, h]

set_option maxRecDepth 100000 in
set_option maxHeartbeats 16000000 in
theorem refTake_yes {b : Nat} {G : Nat → Prop} {S : SiteS} (m : TxM) (w : World) (h : RS w b G S) (hI : InvS S) (hn : S.waits.length ≤ 900) (hW : WrIn w m.wa m.wc m.t.ws) (hnz : takeE S m.t = 0) :
    Calls Tryz.prog 12 #[.pointer (some ⟨b, 0, none⟩), txV m] w fun e w' => e = .returned (.int .i64 (takeE S m.t)) ∧ ∃ S', TakesTo S m.t S' ∧ RPo w b G S' w' := by
  obtain ⟨⟨site, seq, wall, count, d0, d1, d2, d3, ws⟩, a, cap⟩ := m
  simp only at hW hnz ⊢
  have HNZ : Hid (takeE S ⟨site, seq, wall, count, d0, d1, d2, d3, ws⟩ = 0) := hnz
  clear hnz
  have hb := boxed (Below.refl _ w) (.cells #[.int .i64 site, .int .i64 seq, .int .i64 wall, .int .i64 count, .int .i64 d0, .int .i64 d1, .int .i64 d2, .int .i64 d3, .slice a ws.length cap] 44)
  have RB := RowL.new (w := w) (T := 44) [.int .i64 site, .int .i64 seq, .int .i64 wall, .int .i64 count, .int .i64 d0, .int .i64 d1, .int .i64 d2, .int .i64 d3, .slice a ws.length cap] rfl
  change RowL (w.alloc (.cells #[.int .i64 site, .int .i64 seq, .int .i64 wall, .int .i64 count, .int .i64 d0, .int .i64 d1, .int .i64 d2, .int .i64 d3, .slice a ws.length cap] 44)) w.heap.size [.int .i64 site, .int .i64 seq, .int .i64 wall, .int .i64 count, .int .i64 d0, .int .i64 d1, .int .i64 d2, .int .i64 d3, .slice a ws.length cap] at RB
  have hne := Later.one
  have P1 := h.later hb
  have W1 := hW.later hb
  have HGL : Hid (∀ k, G k → k < w.heap.size) := h.lt
  clear h hW
  show Calls Tryz.prog 12 #[.pointer (some ⟨b, 0, none⟩), .agg #[.int .i64 site, .int .i64 seq, .int .i64 wall, .int .i64 count, .int .i64 d0, .int .i64 d1, .int .i64 d2, .int .i64 d3, .slice a ws.length cap]] w _
  obtain ⟨lv, wv, sv, log, waits, PM, hl, hw, hG⟩ := id P1
  obtain ⟨la, lc, rfl, hLT⟩ := txsIn_own PM.rlog
  obtain ⟨va, vc, rfl, hVT⟩ := txsIn_own PM.rwait
  have k0 := Later.cell (PM.box.cell 0 _ rfl)
  have t0 := Later.cell (RB.cell 0 _ rfl)
  have t1 := Later.cell (RB.cell 1 _ rfl)
  have t2 := Later.cell (RB.cell 2 _ rfl)
  have t3 := Later.cell (RB.cell 3 _ rfl)
  have t4 := Later.cell (RB.cell 4 _ rfl)
  have t5 := Later.cell (RB.cell 5 _ rfl)
  have t6 := Later.cell (RB.cell 6 _ rfl)
  have t7 := Later.cell (RB.cell 7 _ rfl)
  have t8 := Later.cell (RB.cell 8 _ rfl)
  cases hok : okT ⟨site, seq, wall, count, d0, d1, d2, d3, ws⟩
  · have HK : Hid (okTx site seq wall count d0 d1 d2 d3 ws = false) := hok
    have E : takeE S ⟨site, seq, wall, count, d0, d1, d2, d3, ws⟩ = 1 := by unfold takeE; rw [if_pos hok]
    exact absurd (HNZ.out.symm.trans E) (by decide)
  · have HK : Hid (okTx site seq wall count d0 d1 d2 d3 ws = true) := hok
    obtain ⟨⟨s0, s3⟩, ⟨sq1, sq2⟩, sw⟩ := okT_parts hok
    simp only at s0 s3 sq1 sq2 sw
    have HOK : Hid (okT ⟨site, seq, wall, count, d0, d1, d2, d3, ws⟩ = true) := hok
    clear hok
    by_cases hid : site = S.id
    · have E : takeE S ⟨site, seq, wall, count, d0, d1, d2, d3, ws⟩ = 1 := by unfold takeE; rw [if_neg (by rw [HOK.out]; decide), if_pos hid]
      exact absurd (HNZ.out.symm.trans E) (by decide)
    · have i1 : (site == S.id) = false := by simp [hid]
      have i2 : decide (site = S.id) = false := by simp [hid]
      have HID : Hid (¬ site = S.id) := hid
      have HPM : Hid (SMem (w.alloc (.cells #[.int .i64 site, .int .i64 seq, .int .i64 wall, .int .i64 count, .int .i64 d0, .int .i64 d1, .int .i64 d2, .int .i64 d3, .slice a ws.length cap] 44)) b (.slice la log.length lc) (.slice va waits.length vc) sv S log waits ∧ log.map (·.t) = S.log ∧ waits.map (·.t) = S.waits ∧ ∀ k, G k ↔ (footS b (.slice la log.length lc) (.slice va waits.length vc) sv k ∨ ∃ m ∈ log ++ waits, m.blk k)) := ⟨PM, hl, hw, hG⟩
      have HI : Hid (InvS S) := hI
      have HVT : Hid (TxsIn (w.alloc (.cells #[.int .i64 site, .int .i64 seq, .int .i64 wall, .int .i64 count, .int .i64 d0, .int .i64 d1, .int .i64 d2, .int .i64 d3, .slice a ws.length cap] 44)) va vc waits ∧ TxsIn (w.alloc (.cells #[.int .i64 site, .int .i64 seq, .int .i64 wall, .int .i64 count, .int .i64 d0, .int .i64 d1, .int .i64 d2, .int .i64 d3, .slice a ws.length cap] 44)) la lc log) := ⟨hVT, hLT⟩
      have hvl := hVT.len
      have hvc := hVT.cap
      have hll := hLT.len
      have hlc := hLT.cap
      clear PM hl hw hG P1 hI hid hVT hLT
      go_enter Tryz.func12, Tryz.ntmps12
      go_wp2_with fail
      refine wp_region_later (by kernel_rfl) (by kernel_rfl) ?_
      repeat (go_big_quiet_step (first | rfl | (go_at_call 64; with_reducible exact calls_later (refRightTx_is (W1.later (Later.below _)) HK.out))))
      refine wpQuiet_nil ?_
      rintro w2 ⟨⟨_, hb2⟩, rfl⟩
      clear t0 t1 t2 t3 t4 t5 t6 t7 t8 k0
      have PM2 : Hid (SMem w2 b (.slice la log.length lc) (.slice va waits.length vc) sv S log waits) := HPM.out.1.later hb2
      have RB2 := RB.later hb2
      have hbw := behind hb hb2
      have HB2 : Hid (Below (w.alloc (.cells #[.int .i64 site, .int .i64 seq, .int .i64 wall, .int .i64 count, .int .i64 d0, .int .i64 d1, .int .i64 d2, .int .i64 d3, .slice a ws.length cap] 44)).heap.size (w.alloc (.cells #[.int .i64 site, .int .i64 seq, .int .i64 wall, .int .i64 count, .int .i64 d0, .int .i64 d1, .int .i64 d2, .int .i64 d3, .slice a ws.length cap] 44)) w2) := hb2
      clear RB hb hb2
      have t0 := Later.cell (RB2.cell 0 _ rfl)
      have t1 := Later.cell (RB2.cell 1 _ rfl)
      have ks := Later.cell (site_at PM2.out.box s0 s3)
      have s4 : site < 4 := by omega
      obtain ⟨D, hD⟩ : ∃ D, depOf site S.a0 S.a1 S.a2 S.a3 = D := ⟨_, rfl⟩
      have HD : Hid (depOf site S.a0 S.a1 S.a2 S.a3 = D) := hD
      rw [hD] at ks
      clear hD
      by_cases hle : seq ≤ D
      · have E : takeE S ⟨site, seq, wall, count, d0, d1, d2, d3, ws⟩ = 9 := by unfold takeE; rw [if_neg (by rw [HOK.out]; decide), if_neg HID.out, if_pos (by rw [HD.out]; exact hle)]
        exact absurd (HNZ.out.symm.trans E) (by decide)
      · have HLE : Hid (D < seq) := by show _ < _; omega
        have q1 : decide (seq ≤ D) = false := decide_eq_false hle
        clear hle
        go_wp2_with fail
        refine wp_region_later (by kernel_rfl) (by kernel_rfl) ?_
        repeat (go_big_quiet_step (first | rfl | fail))
        refine wpQuiet_nil ?_
        rintro w3 ⟨⟨_, hb3⟩, rfl⟩
        have PM3 : Hid (SMem w3 b (.slice la log.length lc) (.slice va waits.length vc) sv S log waits) := PM2.out.later hb3
        have RB3 : Hid (RowL w3 w.heap.size [.int .i64 site, .int .i64 seq, .int .i64 wall, .int .i64 count, .int .i64 d0, .int .i64 d1, .int .i64 d2, .int .i64 d3, .slice a ws.length cap]) := RB2.later hb3
        have hbw3 := behind hbw hb3
        have HB3 : Hid (Below (w.alloc (.cells #[.int .i64 site, .int .i64 seq, .int .i64 wall, .int .i64 count, .int .i64 d0, .int .i64 d1, .int .i64 d2, .int .i64 d3, .slice a ws.length cap] 44)).heap.size (w.alloc (.cells #[.int .i64 site, .int .i64 seq, .int .i64 wall, .int .i64 count, .int .i64 d0, .int .i64 d1, .int .i64 d2, .int .i64 d3, .slice a ws.length cap] 44)) w3) := behind HB2.out hb3
        clear RB2 hbw hb3 t0 t1 ks PM2 HB2
        have s8 := PM3.out.box.cell 8 _ rfl
        go_wp2_with fail
        go_loopw [39] (fun iv wr => ∃ (k : Nat) (z : Int), k ≤ waits.length ∧ z = k ∧ iv = .int .i64 z ∧ Hid (∀ j x, j < k → waits[j]? = some x → isNum x.t ⟨site, seq, wall, count, d0, d1, d2, d3, ws⟩ = false) ∧ Below w3.heap.size w3 wr) (fun i _ => waits.length - (intOf i).toNat)
        case atStart => exact ⟨0, 0, by omega, rfl, rfl, (fun j x hj => by omega), Below.refl _ _⟩
        case round =>
          obtain ⟨k, z, hk, hz, rfl, HNM, hbr⟩ := hrel
          have HZ : Hid (z = k) := hz
          by_cases hlt : k < waits.length
          · have g1 : z < (waits.length : Int) := by omega
            have g2 : z.toNat = k := by omega
            have g3 : 0 ≤ z := by omega
            clear hz
            obtain ⟨wb, off, hwa, hcc⟩ : ∃ wb off, va = some ⟨wb, off, none⟩ ∧ ∀ i m r u, waits[i]? = some m → (txC m)[r]? = some u → (w.alloc (.cells #[.int .i64 site, .int .i64 seq, .int .i64 wall, .int .i64 count, .int .i64 d0, .int .i64 d1, .int .i64 d2, .int .i64 d3, .slice a ws.length cap] 44)).cell? ⟨wb, off + (i * 9 + r), none⟩ = some u := by
              rcases HVT.out.1.held with e | e
              · rw [e] at hlt; simp at hlt
              · exact e
            obtain ⟨⟨⟨xs, xq, xw, xc, y0, y1, y2, y3, yw⟩, ya, yc⟩, hx⟩ : ∃ m, waits[k]? = some m := ⟨waits[k], List.getElem?_eq_getElem hlt⟩
            have HX : Hid (waits[k]? = some ⟨⟨xs, xq, xw, xc, y0, y1, y2, y3, yw⟩, ya, yc⟩) := hx
            have cc := fun r u (hu : (txC ⟨⟨xs, xq, xw, xc, y0, y1, y2, y3, yw⟩, ya, yc⟩)[r]? = some u) => (show wr.cell? ⟨wb, off + k * 9 + r, none⟩ = some u by rw [Nat.add_assoc]; exact cell_later (behind HB3.out hbr) (hcc k _ r u hx hu))
            have x0 := cc 0 _ rfl
            have x1 := cc 1 _ rfl
            have x2 := cc 2 _ rfl
            have x3 := cc 3 _ rfl
            have x4 := cc 4 _ rfl
            have x5 := cc 5 _ rfl
            have x6 := cc 6 _ rfl
            have x7 := cc 7 _ rfl
            have x8 := cc 8 _ rfl
            rw [Nat.add_zero] at x0
            have RBr := RB3.out.later hbr
            have t0 := RBr.cell 0 _ rfl
            have t1 := RBr.cell 1 _ rfl
            have lt0 := RBr.lt
            rw [hwa]
            clear cc hcc hx RBr
            by_cases hs : xs = site
            · by_cases hq : xq = seq
              · have e1 : (xs == site) = true := by simp [hs]
                have e2 : (xq == seq) = true := by simp [hq]
                have E : takeE S ⟨site, seq, wall, count, d0, d1, d2, d3, ws⟩ = 9 := by
                  unfold takeE
                  rw [if_neg (by rw [HOK.out]; decide), if_neg HID.out, if_neg (by rw [HD.out]; have := HLE.out; simp only; omega), if_pos]
                  rw [← HPM.out.2.2.1]
                  exact List.any_eq_true.2 ⟨_, List.mem_map.2 ⟨_, List.mem_of_getElem? HX.out, rfl⟩, isNum_iff.2 ⟨hs, hq⟩⟩
                exact absurd (HNZ.out.symm.trans E) (by decide)
              · have e1 : (xs == site) = true := by simp [hs]
                have e2 : (xq == seq) = false := by simp [hq]
                have HNQ : Hid (isNum ⟨xs, xq, xw, xc, y0, y1, y2, y3, yw⟩ ⟨site, seq, wall, count, d0, d1, d2, d3, ws⟩ = false) := by show _ = _; simp [isNum, hq]
                clear hs hq hwa
                go_wp2_with fail
                go_roundw
                case rel => exact ⟨k + 1, z + 1, by omega, by have := HZ.out; omega, by go_num, (fun j x hj hx => by
                  rcases Nat.lt_or_ge j k with h1 | h1
                  · exact HNM.out j x h1 hx
                  · have : j = k := by omega
                    subst this
                    rw [HX.out] at hx
                    injection hx with hx
                    subst hx
                    exact HNQ.out), boxed hbr _⟩
                case measure => simp [intOf]; have := HZ.out; omega
            · have e1 : (xs == site) = false := by simp [hs]
              have HNQ : Hid (isNum ⟨xs, xq, xw, xc, y0, y1, y2, y3, yw⟩ ⟨site, seq, wall, count, d0, d1, d2, d3, ws⟩ = false) := by show _ = _; simp [isNum, hs]
              clear hs hwa
              go_wp2_with fail
              go_roundw
              case rel => exact ⟨k + 1, z + 1, by omega, by have := HZ.out; omega, by go_num, (fun j x hj hx => by
                rcases Nat.lt_or_ge j k with h1 | h1
                · exact HNM.out j x h1 hx
                · have : j = k := by omega
                  subst this
                  rw [HX.out] at hx
                  injection hx with hx
                  subst hx
                  exact HNQ.out), boxed hbr _⟩
              case measure => simp [intOf]; have := HZ.out; omega
          · have g1 : ¬ z < (waits.length : Int) := by omega
            have HNA : Hid (∀ x ∈ waits, isNum x.t ⟨site, seq, wall, count, d0, d1, d2, d3, ws⟩ = false) := fun x hx => by
              obtain ⟨j, hj⟩ := List.getElem?_of_mem hx
              exact HNM.out j x (by have := (List.getElem?_eq_some_iff.1 hj).1; omega) hj
            clear hz HNM
            have PMr : Hid (SMem wr b (.slice la log.length lc) (.slice va waits.length vc) sv S log waits) := PM3.out.later hbr
            have RBr : Hid (RowL wr w.heap.size [.int .i64 site, .int .i64 seq, .int .i64 wall, .int .i64 count, .int .i64 d0, .int .i64 d1, .int .i64 d2, .int .i64 d3, .slice a ws.length cap]) := RB3.out.later hbr
            have hbwr := behind hbw3 hbr
            have HBr : Hid (Below (w.alloc (.cells #[.int .i64 site, .int .i64 seq, .int .i64 wall, .int .i64 count, .int .i64 d0, .int .i64 d1, .int .i64 d2, .int .i64 d3, .slice a ws.length cap] 44)).heap.size (w.alloc (.cells #[.int .i64 site, .int .i64 seq, .int .i64 wall, .int .i64 count, .int .i64 d0, .int .i64 d1, .int .i64 d2, .int .i64 d3, .slice a ws.length cap] 44)) wr) := behind HB3.out hbr
            clear hbw3 hbr PM3 RB3 HB3 s8 hk
            have t0 := Later.cell (RBr.out.cell 0 _ rfl)
            have t1 := Later.cell (RBr.out.cell 1 _ rfl)
            have t4 := Later.cell (RBr.out.cell 4 _ rfl)
            have t5 := Later.cell (RBr.out.cell 5 _ rfl)
            have t6 := Later.cell (RBr.out.cell 6 _ rfl)
            have t7 := Later.cell (RBr.out.cell 7 _ rfl)
            have ks := Later.cell (site_at PMr.out.box s0 s3)
            have k1 := Later.cell (PMr.out.box.cell 1 _ rfl)
            have k2 := Later.cell (PMr.out.box.cell 2 _ rfl)
            have k3 := Later.cell (PMr.out.box.cell 3 _ rfl)
            have k4 := Later.cell (PMr.out.box.cell 4 _ rfl)
            rw [HD.out] at ks
            have hdd := HI.out.dep site
            rw [HD.out] at hdd
            have hwr := wrap_next hdd
            have hlw : waits.length = S.waits.length := by rw [← HPM.out.2.2.1]; simp
            have hlg : log.length = S.log.length := by rw [← HPM.out.2.1]; simp
            have HLN : Hid (waits.length = S.waits.length ∧ log.length = S.log.length ∧ S.waits.length ≤ 900) := ⟨hlw, hlg, hn⟩
            have HRE : Hid (readyS S ⟨site, seq, wall, count, d0, d1, d2, d3, ws⟩ = (decide (seq = D + 1) && covB S.a0 S.a1 S.a2 S.a3 d0 d1 d2 d3)) := by show readyS S ⟨site, seq, wall, count, d0, d1, d2, d3, ws⟩ = _; unfold readyS; rw [HD.out]
            have HAN : Hid (S.waits.any (fun x => isNum x ⟨site, seq, wall, count, d0, d1, d2, d3, ws⟩) = false) := by
              show _ = _
              rw [← HPM.out.2.2.1, List.any_eq_false]
              intro x hx
              obtain ⟨y, hy, rfl⟩ := List.mem_map.1 hx
              rw [HNA.out y hy]
              decide
            have E0 : Hid (takeE S ⟨site, seq, wall, count, d0, d1, d2, d3, ws⟩ = if 200 ≤ log.length then 12 else if 40 ≤ waits.length ∧ readyS S ⟨site, seq, wall, count, d0, d1, d2, d3, ws⟩ = false then 12 else 0) := by
              show takeE S ⟨site, seq, wall, count, d0, d1, d2, d3, ws⟩ = _
              unfold takeE
              rw [if_neg (by rw [HOK.out]; decide), if_neg HID.out, if_neg (by rw [HD.out]; have := HLE.out; simp only; omega), if_neg (by rw [HAN.out]; decide), HLN.out.1, HLN.out.2.1]
            clear hn hdd hlw hlg
            by_cases hq : seq = D + 1
            · have q2 : (seq == D + 1) = true := by simp [hq]
              have HQ : Hid (seq = D + 1) := hq
              clear hq
              cases hc : covB S.a0 S.a1 S.a2 S.a3 d0 d1 d2 d3
              · have HC : Hid (covB S.a0 S.a1 S.a2 S.a3 d0 d1 d2 d3 = false) := hc
                have HR : Hid (readyS S ⟨site, seq, wall, count, d0, d1, d2, d3, ws⟩ = false) := by show _ = _; rw [HRE.out, hc]; simp
                clear hc
                go_wp2_with fail
                refine wp_region_later (by kernel_rfl) (by kernel_rfl) ?_
                repeat (go_big_quiet_step (first | rfl | (go_at_call 49; with_reducible exact calls_later (refCovers_is HC.out _))))
                refine wpQuiet_nil ?_
                rintro w4 ⟨⟨_, hb4⟩, rfl⟩
                clear HQ HC q2
                have PM4 : Hid (SMem w4 b (.slice la log.length lc) (.slice va waits.length vc) sv S log waits) := PMr.out.later hb4
                have RB4 : Hid (RowL w4 w.heap.size [.int .i64 site, .int .i64 seq, .int .i64 wall, .int .i64 count, .int .i64 d0, .int .i64 d1, .int .i64 d2, .int .i64 d3, .slice a ws.length cap]) := RBr.out.later hb4
                have hbw4 := behind hbwr hb4
                have HB4 : Hid (Below (w.alloc (.cells #[.int .i64 site, .int .i64 seq, .int .i64 wall, .int .i64 count, .int .i64 d0, .int .i64 d1, .int .i64 d2, .int .i64 d3, .slice a ws.length cap] 44)).heap.size (w.alloc (.cells #[.int .i64 site, .int .i64 seq, .int .i64 wall, .int .i64 count, .int .i64 d0, .int .i64 d1, .int .i64 d2, .int .i64 d3, .slice a ws.length cap] 44)) w4) := behind HBr.out hb4
                clear hbwr hb4 PMr RBr HBr t0 t1 t4 t5 t6 t7 ks k1 k2 k3 k4
                obtain ⟨e1, e2, e3, e4, e5⟩ := takeE_zero HNZ.out
                have h40 : waits.length < 40 ∨ false = true := by
                  refine .inl (Nat.lt_of_not_le fun h40 => ?_)
                  have E := HNZ.out
                  rw [E0.out, if_neg (by have := HLN.out; omega), if_pos ⟨h40, HR.out⟩] at E
                  cases E
                go_step; go_step
                refine wp_mono (takeE12_any w w4 PM4.out HPM.out.2.1 HPM.out.2.2.1 HPM.out.2.2.2 HGL.out RB4.out (W1.later HB4.out) sw (by have := HLN.out; omega) (HI.out.wait e1 e2 e4) hbw4 (by have := HLN.out; omega) h40) (fun e a w' h => ?_)
                obtain ⟨rfl, hd, ht, S', g1, g2⟩ := h
                exact bodyPost_ret (v := .int .i64 0) (refTake_results w' ht) hd ⟨by rw [HNZ.out], S', .inr ⟨HNZ.out, g1⟩, g2⟩
              · have HC : Hid (covB S.a0 S.a1 S.a2 S.a3 d0 d1 d2 d3 = true) := hc
                have HR : Hid (readyS S ⟨site, seq, wall, count, d0, d1, d2, d3, ws⟩ = true) := by show _ = _; rw [HRE.out, hc, HQ.out]; simp
                clear hc
                go_wp2_with fail
                refine wp_region_later (by kernel_rfl) (by kernel_rfl) ?_
                repeat (go_big_quiet_step (first | rfl | (go_at_call 49; with_reducible exact calls_later (refCovers_is HC.out _))))
                refine wpQuiet_nil ?_
                rintro w4 ⟨⟨_, hb4⟩, rfl⟩
                clear HQ HC q2
                have PM4 : Hid (SMem w4 b (.slice la log.length lc) (.slice va waits.length vc) sv S log waits) := PMr.out.later hb4
                have RB4 : Hid (RowL w4 w.heap.size [.int .i64 site, .int .i64 seq, .int .i64 wall, .int .i64 count, .int .i64 d0, .int .i64 d1, .int .i64 d2, .int .i64 d3, .slice a ws.length cap]) := RBr.out.later hb4
                have hbw4 := behind hbwr hb4
                have HB4 : Hid (Below (w.alloc (.cells #[.int .i64 site, .int .i64 seq, .int .i64 wall, .int .i64 count, .int .i64 d0, .int .i64 d1, .int .i64 d2, .int .i64 d3, .slice a ws.length cap] 44)).heap.size (w.alloc (.cells #[.int .i64 site, .int .i64 seq, .int .i64 wall, .int .i64 count, .int .i64 d0, .int .i64 d1, .int .i64 d2, .int .i64 d3, .slice a ws.length cap] 44)) w4) := behind HBr.out hb4
                clear hbwr hb4 PMr RBr HBr t0 t1 t4 t5 t6 t7 ks k1 k2 k3 k4
                obtain ⟨e1, e2, e3, e4, e5⟩ := takeE_zero HNZ.out
                have h40 : waits.length < 40 ∨ true = true := .inr rfl
                go_step; go_step
                refine wp_mono (takeE12_any w w4 PM4.out HPM.out.2.1 HPM.out.2.2.1 HPM.out.2.2.2 HGL.out RB4.out (W1.later HB4.out) sw (by have := HLN.out; omega) (HI.out.wait e1 e2 e4) hbw4 (by have := HLN.out; omega) h40) (fun e a w' h => ?_)
                obtain ⟨rfl, hd, ht, S', g1, g2⟩ := h
                exact bodyPost_ret (v := .int .i64 0) (refTake_results w' ht) hd ⟨by rw [HNZ.out], S', .inr ⟨HNZ.out, g1⟩, g2⟩
            · have q2 : (seq == D + 1) = false := by simp [hq]
              have HR : Hid (readyS S ⟨site, seq, wall, count, d0, d1, d2, d3, ws⟩ = false) := by show _ = _; rw [HRE.out]; simp [hq]
              clear hq
              go_wp2_with fail
              refine wp_region_later (by kernel_rfl) (by kernel_rfl) ?_
              repeat (go_big_quiet_step (first | rfl | fail))
              refine wpQuiet_nil ?_
              rintro w4 ⟨⟨_, hb4⟩, rfl⟩
              clear q2
              have PM4 : Hid (SMem w4 b (.slice la log.length lc) (.slice va waits.length vc) sv S log waits) := PMr.out.later hb4
              have RB4 : Hid (RowL w4 w.heap.size [.int .i64 site, .int .i64 seq, .int .i64 wall, .int .i64 count, .int .i64 d0, .int .i64 d1, .int .i64 d2, .int .i64 d3, .slice a ws.length cap]) := RBr.out.later hb4
              have hbw4 := behind hbwr hb4
              have HB4 : Hid (Below (w.alloc (.cells #[.int .i64 site, .int .i64 seq, .int .i64 wall, .int .i64 count, .int .i64 d0, .int .i64 d1, .int .i64 d2, .int .i64 d3, .slice a ws.length cap] 44)).heap.size (w.alloc (.cells #[.int .i64 site, .int .i64 seq, .int .i64 wall, .int .i64 count, .int .i64 d0, .int .i64 d1, .int .i64 d2, .int .i64 d3, .slice a ws.length cap] 44)) w4) := behind HBr.out hb4
              clear hbwr hb4 PMr RBr HBr t0 t1 t4 t5 t6 t7 ks k1 k2 k3 k4
              obtain ⟨e1, e2, e3, e4, e5⟩ := takeE_zero HNZ.out
              have h40 : waits.length < 40 ∨ false = true := by
                refine .inl (Nat.lt_of_not_le fun h40 => ?_)
                have E := HNZ.out
                rw [E0.out, if_neg (by have := HLN.out; omega), if_pos ⟨h40, HR.out⟩] at E
                cases E
              go_step; go_step
              refine wp_mono (takeE12_any w w4 PM4.out HPM.out.2.1 HPM.out.2.2.1 HPM.out.2.2.2 HGL.out RB4.out (W1.later HB4.out) sw (by have := HLN.out; omega) (HI.out.wait e1 e2 e4) hbw4 (by have := HLN.out; omega) h40) (fun e a w' h => ?_)
              obtain ⟨rfl, hd, ht, S', g1, g2⟩ := h
              exact bodyPost_ret (v := .int .i64 0) (refTake_results w' ht) hd ⟨by rw [HNZ.out], S', .inr ⟨HNZ.out, g1⟩, g2⟩

theorem refTake_any {b : Nat} {G : Nat → Prop} {S : SiteS} (m : TxM) (w : World) (h : RS w b G S) (hI : InvS S) (hn : S.waits.length ≤ 900) (hW : WrIn w m.wa m.wc m.t.ws) :
    Calls Tryz.prog 12 #[.pointer (some ⟨b, 0, none⟩), txV m] w fun e w' => e = .returned (.int .i64 (takeE S m.t)) ∧ ∃ S', TakesTo S m.t S' ∧ RPo w b G S' w' := by
  by_cases hz : takeE S m.t = 0
  · exact refTake_yes m w h hI hn hW hz
  · exact refTake_no m w h hI hn hW hz

end Go.Proofs.YtpncedpfoakfkaaGreatDoor
