import Derived.Test.YtoanjdndmlffdaaGreatDoorSiteI
namespace Go.Proofs.YtoanjdndmlffdaaGreatDoor
open Go.RowKit
theorem sendsW_snoc (other : Nat) (t : TxP) : ∀ (l : List TxP) (W : WoS), sendsW other (l ++ [t]) W = if t.site = (other : Int) then sendsW other l W else sendW (sendsW other l W) ⟨other, .tx t⟩
  | [], W => rfl
  | x :: l, W => by
    show sendsW other (l ++ [t]) _ = _
    rw [sendsW_snoc other t l]
    rfl
theorem PWo.stepSm {w w' : World} {b : Nat} {M : WoM} {W : WoS} {Gs : Nat → Nat → Prop} (h : PWo w b M W Gs) {i : Nat} (hi : i < W.n) {S' : SiteS} (hl : PPo w (M.bp i) (Gs i) S' w') : ∃ Gs', PWo w' b M (setSite W i S') Gs' ∧ (∀ j k, Gs' j k → Gs j k ∨ w.heap.size ≤ k) ∧ Touch (Gs i) w w' := by
  obtain ⟨Gs', f, g, kp, tt⟩ := h.fam.stepG (ps' := woParts M (setSite W i S')) (i := i) (by omega) (p := siteP (M.bp i) S') hl (by show (if i < W.n then _ else _) = _; rw [if_pos hi]; show siteP (M.bp i) (setN W.S i S' i) = _; rw [setN_same]) (fun j hj hji => by
    show (if j < W.n then siteP (M.bp j) (setN W.S i S' j) else _) = (if j < W.n then _ else _)
    rw [setN_ne _ _ hji]
    rfl)
  exact ⟨Gs', h.keep kp f rfl rfl rfl rfl rfl rfl, g, tt⟩
set_option maxRecDepth 100000 in
set_option maxHeartbeats 4000000 in
theorem pw_answer {b : Nat} {G : Nat → Prop} {W : WoS} (v0 v1 v2 v3 : Int) (w : World) (h : PW w b G W) (hw : WfW W) {i o : Nat} (hi : i < W.n) (ho : o < W.n) :
    Calls Tryz.prog 212 #[.pointer (some ⟨b, 0, none⟩), .int .i64 i, .int .i64 o, .agg #[.int .i64 v0, .int .i64 v1, .int .i64 v2, .int .i64 v3]] w fun e w' => e = .returned (.tuple #[]) ∧ PWPo w b G (answerW W i o v0 v1 v2 v3) w' := by
  obtain ⟨M, Gs, h, hG⟩ := h
  have hb1 := boxed (Below.refl _ w) (.cells #[.int .i64 v0, .int .i64 v1, .int .i64 v2, .int .i64 v3] 77)
  have RV := RowL.new (w := w) (T := 77) [.int .i64 v0, .int .i64 v1, .int .i64 v2, .int .i64 v3] rfl
  change RowL (w.alloc (.cells #[.int .i64 v0, .int .i64 v1, .int .i64 v2, .int .i64 v3] 77)) w.heap.size [.int .i64 v0, .int .i64 v1, .int .i64 v2, .int .i64 v3] at RV
  have H1 := h.later hb1
  obtain ⟨pb, pc, c0, hpc, hpb, y0, y1⟩ := H1.place hi
  have hlt := h.box.lt
  have n4 := hw.n4
  have KN := knows_any (n := o) (by omega) (by omega) v0 v1 v2 v3 _ (H1.site hi)
  have HH : Hid (PWo w b M W Gs ∧ (∀ k, G k ↔ allG b M (W.n + W.c) Gs k) ∧ WfW W ∧ i < W.n) := ⟨h, hG, hw, hi⟩
  have q1 : (i : Int) < (W.n : Int) := by omega
  have z0 := RV.cell 0 _ rfl
  have z1 := RV.cell 1 _ rfl
  have z2 := RV.cell 2 _ rfl
  have z3 := RV.cell 3 _ rfl
  rw [show ((o : Int)).toNat = o by omega] at KN
  have HR : Hid (RowL (w.alloc (.cells #[.int .i64 v0, .int .i64 v1, .int .i64 v2, .int .i64 v3] 77)) w.heap.size [.int .i64 v0, .int .i64 v1, .int .i64 v2, .int .i64 v3] ∧ Below w.heap.size w (w.alloc (.cells #[.int .i64 v0, .int .i64 v1, .int .i64 v2, .int .i64 v3] 77)) ∧ PWo (w.alloc (.cells #[.int .i64 v0, .int .i64 v1, .int .i64 v2, .int .i64 v3] 77)) b M W Gs) := ⟨RV, hb1, H1⟩
  clear h hG hw H1 RV
  go_enter Tryz.func212, Tryz.ntmps212
  go_wp2_with fail
  refine KN.mono ?_
  rintro e w2 ⟨rfl, hp⟩
  rw [show errV 0 = .nilIface from rfl]
  obtain ⟨Gs2, K2, hsub, tt2⟩ := HR.out.2.2.stepSm HH.out.2.2.2 hp
  have RV2 : RowL w2 w.heap.size [.int .i64 v0, .int .i64 v1, .int .i64 v2, .int .i64 v3] := HR.out.1.kept (tt2.block _ HR.out.1.lt (fun e => by have := HH.out.1.ltG (by have := HH.out.2.2.2; omega) e; omega)) tt2.size
  have MS := pmissing_new v0 v1 v2 v3 w2 (K2.site (i := i) HH.out.2.2.2) (by show InvS (setN W.S i (knowsS (W.S i) o v0 v1 v2 v3) i); rw [setN_same]; exact (HH.out.2.2.1.inv i HH.out.2.2.2).knows _)
  rw [show missP ((setSite W i (knowsS (W.S i) o v0 v1 v2 v3)).S i) v0 v1 v2 v3 = missP (W.S i) v0 v1 v2 v3 by show missP (setN W.S i (knowsS (W.S i) o v0 v1 v2 v3) i) v0 v1 v2 v3 = _; rw [setN_same]; rfl] at MS
  have HK : Hid (PWo w2 b M (setSite W i (knowsS (W.S i) o v0 v1 v2 v3)) Gs2 ∧ (∀ j k, Gs2 j k → Gs j k ∨ w.heap.size ≤ k) ∧ Touch (Gs i) (w.alloc (.cells #[.int .i64 v0, .int .i64 v1, .int .i64 v2, .int .i64 v3] 77)) w2) := ⟨K2, fun j k e => (hsub j k e).elim .inl (fun q => .inr (by simp at q; omega)), tt2⟩
  clear z0 z1 z2 z3 c0 y0 y1 KN hp K2 hsub tt2
  have z0 := RV2.cell 0 _ rfl
  have z1 := RV2.cell 1 _ rfl
  have z2 := RV2.cell 2 _ rfl
  have z3 := RV2.cell 3 _ rfl
  go_wp2_with fail
  refine MS.mono ?_
  rintro e w3 ⟨v, rfl, kept, k1, ⟨B9, hB9, k2⟩, k3, k4⟩
  obtain ⟨ma, mc, hv, hMx⟩ := txsIn_own k2
  subst hv
  have K3 := HK.out.1.later k4
  have hkl : kept.length ≤ 200 := by
    have e1 := congrArg List.length k1
    have e2 : (missP (W.S i) v0 v1 v2 v3).length ≤ (W.S i).log.length := List.length_filter_le _ _
    have e3 := (HH.out.2.2.1.inv i HH.out.2.2.2).log
    simp at e1
    omega
  have hml := hMx.len
  have hmc := hMx.cap
  have HM : Hid (TxsIn w3 ma mc kept ∧ kept.map (·.t) = missP (W.S i) v0 v1 v2 v3 ∧ (∀ m ∈ kept, WrIn w3 m.wa m.wc m.t.ws ∧ ∀ j, m.blk j → w2.heap.size ≤ j) ∧ (∀ k off, ma = some ⟨k, off, none⟩ → kept ≠ [] → w2.heap.size ≤ k) ∧ PWo w3 b M (setSite W i (knowsS (W.S i) o v0 v1 v2 v3)) Gs2 ∧ Below w2.heap.size w2 w3) := ⟨hMx, k1, k3, fun k off e hn => by
    rcases k2.2 with ⟨q, h0⟩ | ⟨g, cap, cur, q, hb9, _⟩
    · exact absurd (List.eq_nil_of_length_eq_zero h0) hn
    · injection q with q1 q2 q3
      rw [e] at q1
      injection q1 with q1
      injection q1 with q1
      omega, K3, k4⟩
  clear MS z0 z1 z2 z3 RV2 k1 k2 k3 k4 K3 hMx
  go_wp2_with fail
  go_loopw [27] (fun iv wr => ∃ (k : Nat) (z : Int), k ≤ kept.length ∧ z = k ∧ iv = .int .i64 z ∧ Hid (Sent w3 b M Gs2 (fun q => w3.heap.size ≤ q) (sendsW o ((kept.map (·.t)).take k) (setSite W i (knowsS (W.S i) o v0 v1 v2 v3))) wr)) (fun iv _ => kept.length - (intOf iv).toNat)
  case atStart => exact ⟨0, 0, by omega, rfl, rfl, Sent.none HM.out.2.2.2.2.1 (Below.refl _ _) _⟩
  case round =>
    obtain ⟨k, z, hk, hz, rfl, HS⟩ := hrel
    have HZ : Hid (z = k) := hz
    by_cases hlt2 : k < kept.length
    · have g1 : z < (kept.length : Int) := by omega
      have g2 : z.toNat = k := by omega
      have g3 : 0 ≤ z := by omega
      have g4 : z < 200 := by omega
      clear hz
      obtain ⟨ab, ao, haa, hcc⟩ : ∃ b off, ma = some ⟨b, off, none⟩ ∧ ∀ i m r u, kept[i]? = some m → (txC m)[r]? = some u → w3.cell? ⟨b, off + (i * 9 + r), none⟩ = some u := by
        rcases HM.out.1.held with h0 | h0
        · rw [h0] at hlt2; simp at hlt2
        · exact h0
      have hne : kept ≠ [] := fun e => by rw [e] at hlt2; simp at hlt2
      have hab := HM.out.2.2.2.1 ab ao haa hne
      subst haa
      have ltb : ∀ q, footW b M q → q < w2.heap.size := fun q e => HK.out.1.ltF q e
      have kp : ∀ q, w2.heap.size ≤ q → q < w3.heap.size → wr.heap[q]? = w3.heap[q]? := fun q hq hq3 => HS.out.block hq3 (fun e => by have := ltb b (.inl rfl); omega) (fun e => by have := ltb q (.inr (.inr (.inr (.inl e)))); omega)
      obtain ⟨⟨⟨site, seq, wall, count, d0, d1, d2, d3, tws⟩, ta, tc⟩, hm⟩ : ∃ m, kept[k]? = some m := ⟨_, List.getElem?_eq_getElem hlt2⟩
      have hab3 : ab < w3.heap.size := World.block_lt_of_cell? _ _ (hcc k _ 0 _ hm rfl)
      have rd : ∀ r u, (txC ⟨⟨site, seq, wall, count, d0, d1, d2, d3, tws⟩, ta, tc⟩)[r]? = some u → wr.cell? ⟨ab, ao + (k * 9 + r), none⟩ = some u := fun r u hu => by rw [World.cell?_of_block (w := w3) (kp ab hab hab3)]; exact hcc k _ r u hm hu
      have x0 : wr.cell? ⟨ab, ao + k * 9, none⟩ = some (.int .i64 site) := rd 0 _ rfl
      have x1 : wr.cell? ⟨ab, ao + k * 9 + 1, none⟩ = some (.int .i64 seq) := rd 1 _ rfl
      have x2 : wr.cell? ⟨ab, ao + k * 9 + 2, none⟩ = some (.int .i64 wall) := rd 2 _ rfl
      have x3 : wr.cell? ⟨ab, ao + k * 9 + 3, none⟩ = some (.int .i64 count) := rd 3 _ rfl
      have x4 : wr.cell? ⟨ab, ao + k * 9 + 4, none⟩ = some (.int .i64 d0) := rd 4 _ rfl
      have x5 : wr.cell? ⟨ab, ao + k * 9 + 5, none⟩ = some (.int .i64 d1) := rd 5 _ rfl
      have x6 : wr.cell? ⟨ab, ao + k * 9 + 6, none⟩ = some (.int .i64 d2) := rd 6 _ rfl
      have x7 : wr.cell? ⟨ab, ao + k * 9 + 7, none⟩ = some (.int .i64 d3) := rd 7 _ rfl
      have x8 : wr.cell? ⟨ab, ao + k * 9 + 8, none⟩ = some (.slice ta tws.length tc) := rd 8 _ rfl
      have hmem := List.mem_of_getElem? hm
      have hWr : Hid (WrIn wr ta tc tws) := WrIn.kept (m := ⟨⟨site, seq, wall, count, d0, d1, d2, d3, tws⟩, ta, tc⟩) (HM.out.2.2.1 _ hmem).1 (fun q e => kp q ((HM.out.2.2.1 _ hmem).2 q e) ((HM.out.2.2.1 _ hmem).1.blk_lt q e))
      have hok : Hid (okTx site seq wall count d0 d1 d2 d3 tws = true) := HH.out.2.2.1.lok i HH.out.2.2.2 ⟨site, seq, wall, count, d0, d1, d2, d3, tws⟩ (by
        have : (⟨site, seq, wall, count, d0, d1, d2, d3, tws⟩ : TxP) ∈ missP (W.S i) v0 v1 v2 v3 := by rw [← HM.out.2.1]; exact List.mem_map.2 ⟨_, hmem, rfl⟩
        exact (List.mem_filter.1 this).1)
      have HT : Hid (sendsW o ((kept.map (·.t)).take (k + 1)) (setSite W i (knowsS (W.S i) o v0 v1 v2 v3)) = if site = (o : Int) then sendsW o ((kept.map (·.t)).take k) (setSite W i (knowsS (W.S i) o v0 v1 v2 v3)) else sendW (sendsW o ((kept.map (·.t)).take k) (setSite W i (knowsS (W.S i) o v0 v1 v2 v3))) ⟨o, .tx ⟨site, seq, wall, count, d0, d1, d2, d3, tws⟩⟩) := by
        show _ = _
        rw [List.take_add_one, List.getElem?_map, hm]
        exact sendsW_snoc o ⟨site, seq, wall, count, d0, d1, d2, d3, tws⟩ _ _
      have bx := boxed (Below.refl _ wr) (.cells #[.int .i64 site, .int .i64 seq, .int .i64 wall, .int .i64 count, .int .i64 d0, .int .i64 d1, .int .i64 d2, .int .i64 d3, .slice ta tws.length tc] 102)
      have RX := RowL.new (w := wr) (T := 102) [.int .i64 site, .int .i64 seq, .int .i64 wall, .int .i64 count, .int .i64 d0, .int .i64 d1, .int .i64 d2, .int .i64 d3, .slice ta tws.length tc] rfl
      change RowL (wr.alloc (.cells #[.int .i64 site, .int .i64 seq, .int .i64 wall, .int .i64 count, .int .i64 d0, .int .i64 d1, .int .i64 d2, .int .i64 d3, .slice ta tws.length tc] 102)) wr.heap.size [.int .i64 site, .int .i64 seq, .int .i64 wall, .int .i64 count, .int .i64 d0, .int .i64 d1, .int .i64 d2, .int .i64 d3, .slice ta tws.length tc] at RX
      have t0 := RX.cell 0 _ rfl
      have t1 := RX.cell 1 _ rfl
      have t2 := RX.cell 2 _ rfl
      have t3 := RX.cell 3 _ rfl
      have t4 := RX.cell 4 _ rfl
      have t5 := RX.cell 5 _ rfl
      have t6 := RX.cell 6 _ rfl
      have t7 := RX.cell 7 _ rfl
      have t8 := RX.cell 8 _ rfl
      clear hcc rd kp ltb hm hmem hab hab3 hne
      by_cases hs : site = (o : Int)
      · have HT2 : Hid (sendsW o ((kept.map (·.t)).take (k + 1)) (setSite W i (knowsS (W.S i) o v0 v1 v2 v3)) = sendsW o ((kept.map (·.t)).take k) (setSite W i (knowsS (W.S i) o v0 v1 v2 v3))) := HT.out.trans (if_pos hs)
        go_wp2_with fail
        go_roundw
        case rel => exact ⟨k + 1, z + 1, by omega, by have := HZ.out; omega, by go_num, by show Sent _ _ _ _ _ _ _; rw [HT2.out]; exact HS.out.next (fun nv l hP => Sent.none hP (boxed (Below.refl _ wr) _) _)⟩
        case measure => simp [intOf]; have := HZ.out; omega
      · have HT2 : Hid (sendsW o ((kept.map (·.t)).take (k + 1)) (setSite W i (knowsS (W.S i) o v0 v1 v2 v3)) = sendW (sendsW o ((kept.map (·.t)).take k) (setSite W i (knowsS (W.S i) o v0 v1 v2 v3))) ⟨o, .tx ⟨site, seq, wall, count, d0, d1, d2, d3, tws⟩⟩) := HT.out.trans (if_neg hs)
        have S2 : Hid (Sent w3 b M Gs2 (fun q => w3.heap.size ≤ q) (sendsW o ((kept.map (·.t)).take k) (setSite W i (knowsS (W.S i) o v0 v1 v2 v3))) (wr.alloc (.cells #[.int .i64 site, .int .i64 seq, .int .i64 wall, .int .i64 count, .int .i64 d0, .int .i64 d1, .int .i64 d2, .int .i64 d3, .slice ta tws.length tc] 102))) := HS.out.next (fun nv l hP => Sent.none hP bx _)
        obtain ⟨nv', l', h1, h2, h3, tt⟩ := S2.out
        have SX : Hid (Calls Tryz.prog 208 #[.pointer (some ⟨b, 0, none⟩), .int .i64 o, .agg #[.int .i64 site, .int .i64 seq, .int .i64 wall, .int .i64 count, .int .i64 d0, .int .i64 d1, .int .i64 d2, .int .i64 d3, .slice ta tws.length tc]] (wr.alloc (.cells #[.int .i64 site, .int .i64 seq, .int .i64 wall, .int .i64 count, .int .i64 d0, .int .i64 d1, .int .i64 d2, .int .i64 d3, .slice ta tws.length tc] 102)) fun e w' => e = .returned (.tuple #[]) ∧ Sent (wr.alloc (.cells #[.int .i64 site, .int .i64 seq, .int .i64 wall, .int .i64 count, .int .i64 d0, .int .i64 d1, .int .i64 d2, .int .i64 d3, .slice ta tws.length tc] 102)) b { M with nv := nv', l := l' } Gs2 (fun k => (wr.alloc (.cells #[.int .i64 site, .int .i64 seq, .int .i64 wall, .int .i64 count, .int .i64 d0, .int .i64 d1, .int .i64 d2, .int .i64 d3, .slice ta tws.length tc] 102)).heap.size ≤ k) (sendW (sendsW o ((kept.map (·.t)).take k) (setSite W i (knowsS (W.S i) o v0 v1 v2 v3))) ⟨o, .tx ⟨site, seq, wall, count, d0, d1, d2, d3, tws⟩⟩) w') := pwo_sendTx o site seq wall count d0 d1 d2 d3 tws ta tc _ h1 (hWr.out.later bx) hok.out
        have HP : Hid (PWo (wr.alloc (.cells #[.int .i64 site, .int .i64 seq, .int .i64 wall, .int .i64 count, .int .i64 d0, .int .i64 d1, .int .i64 d2, .int .i64 d3, .slice ta tws.length tc] 102)) b { M with nv := nv', l := l' } (sendsW o ((kept.map (·.t)).take k) (setSite W i (knowsS (W.S i) o v0 v1 v2 v3))) Gs2 ∧ (∀ k, nv'.ownBlock = some k → M.nv.ownBlock = some k ∨ w3.heap.size ≤ k) ∧ (∀ x ∈ l', x ∈ M.l ∨ w3.heap.size ≤ x.blk) ∧ Touch (fun k => k = b ∨ M.nv.ownBlock = some k) w3 (wr.alloc (.cells #[.int .i64 site, .int .i64 seq, .int .i64 wall, .int .i64 count, .int .i64 d0, .int .i64 d1, .int .i64 d2, .int .i64 d3, .slice ta tws.length tc] 102))) := ⟨h1, h2, h3, tt⟩
        clear h1 h2 h3 tt
        go_wp2_with fail
        refine SX.out.mono ?_
        rintro e w5 ⟨rfl, hS⟩
        have SN : Hid (Sent w3 b M Gs2 (fun q => w3.heap.size ≤ q) (sendW (sendsW o ((kept.map (·.t)).take k) (setSite W i (knowsS (W.S i) o v0 v1 v2 v3))) ⟨o, .tx ⟨site, seq, wall, count, d0, d1, d2, d3, tws⟩⟩) w5) := by
          obtain ⟨h1, h2, h3, tt⟩ := HP.out
          obtain ⟨nv2, l2, g1', g2', g3', gt⟩ := hS
          have s := tt.size
          refine ⟨nv2, l2, g1', fun q e => ?_, fun x hx => ?_, ?_⟩
          · rcases g2' q e with r | r
            · exact h2 q r
            · exact .inr (by omega)
          · rcases g3' x hx with r | r
            · exact h3 x r
            · exact .inr (by omega)
          · refine ⟨gt.os.trans tt.os, gt.tape.trans tt.tape, gt.output.trans tt.output, Nat.le_trans s gt.size, fun q hq hn => ?_⟩
            refine (gt.block q (by omega) (fun e => ?_)).trans (tt.block q hq hn)
            rcases e with e | e
            · exact hn (.inl e)
            · rcases h2 q e with r | r
              · exact hn (.inr r)
              · omega
        clear SX HP S2 x0 x1 x2 x3 x4 x5 x6 x7 x8 t0 t1 t2 t3 t4 t5 t6 t7 t8 RX
        go_wp2_with fail
        go_roundw
        case rel => exact ⟨k + 1, z + 1, by omega, by have := HZ.out; omega, by go_num, by show Sent _ _ _ _ _ _ _; rw [HT2.out]; exact SN.out⟩
        case measure => simp [intOf]; have := HZ.out; omega
    · have g1 : ¬ z < (kept.length : Int) := by omega
      have e : k = kept.length := by omega
      go_wp2_with fail
      go_end0
      have S9 := HS.out
      rw [e, show ((kept.map (·.t)).take kept.length) = missP (W.S i) v0 v1 v2 v3 by rw [← HM.out.2.1]; exact List.take_of_length_le (by simp)] at S9
      have sm := sendsW_same o (missP (W.S i) v0 v1 v2 v3) (setSite W i (knowsS (W.S i) o v0 v1 v2 v3))
      have P1 : PWPo w2 b (allG b M (W.n + W.c) Gs2) (answerW W i o v0 v1 v2 v3) wr := (S9.from HM.out.2.2.2.2.2).post (W := W) (fun _ => Iff.rfl) sm.n sm.c (fun k hk => .inr (Nat.le_trans HM.out.2.2.2.2.2.size hk))
      obtain ⟨G5, k1, k2, kt⟩ := P1
      have s1 := HK.out.2.2.size
      have s0 : (w.alloc (.cells #[.int .i64 v0, .int .i64 v1, .int .i64 v2, .int .i64 v3] 77)).heap.size = w.heap.size + 1 := by simp
      refine ⟨rfl, G5, k1, fun q hq => ?_, ?_⟩
      · rcases k2 q hq with (r | ⟨j, hj, r⟩) | r
        · exact .inl ((HH.out.2.1 q).2 (.inl r))
        · rcases HK.out.2.1 j q r with r2 | r2
          · exact .inl ((HH.out.2.1 q).2 (.inr ⟨j, hj, r2⟩))
          · exact .inr r2
        · exact .inr (by omega)
      · refine ⟨kt.os.trans HK.out.2.2.os, kt.tape.trans HK.out.2.2.tape, kt.output.trans HK.out.2.2.output, by have := kt.size; omega, fun q hq hn => ?_⟩
        refine (kt.block q (by omega) (fun r => ?_)).trans ((HK.out.2.2.block q (by omega) (fun r => hn ((HH.out.2.1 q).2 (.inr ⟨i, by have := HH.out.2.2.2; omega, r⟩)))).trans (HR.out.2.1.block q hq))
        rcases r with r | ⟨j, hj, r⟩
        · exact hn ((HH.out.2.1 q).2 (.inl r))
        · rcases HK.out.2.1 j q r with r2 | r2
          · exact hn ((HH.out.2.1 q).2 (.inr ⟨j, hj, r2⟩))
          · omega
end Go.Proofs.YtoanjdndmlffdaaGreatDoor
