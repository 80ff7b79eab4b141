import Derived.Test.YtoanjdndmlffdaaGreatDoorWoE
namespace Go.Proofs.YtoanjdndmlffdaaGreatDoor
open Go.RowKit
/-- what comes of it -/
def Came1 (w : World) (b : Nat) (G : Nat → Prop) (W : WoS) (g : GrS) (e : Ending) (w' : World) : Prop := e = .returned (.tuple #[]) ∧ ∃ W', Hid (ComeTo W g W') ∧ PWPo w b G W' w'
set_option maxRecDepth 100000 in
set_option maxHeartbeats 4000000 in
theorem come_tx {b : Nat} {G : Nat → Prop} {W : WoS} (site seq wall count d0 d1 d2 d3 : Int) (ws : List Wr) (to g cap : Nat) (S : ByteArray) (w : World) (h : PW w b G W) (hw : WfW W) (hO : Own w 0 g cap S) (hs : S.size ≤ 1000000) (hg : Good (toL S) ⟨site, seq, wall, count, d0, d1, d2, d3, ws⟩) (ht : to < W.n) :
    Calls Tryz.prog 154 #[.pointer (some ⟨b, 0, none⟩), .agg #[.int .i64 to, .slice (some ⟨g, 0, none⟩) S.size cap]] w (Came1 w b G W ⟨to, .tx ⟨site, seq, wall, count, d0, d1, d2, d3, ws⟩⟩) := by
  obtain ⟨M, Gs, h, hG⟩ := h
  have hb1 := boxed (Below.refl _ w) (.cells #[.int .i64 to, .slice (some ⟨g, 0, none⟩) S.size cap] 205)
  have RD := RowL.new (w := w) (T := 205) [.int .i64 to, .slice (some ⟨g, 0, none⟩) S.size cap] rfl
  change RowL (w.alloc (.cells #[.int .i64 to, .slice (some ⟨g, 0, none⟩) S.size cap] 205)) w.heap.size [.int .i64 to, .slice (some ⟨g, 0, none⟩) S.size cap] at RD
  have DC := decTx_good hg (some ⟨g, 0, none⟩) S.size cap (toL_length S) _ (hO.later hb1).all hO.room hs
  have HH : Hid (PWo w b M W Gs ∧ (∀ k, G k ↔ allG b M (W.n + W.c) Gs k) ∧ WfW W ∧ to < W.n ∧ RowL (w.alloc (.cells #[.int .i64 to, .slice (some ⟨g, 0, none⟩) S.size cap] 205)) w.heap.size [.int .i64 to, .slice (some ⟨g, 0, none⟩) S.size cap]) := ⟨h, hG, hw, ht, RD⟩
  have z1 := RD.cell 1 _ rfl
  clear h hG hw RD hO hg
  go_enter Tryz.func154, Tryz.ntmps154
  go_wp2_with fail
  refine DC.mono ?_
  rintro e w2 ⟨a2, c2, rfl, hW2, hb2⟩
  simp only at hW2 ⊢
  have bx := boxed (Below.refl _ w2) (.cells #[.int .i64 site, .int .i64 seq, .int .i64 wall, .int .i64 count, .int .i64 d0, .int .i64 d1, .int .i64 d2, .int .i64 d3, .slice a2 ws.length c2] 102)
  have hbw := (behind (behind hb1 hb2) bx)
  have hbd := hbw.drew
  have H3 := HH.out.1.later hbw
  obtain ⟨pb, pc, c0, hpc, hpb, y0, y1⟩ := H3.place HH.out.2.2.2.1
  have RX := RowL.new (w := w2) (T := 102) [.int .i64 site, .int .i64 seq, .int .i64 wall, .int .i64 count, .int .i64 d0, .int .i64 d1, .int .i64 d2, .int .i64 d3, .slice a2 ws.length c2] rfl
  change RowL (w2.alloc (.cells #[.int .i64 site, .int .i64 seq, .int .i64 wall, .int .i64 count, .int .i64 d0, .int .i64 d1, .int .i64 d2, .int .i64 d3, .slice a2 ws.length c2] 102)) w2.heap.size [.int .i64 site, .int .i64 seq, .int .i64 wall, .int .i64 count, .int .i64 d0, .int .i64 d1, .int .i64 d2, .int .i64 d3, .slice a2 ws.length c2] at RX
  have RD3 := (HH.out.2.2.2.2.later hb2).later bx
  have TK : Hid (Calls Tryz.prog 210 #[.pointer (some ⟨M.bp to, 0, none⟩), .agg #[.int .i64 site, .int .i64 seq, .int .i64 wall, .int .i64 count, .int .i64 d0, .int .i64 d1, .int .i64 d2, .int .i64 d3, .slice a2 ws.length c2]] (w2.alloc (.cells #[.int .i64 site, .int .i64 seq, .int .i64 wall, .int .i64 count, .int .i64 d0, .int .i64 d1, .int .i64 d2, .int .i64 d3, .slice a2 ws.length c2] 102)).drew fun e w' => ∃ v, e = .returned v ∧ ∃ S', TakesTo (W.S to) ⟨site, seq, wall, count, d0, d1, d2, d3, ws⟩ S' ∧ PPo (w2.alloc (.cells #[.int .i64 site, .int .i64 seq, .int .i64 wall, .int .i64 count, .int .i64 d0, .int .i64 d1, .int .i64 d2, .int .i64 d3, .slice a2 ws.length c2] 102)).drew (M.bp to) (Gs to) S' w') :=
    (take_site ⟨⟨site, seq, wall, count, d0, d1, d2, d3, ws⟩, a2, c2⟩ _ ((HH.out.1.later hbd).site HH.out.2.2.2.1) (HH.out.2.2.1.inv to HH.out.2.2.2.1) (Nat.le_trans (HH.out.2.2.1.wt to HH.out.2.2.2.1) (by omega)) (hW2.later bx.drew)).mono fun e w' ⟨he, S', hT, hp⟩ => ⟨_, he, S', hT, hp⟩
  have q1 : (to : Int) < (W.n : Int) := by have := HH.out.2.2.2.1; omega
  have hlt := H3.box.lt
  have d0_ := RD3.cell 0 _ rfl
  have t0 := RX.cell 0 _ rfl
  have t1 := RX.cell 1 _ rfl
  have t2 := RX.cell 2 _ rfl
  have t3 := RX.cell 3 _ rfl
  have t4 := RX.cell 4 _ rfl
  have t5 := RX.cell 5 _ rfl
  have t6 := RX.cell 6 _ rfl
  have t7 := RX.cell 7 _ rfl
  have t8 := RX.cell 8 _ rfl
  have l1 := RD3.lt
  have l2 := RX.lt
  clear DC H3 RX RD3 z1
  go_wp2_with fail
  go_region_law (refine step_call rfl 210 #[.pointer (some ⟨M.bp to, 0, none⟩), .agg #[.int .i64 site, .int .i64 seq, .int .i64 wall, .int .i64 count, .int .i64 d0, .int .i64 d1, .int .i64 d2, .int .i64 d3, .slice a2 ws.length c2]] (by go_simp) TK.out ?_
                 rintro e w4 ⟨v4, rfl, S', hT, hp⟩
                 refine ⟨_, rfl, ?_⟩)
  all_goals
    go_wp2_with fail
    refine bodyPost_ret (v := .tuple #[]) (results_none rfl _ _ _) rfl ?_
    exact ⟨rfl, _, ⟨S', hT, rfl⟩, PWPo.from hbd ((HH.out.1.later hbd).stepS HH.out.2.1 HH.out.2.2.2.1 hp)⟩
set_option maxRecDepth 100000 in
set_option maxHeartbeats 4000000 in
theorem come_ask {b : Nat} {G : Nat → Prop} {W : WoS} (site v0 v1 v2 v3 : Int) (to g cap : Nat) (S : ByteArray) (w : World) (h : PW w b G W) (hw : WfW W) (hO : Own w 0 g cap S) (hs : S.size ≤ 1000000) (hg : GoodAsk (toL S) ⟨site, v0, v1, v2, v3⟩) (ht : to < W.n) :
    Calls Tryz.prog 154 #[.pointer (some ⟨b, 0, none⟩), .agg #[.int .i64 to, .slice (some ⟨g, 0, none⟩) S.size cap]] w (Came1 w b G W ⟨to, .ask site v0 v1 v2 v3⟩) := by
  obtain ⟨M, Gs, h, hG⟩ := h
  have hb1 := boxed (Below.refl _ w) (.cells #[.int .i64 to, .slice (some ⟨g, 0, none⟩) S.size cap] 205)
  have RD := RowL.new (w := w) (T := 205) [.int .i64 to, .slice (some ⟨g, 0, none⟩) S.size cap] rfl
  change RowL (w.alloc (.cells #[.int .i64 to, .slice (some ⟨g, 0, none⟩) S.size cap] 205)) w.heap.size [.int .i64 to, .slice (some ⟨g, 0, none⟩) S.size cap] at RD
  have DC := decTx_bad (fun x hx => tx_not_ask hx hg) (some ⟨g, 0, none⟩) S.size cap (toL_length S) _ (hO.later hb1).all hO.room hs
  have HH : Hid (PWo w b M W Gs ∧ (∀ k, G k ↔ allG b M (W.n + W.c) Gs k) ∧ WfW W ∧ to < W.n ∧ RowL (w.alloc (.cells #[.int .i64 to, .slice (some ⟨g, 0, none⟩) S.size cap] 205)) w.heap.size [.int .i64 to, .slice (some ⟨g, 0, none⟩) S.size cap] ∧ Own w 0 g cap S ∧ S.size ≤ 1000000 ∧ GoodAsk (toL S) ⟨site, v0, v1, v2, v3⟩) := ⟨h, hG, hw, ht, RD, hO, hs, hg⟩
  have z1 := RD.cell 1 _ rfl
  clear h hG hw RD hO hg hs
  go_enter Tryz.func154, Tryz.ntmps154
  go_wp2_with fail
  refine DC.mono ?_
  rintro e w2 ⟨rfl, hb2⟩
  have bx := boxed (Below.refl _ w2) (.cells #[.int .i64 0, .int .i64 0, .int .i64 0, .int .i64 0, .int .i64 0, .int .i64 0, .int .i64 0, .int .i64 0, .slice none 0 0] 102)
  have hbw := (behind (behind hb1 hb2) bx)
  have RD3 := (HH.out.2.2.2.2.1.later hb2).later bx
  have DA := decAsk_good HH.out.2.2.2.2.2.2.2 (some ⟨g, 0, none⟩) S.size cap (toL_length S) _ (HH.out.2.2.2.2.2.1.later hbw).all HH.out.2.2.2.2.2.1.room HH.out.2.2.2.2.2.2.1
  have e1 := RD3.cell 1 _ rfl
  have l1 := RD3.lt
  have HD3 : Hid (RowL (w2.alloc (.cells #[.int .i64 0, .int .i64 0, .int .i64 0, .int .i64 0, .int .i64 0, .int .i64 0, .int .i64 0, .int .i64 0, .slice none 0 0] 102)) w.heap.size [.int .i64 to, .slice (some ⟨g, 0, none⟩) S.size cap] ∧ Below w.heap.size w (w2.alloc (.cells #[.int .i64 0, .int .i64 0, .int .i64 0, .int .i64 0, .int .i64 0, .int .i64 0, .int .i64 0, .int .i64 0, .slice none 0 0] 102))) := ⟨RD3, hbw⟩
  clear DC z1 RD3
  go_wp2_with fail
  refine DA.mono ?_
  rintro e w4 ⟨rfl, hb4⟩
  simp only
  have bv := boxed (Below.refl _ w4) (.cells #[.int .i64 v0, .int .i64 v1, .int .i64 v2, .int .i64 v3] 77)
  have hb5 := behind (behind HD3.out.2 hb4) bv
  have RD5 := (HD3.out.1.later hb4).later bv
  have RV := RowL.new (w := w4) (T := 77) [.int .i64 v0, .int .i64 v1, .int .i64 v2, .int .i64 v3] rfl
  change RowL (w4.alloc (.cells #[.int .i64 v0, .int .i64 v1, .int .i64 v2, .int .i64 v3] 77)) w4.heap.size [.int .i64 v0, .int .i64 v1, .int .i64 v2, .int .i64 v3] at RV
  have H5 := HH.out.1.later hb5
  obtain ⟨pb, pc, c0, hpc, hpb, y0, y1⟩ := H5.place HH.out.2.2.2.1
  have hlt := H5.box.lt
  by_cases hsite : 0 ≤ site ∧ site < (W.n : Int)
  · obtain ⟨o, ho⟩ : ∃ o : Nat, (o : Int) = site := ⟨site.toNat, by omega⟩
    subst ho
    have hon : o < W.n := by omega
    have IS := wIsSite_is (k := o) (v := true) _ c0 (by simp; omega)
    have AN := pw_answer v0 v1 v2 v3 _ (PW.later (w' := w4.alloc (.cells #[.int .i64 v0, .int .i64 v1, .int .i64 v2, .int .i64 v3] 77)) ⟨M, Gs, HH.out.1, HH.out.2.1⟩ hb5) HH.out.2.2.1 HH.out.2.2.2.1 hon
    have s0 := RD5.cell 0 _ rfl
    have t0 := RV.cell 0 _ rfl
    have t1 := RV.cell 1 _ rfl
    have t2 := RV.cell 2 _ rfl
    have t3 := RV.cell 3 _ rfl
    have HE : Hid (∀ W', W' = answerW W to o v0 v1 v2 v3 → ComeTo W ⟨to, .ask o v0 v1 v2 v3⟩ W') := fun W' e => by
      show (if 0 ≤ (o : Int) ∧ (o : Int) < (W.n : Int) then W' = answerW W to (o : Int).toNat v0 v1 v2 v3 else W' = W)
      rw [if_pos hsite, show ((o : Int)).toNat = o by omega]
      exact e
    clear DA H5 RV RD5 hsite
    go_wp2_with fail
    refine IS.mono ?_
    rintro e w6 ⟨rfl, hw6⟩
    have hw7 := hw6.symm
    clear hw6 IS
    subst hw7
    go_wp2_with fail
    refine AN.mono ?_
    rintro e w7 ⟨rfl, hp⟩
    go_wp2_with fail
    go_end0
    exact ⟨rfl, _, HE.out _ rfl, PWPo.from hb5 hp⟩
  · have IS := wIsSite_is (k := site) (v := false) _ c0 (by
      have : ¬ (0 ≤ site) ∨ ¬ (site < (W.n : Int)) := by omega
      rcases this with q | q <;> simp [q])
    have HE : Hid (ComeTo W ⟨to, .ask site v0 v1 v2 v3⟩ W) := by
      show (if 0 ≤ site ∧ site < (W.n : Int) then W = answerW W to site.toNat v0 v1 v2 v3 else W = W)
      rw [if_neg hsite]
    have s0 := RD5.cell 0 _ rfl
    clear DA H5 RV RD5 hsite
    go_wp2_with fail
    refine IS.mono ?_
    rintro e w6 ⟨rfl, hw6⟩
    have hw7 := hw6.symm
    clear hw6 IS
    subst hw7
    go_wp2_with fail
    go_end0
    exact ⟨rfl, W, HE, PWPo.same ⟨M, Gs, HH.out.1, HH.out.2.1⟩ hb5⟩
theorem pw_come {b : Nat} {G : Nat → Prop} {W : WoS} (m : GrM) (w : World) (h : PW w b G W) (hw : WfW W) (hm : m.Ok w) (ht : m.g.to < W.n) :
    Calls Tryz.prog 154 #[.pointer (some ⟨b, 0, none⟩), .agg #[.int .i64 m.g.to, .slice (some ⟨m.blk, 0, none⟩) m.S.size m.cap]] w (Came1 w b G W m.g) := by
  obtain ⟨⟨to, body⟩, g, cap, S⟩ := m
  cases body with
  | tx t => exact come_tx t.site t.seq t.wall t.count t.d0 t.d1 t.d2 t.d3 t.ws to g cap S w h hw hm.own hm.size hm.is ht
  | ask site v0 v1 v2 v3 => exact come_ask site v0 v1 v2 v3 to g cap S w h hw hm.own hm.size hm.is ht
end Go.Proofs.YtoanjdndmlffdaaGreatDoor
