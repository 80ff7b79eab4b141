import Derived.Test.YtoanjdndmlffdaaGreatDoorSiteK
namespace Go.Proofs.YtoanjdndmlffdaaGreatDoor
open Go.RowKit
set_option maxRecDepth 100000
set_option maxHeartbeats 4000000
section
variable {cb mb b j cap : Nat} {Gw G : Nat → Prop} {W : WoS} {a : Option Addr} {l : List ByteArray}
theorem do_abort (w : World) (h : DoPre w cb mb b Gw G W j a cap l) : Calls Tryz.prog 46 #[.pointer (some ⟨cb, 0, none⟩), .slice a l.length cap] w (DoPost 0 W l w cb mb G) := by
  have HH : Hid (DoPre w cb mb b Gw G W j a cap l) := h
  have N1 := fun w' hb => one_any h.sm w' (h.gl.later (w' := w') hb) (h.st.later hb)
  replace N1 := N1 w.drew (Below.refl _ w).drew
  have c0 := h.ck.cell0
  clear h
  go_enter Tryz.func46, Tryz.ntmps46
  go_wp2
  refine wp_region_any (by kernel_rfl) ?_
  change wpAny _ _ _ _ _ _ _ (World.drew _)
  refine wpAny_take (i := 0) (v := ?_) rfl (by kernel_rfl) (by kernel_rfl) (by kernel_rfl) (fun _ _ _ h => h) (Or.inl ⟨by rfl, ?_⟩) ?_
  rotate_left
  · intro w0; first | (go_simp; done) | (go_simp; with_reducible rfl)
  go_simp
  refine wpAny_take (i := 1) (v := ?_) rfl (by kernel_rfl) (by kernel_rfl) (by kernel_rfl) (fun _ _ _ h => h) (Or.inl ⟨by rfl, ?_⟩) ?_
  rotate_left
  · intro w0; first | (go_simp; done) | (go_simp; with_reducible rfl)
  go_simp
  refine wpAny_take (i := 2) (v := ?_) rfl (by kernel_rfl) (by kernel_rfl) (by kernel_rfl) (fun _ _ _ h => h) (Or.inl ⟨by rfl, ?_⟩) ?_
  rotate_left
  · intro w0; first | (go_simp; done) | (go_simp; with_reducible rfl)
  go_simp
  refine wpAny_take (i := 4) (v := ?_) rfl (by kernel_rfl) (by kernel_rfl) (by kernel_rfl) (fun _ _ _ h => h) (Or.inl ⟨by rfl, ?_⟩) ?_
  rotate_left
  · intro w0; first | (go_simp; done) | (go_simp; with_reducible rfl)
  go_simp
  refine wpAny_ready (rs := [3, 5]) (by kernel_rfl) (by simp) ?_
  refine AllReady.cons rfl (fun K hK => ?_) (AllReady.cons rfl (fun K hK => ?_) AllReady.nil)
  dsimp only [List.getElem_toArray, List.getElem_cons_succ, List.getElem_cons_zero]
  go_simp
  refine hK _ _ ?_
  clear hK K
  refine wpAny_ready (rs := [5]) (by kernel_rfl) (by simp) ?_
  refine AllReady.cons rfl (fun K hK => ?_) AllReady.nil
  dsimp only [List.getElem_toArray, List.getElem_cons_succ, List.getElem_cons_zero]
  rw [if_pos (by rfl)]
  refine wp_callP 95 #[.slice a l.length cap] (by go_simp) N1 ?_
  rintro e w1 ⟨hb1, (⟨v, hv, rfl⟩ | ⟨hv, rfl⟩)⟩
  rotate_left
  · exact .inr ⟨_, rfl, rfl, HH.out.no (by decide) hv.out (behind (Below.refl _ w).drew hb1)⟩
  dsimp only [List.getElem_toArray, List.getElem_cons_succ, List.getElem_cons_zero]
  rw [if_pos (by rfl)]
  refine wp_callP 95 #[.slice a l.length cap] (by go_simp) N1 ?_
  rintro e w1 ⟨hb1, (⟨v, hv, rfl⟩ | ⟨hv, rfl⟩)⟩
  rotate_left
  · exact .inr ⟨_, rfl, rfl, HH.out.no (by decide) hv.out (behind (Below.refl _ w).drew hb1)⟩
  all_goals
    have hbw := behind (Below.refl _ w).drew hb1
    have c1 := (HH.out.ck.later hbw).cell0
    have OP := op_abort v w1 (HH.out.ck.later hbw).pw
    refine .inl ⟨_, rfl, ?_⟩
    go_simp
    refine hK _ _ ?_
    clear hK K
  rotate_left
  refine wpAny_ready (rs := [3]) (by kernel_rfl) (by simp) ?_
  refine AllReady.cons rfl (fun K hK => ?_) AllReady.nil
  dsimp only [List.getElem_toArray, List.getElem_cons_succ, List.getElem_cons_zero]
  go_simp
  refine hK _ _ ?_
  clear hK K
  all_goals
    refine wpAny_ready (rs := [6]) (by kernel_rfl) (by simp) ?_
    refine AllReady.cons rfl (fun K hK => ?_) AllReady.nil
    dsimp only [List.getElem_toArray, List.getElem_cons_succ, List.getElem_cons_zero]
    rw [if_pos (by rfl)]
    refine wp_callP 94 #[.pointer (some ⟨b, 0, none⟩), .int .i64 v] (by go_simp) OP ?_
    rintro e w2 ⟨W', er, hc, rfl, hp⟩
    have MU := must_any er w2 (HH.out.gl2 hbw hp)
    have HC : Hid (∀ e w3, Below w2.heap.size w2 w3 → EndIs er (nameOf 0) e → DoPost 0 W l w cb mb G e w3) := fun e w3 hb3 he => HH.out.yes (by decide) hv.out hbw (hc.data (by decide)) hp hb3 he
    clear hc hp c1 c0 OP
    refine .inl ⟨_, rfl, ?_⟩
    go_simp
    refine hK _ _ ?_
    clear hK K
    refine wpAny_ready (rs := [7]) (by kernel_rfl) (by simp) ?_
    refine AllReady.cons rfl (fun K hK => ?_) AllReady.nil
    dsimp only [List.getElem_toArray, List.getElem_cons_succ, List.getElem_cons_zero]
    rw [if_pos (by rfl)]
    refine wp_callP 66 #[errV er] (by go_simp) MU ?_
    rintro e w3 ⟨hb3, (⟨h0, rfl⟩ | ⟨h0, rfl⟩)⟩
    rotate_left
    · exact .inr ⟨_, rfl, rfl, HC.out _ _ hb3 (.inr ⟨h0, rfl⟩)⟩
    have HF := HC.out _ _ hb3 (.inl ⟨h0, rfl⟩)
    clear h0 HC MU
    refine .inl ⟨_, rfl, ?_⟩
    go_simp
    refine hK _ _ ?_
    clear hK K
    refine wpAny_done (by kernel_rfl) ?_ _
    go_wp2
    go_ret
    exact HF
theorem do_begin (w : World) (h : DoPre w cb mb b Gw G W j a cap l) : Calls Tryz.prog 48 #[.pointer (some ⟨cb, 0, none⟩), .slice a l.length cap] w (DoPost 2 W l w cb mb G) := by
  have HH : Hid (DoPre w cb mb b Gw G W j a cap l) := h
  have N1 := fun w' hb => one_any h.sm w' (h.gl.later (w' := w') hb) (h.st.later hb)
  replace N1 := N1 w.drew (Below.refl _ w).drew
  have c0 := h.ck.cell0
  clear h
  go_enter Tryz.func48, Tryz.ntmps48
  go_wp2
  refine wp_region_any (by kernel_rfl) ?_
  change wpAny _ _ _ _ _ _ _ (World.drew _)
  refine wpAny_take (i := 0) (v := ?_) rfl (by kernel_rfl) (by kernel_rfl) (by kernel_rfl) (fun _ _ _ h => h) (Or.inl ⟨by rfl, ?_⟩) ?_
  rotate_left
  · intro w0; first | (go_simp; done) | (go_simp; with_reducible rfl)
  go_simp
  refine wpAny_take (i := 1) (v := ?_) rfl (by kernel_rfl) (by kernel_rfl) (by kernel_rfl) (fun _ _ _ h => h) (Or.inl ⟨by rfl, ?_⟩) ?_
  rotate_left
  · intro w0; first | (go_simp; done) | (go_simp; with_reducible rfl)
  go_simp
  refine wpAny_take (i := 2) (v := ?_) rfl (by kernel_rfl) (by kernel_rfl) (by kernel_rfl) (fun _ _ _ h => h) (Or.inl ⟨by rfl, ?_⟩) ?_
  rotate_left
  · intro w0; first | (go_simp; done) | (go_simp; with_reducible rfl)
  go_simp
  refine wpAny_take (i := 4) (v := ?_) rfl (by kernel_rfl) (by kernel_rfl) (by kernel_rfl) (fun _ _ _ h => h) (Or.inl ⟨by rfl, ?_⟩) ?_
  rotate_left
  · intro w0; first | (go_simp; done) | (go_simp; with_reducible rfl)
  go_simp
  refine wpAny_ready (rs := [3, 5]) (by kernel_rfl) (by simp) ?_
  refine AllReady.cons rfl (fun K hK => ?_) (AllReady.cons rfl (fun K hK => ?_) AllReady.nil)
  dsimp only [List.getElem_toArray, List.getElem_cons_succ, List.getElem_cons_zero]
  go_simp
  refine hK _ _ ?_
  clear hK K
  refine wpAny_ready (rs := [5]) (by kernel_rfl) (by simp) ?_
  refine AllReady.cons rfl (fun K hK => ?_) AllReady.nil
  dsimp only [List.getElem_toArray, List.getElem_cons_succ, List.getElem_cons_zero]
  rw [if_pos (by rfl)]
  refine wp_callP 95 #[.slice a l.length cap] (by go_simp) N1 ?_
  rintro e w1 ⟨hb1, (⟨v, hv, rfl⟩ | ⟨hv, rfl⟩)⟩
  rotate_left
  · exact .inr ⟨_, rfl, rfl, HH.out.no (by decide) hv.out (behind (Below.refl _ w).drew hb1)⟩
  dsimp only [List.getElem_toArray, List.getElem_cons_succ, List.getElem_cons_zero]
  rw [if_pos (by rfl)]
  refine wp_callP 95 #[.slice a l.length cap] (by go_simp) N1 ?_
  rintro e w1 ⟨hb1, (⟨v, hv, rfl⟩ | ⟨hv, rfl⟩)⟩
  rotate_left
  · exact .inr ⟨_, rfl, rfl, HH.out.no (by decide) hv.out (behind (Below.refl _ w).drew hb1)⟩
  all_goals
    have hbw := behind (Below.refl _ w).drew hb1
    have c1 := (HH.out.ck.later hbw).cell0
    have OP := op_begin v w1 (HH.out.ck.later hbw).pw HH.out.wi
    refine .inl ⟨_, rfl, ?_⟩
    go_simp
    refine hK _ _ ?_
    clear hK K
  rotate_left
  refine wpAny_ready (rs := [3]) (by kernel_rfl) (by simp) ?_
  refine AllReady.cons rfl (fun K hK => ?_) AllReady.nil
  dsimp only [List.getElem_toArray, List.getElem_cons_succ, List.getElem_cons_zero]
  go_simp
  refine hK _ _ ?_
  clear hK K
  all_goals
    refine wpAny_ready (rs := [6]) (by kernel_rfl) (by simp) ?_
    refine AllReady.cons rfl (fun K hK => ?_) AllReady.nil
    dsimp only [List.getElem_toArray, List.getElem_cons_succ, List.getElem_cons_zero]
    rw [if_pos (by rfl)]
    refine wp_callP 98 #[.pointer (some ⟨b, 0, none⟩), .int .i64 v] (by go_simp) OP ?_
    rintro e w2 ⟨W', er, hc, rfl, hp⟩
    have MU := must_any er w2 (HH.out.gl2 hbw hp)
    have HC : Hid (∀ e w3, Below w2.heap.size w2 w3 → EndIs er (nameOf 2) e → DoPost 2 W l w cb mb G e w3) := fun e w3 hb3 he => HH.out.yes (by decide) hv.out hbw (hc.data (by decide)) hp hb3 he
    clear hc hp c1 c0 OP
    refine .inl ⟨_, rfl, ?_⟩
    go_simp
    refine hK _ _ ?_
    clear hK K
    refine wpAny_ready (rs := [7]) (by kernel_rfl) (by simp) ?_
    refine AllReady.cons rfl (fun K hK => ?_) AllReady.nil
    dsimp only [List.getElem_toArray, List.getElem_cons_succ, List.getElem_cons_zero]
    rw [if_pos (by rfl)]
    refine wp_callP 66 #[errV er] (by go_simp) MU ?_
    rintro e w3 ⟨hb3, (⟨h0, rfl⟩ | ⟨h0, rfl⟩)⟩
    rotate_left
    · exact .inr ⟨_, rfl, rfl, HC.out _ _ hb3 (.inr ⟨h0, rfl⟩)⟩
    have HF := HC.out _ _ hb3 (.inl ⟨h0, rfl⟩)
    clear h0 HC MU
    refine .inl ⟨_, rfl, ?_⟩
    go_simp
    refine hK _ _ ?_
    clear hK K
    refine wpAny_done (by kernel_rfl) ?_ _
    go_wp2
    go_ret
    exact HF
theorem do_deliver (w : World) (h : DoPre w cb mb b Gw G W j a cap l) : Calls Tryz.prog 52 #[.pointer (some ⟨cb, 0, none⟩), .slice a l.length cap] w (DoPost 6 W l w cb mb G) := by
  have HH : Hid (DoPre w cb mb b Gw G W j a cap l) := h
  have N1 := fun w' hb => one_any h.sm w' (h.gl.later (w' := w') hb) (h.st.later hb)
  replace N1 := N1 w.drew (Below.refl _ w).drew
  have c0 := h.ck.cell0
  clear h
  go_enter Tryz.func52, Tryz.ntmps52
  go_wp2
  refine wp_region_any (by kernel_rfl) ?_
  change wpAny _ _ _ _ _ _ _ (World.drew _)
  refine wpAny_take (i := 0) (v := ?_) rfl (by kernel_rfl) (by kernel_rfl) (by kernel_rfl) (fun _ _ _ h => h) (Or.inl ⟨by rfl, ?_⟩) ?_
  rotate_left
  · intro w0; first | (go_simp; done) | (go_simp; with_reducible rfl)
  go_simp
  refine wpAny_take (i := 1) (v := ?_) rfl (by kernel_rfl) (by kernel_rfl) (by kernel_rfl) (fun _ _ _ h => h) (Or.inl ⟨by rfl, ?_⟩) ?_
  rotate_left
  · intro w0; first | (go_simp; done) | (go_simp; with_reducible rfl)
  go_simp
  refine wpAny_take (i := 2) (v := ?_) rfl (by kernel_rfl) (by kernel_rfl) (by kernel_rfl) (fun _ _ _ h => h) (Or.inl ⟨by rfl, ?_⟩) ?_
  rotate_left
  · intro w0; first | (go_simp; done) | (go_simp; with_reducible rfl)
  go_simp
  refine wpAny_take (i := 4) (v := ?_) rfl (by kernel_rfl) (by kernel_rfl) (by kernel_rfl) (fun _ _ _ h => h) (Or.inl ⟨by rfl, ?_⟩) ?_
  rotate_left
  · intro w0; first | (go_simp; done) | (go_simp; with_reducible rfl)
  go_simp
  refine wpAny_ready (rs := [3, 5]) (by kernel_rfl) (by simp) ?_
  refine AllReady.cons rfl (fun K hK => ?_) (AllReady.cons rfl (fun K hK => ?_) AllReady.nil)
  dsimp only [List.getElem_toArray, List.getElem_cons_succ, List.getElem_cons_zero]
  go_simp
  refine hK _ _ ?_
  clear hK K
  refine wpAny_ready (rs := [5]) (by kernel_rfl) (by simp) ?_
  refine AllReady.cons rfl (fun K hK => ?_) AllReady.nil
  dsimp only [List.getElem_toArray, List.getElem_cons_succ, List.getElem_cons_zero]
  rw [if_pos (by rfl)]
  refine wp_callP 95 #[.slice a l.length cap] (by go_simp) N1 ?_
  rintro e w1 ⟨hb1, (⟨v, hv, rfl⟩ | ⟨hv, rfl⟩)⟩
  rotate_left
  · exact .inr ⟨_, rfl, rfl, HH.out.no (by decide) hv.out (behind (Below.refl _ w).drew hb1)⟩
  dsimp only [List.getElem_toArray, List.getElem_cons_succ, List.getElem_cons_zero]
  rw [if_pos (by rfl)]
  refine wp_callP 95 #[.slice a l.length cap] (by go_simp) N1 ?_
  rintro e w1 ⟨hb1, (⟨v, hv, rfl⟩ | ⟨hv, rfl⟩)⟩
  rotate_left
  · exact .inr ⟨_, rfl, rfl, HH.out.no (by decide) hv.out (behind (Below.refl _ w).drew hb1)⟩
  all_goals
    have hbw := behind (Below.refl _ w).drew hb1
    have c1 := (HH.out.ck.later hbw).cell0
    have OP := op_deliver v w1 (HH.out.ck.later hbw).pw HH.out.wi
    refine .inl ⟨_, rfl, ?_⟩
    go_simp
    refine hK _ _ ?_
    clear hK K
  rotate_left
  refine wpAny_ready (rs := [3]) (by kernel_rfl) (by simp) ?_
  refine AllReady.cons rfl (fun K hK => ?_) AllReady.nil
  dsimp only [List.getElem_toArray, List.getElem_cons_succ, List.getElem_cons_zero]
  go_simp
  refine hK _ _ ?_
  clear hK K
  all_goals
    refine wpAny_ready (rs := [6]) (by kernel_rfl) (by simp) ?_
    refine AllReady.cons rfl (fun K hK => ?_) AllReady.nil
    dsimp only [List.getElem_toArray, List.getElem_cons_succ, List.getElem_cons_zero]
    rw [if_pos (by rfl)]
    refine wp_callP 104 #[.pointer (some ⟨b, 0, none⟩), .int .i64 v] (by go_simp) OP ?_
    rintro e w2 ⟨W', er, hc, rfl, hp⟩
    have MU := must_any er w2 (HH.out.gl2 hbw hp)
    have HC : Hid (∀ e w3, Below w2.heap.size w2 w3 → EndIs er (nameOf 6) e → DoPost 6 W l w cb mb G e w3) := fun e w3 hb3 he => HH.out.yes (by decide) hv.out hbw (hc.data (by decide)) hp hb3 he
    clear hc hp c1 c0 OP
    refine .inl ⟨_, rfl, ?_⟩
    go_simp
    refine hK _ _ ?_
    clear hK K
    refine wpAny_ready (rs := [7]) (by kernel_rfl) (by simp) ?_
    refine AllReady.cons rfl (fun K hK => ?_) AllReady.nil
    dsimp only [List.getElem_toArray, List.getElem_cons_succ, List.getElem_cons_zero]
    rw [if_pos (by rfl)]
    refine wp_callP 66 #[errV er] (by go_simp) MU ?_
    rintro e w3 ⟨hb3, (⟨h0, rfl⟩ | ⟨h0, rfl⟩)⟩
    rotate_left
    · exact .inr ⟨_, rfl, rfl, HC.out _ _ hb3 (.inr ⟨h0, rfl⟩)⟩
    have HF := HC.out _ _ hb3 (.inl ⟨h0, rfl⟩)
    clear h0 HC MU
    refine .inl ⟨_, rfl, ?_⟩
    go_simp
    refine hK _ _ ?_
    clear hK K
    refine wpAny_done (by kernel_rfl) ?_ _
    go_wp2
    go_ret
    exact HF
theorem do_lose (w : World) (h : DoPre w cb mb b Gw G W j a cap l) : Calls Tryz.prog 56 #[.pointer (some ⟨cb, 0, none⟩), .slice a l.length cap] w (DoPost 10 W l w cb mb G) := by
  have HH : Hid (DoPre w cb mb b Gw G W j a cap l) := h
  have N1 := fun w' hb => one_any h.sm w' (h.gl.later (w' := w') hb) (h.st.later hb)
  replace N1 := N1 w.drew (Below.refl _ w).drew
  have c0 := h.ck.cell0
  clear h
  go_enter Tryz.func56, Tryz.ntmps56
  go_wp2
  refine wp_region_any (by kernel_rfl) ?_
  change wpAny _ _ _ _ _ _ _ (World.drew _)
  refine wpAny_take (i := 0) (v := ?_) rfl (by kernel_rfl) (by kernel_rfl) (by kernel_rfl) (fun _ _ _ h => h) (Or.inl ⟨by rfl, ?_⟩) ?_
  rotate_left
  · intro w0; first | (go_simp; done) | (go_simp; with_reducible rfl)
  go_simp
  refine wpAny_take (i := 1) (v := ?_) rfl (by kernel_rfl) (by kernel_rfl) (by kernel_rfl) (fun _ _ _ h => h) (Or.inl ⟨by rfl, ?_⟩) ?_
  rotate_left
  · intro w0; first | (go_simp; done) | (go_simp; with_reducible rfl)
  go_simp
  refine wpAny_take (i := 2) (v := ?_) rfl (by kernel_rfl) (by kernel_rfl) (by kernel_rfl) (fun _ _ _ h => h) (Or.inl ⟨by rfl, ?_⟩) ?_
  rotate_left
  · intro w0; first | (go_simp; done) | (go_simp; with_reducible rfl)
  go_simp
  refine wpAny_take (i := 4) (v := ?_) rfl (by kernel_rfl) (by kernel_rfl) (by kernel_rfl) (fun _ _ _ h => h) (Or.inl ⟨by rfl, ?_⟩) ?_
  rotate_left
  · intro w0; first | (go_simp; done) | (go_simp; with_reducible rfl)
  go_simp
  refine wpAny_ready (rs := [3, 5]) (by kernel_rfl) (by simp) ?_
  refine AllReady.cons rfl (fun K hK => ?_) (AllReady.cons rfl (fun K hK => ?_) AllReady.nil)
  dsimp only [List.getElem_toArray, List.getElem_cons_succ, List.getElem_cons_zero]
  go_simp
  refine hK _ _ ?_
  clear hK K
  refine wpAny_ready (rs := [5]) (by kernel_rfl) (by simp) ?_
  refine AllReady.cons rfl (fun K hK => ?_) AllReady.nil
  dsimp only [List.getElem_toArray, List.getElem_cons_succ, List.getElem_cons_zero]
  rw [if_pos (by rfl)]
  refine wp_callP 95 #[.slice a l.length cap] (by go_simp) N1 ?_
  rintro e w1 ⟨hb1, (⟨v, hv, rfl⟩ | ⟨hv, rfl⟩)⟩
  rotate_left
  · exact .inr ⟨_, rfl, rfl, HH.out.no (by decide) hv.out (behind (Below.refl _ w).drew hb1)⟩
  dsimp only [List.getElem_toArray, List.getElem_cons_succ, List.getElem_cons_zero]
  rw [if_pos (by rfl)]
  refine wp_callP 95 #[.slice a l.length cap] (by go_simp) N1 ?_
  rintro e w1 ⟨hb1, (⟨v, hv, rfl⟩ | ⟨hv, rfl⟩)⟩
  rotate_left
  · exact .inr ⟨_, rfl, rfl, HH.out.no (by decide) hv.out (behind (Below.refl _ w).drew hb1)⟩
  all_goals
    have hbw := behind (Below.refl _ w).drew hb1
    have c1 := (HH.out.ck.later hbw).cell0
    have OP := op_lose v w1 (HH.out.ck.later hbw).pw HH.out.wi
    refine .inl ⟨_, rfl, ?_⟩
    go_simp
    refine hK _ _ ?_
    clear hK K
  rotate_left
  refine wpAny_ready (rs := [3]) (by kernel_rfl) (by simp) ?_
  refine AllReady.cons rfl (fun K hK => ?_) AllReady.nil
  dsimp only [List.getElem_toArray, List.getElem_cons_succ, List.getElem_cons_zero]
  go_simp
  refine hK _ _ ?_
  clear hK K
  all_goals
    refine wpAny_ready (rs := [6]) (by kernel_rfl) (by simp) ?_
    refine AllReady.cons rfl (fun K hK => ?_) AllReady.nil
    dsimp only [List.getElem_toArray, List.getElem_cons_succ, List.getElem_cons_zero]
    rw [if_pos (by rfl)]
    refine wp_callP 109 #[.pointer (some ⟨b, 0, none⟩), .int .i64 v] (by go_simp) OP ?_
    rintro e w2 ⟨W', er, hc, rfl, hp⟩
    have MU := must_any er w2 (HH.out.gl2 hbw hp)
    have HC : Hid (∀ e w3, Below w2.heap.size w2 w3 → EndIs er (nameOf 10) e → DoPost 10 W l w cb mb G e w3) := fun e w3 hb3 he => HH.out.yes (by decide) hv.out hbw (hc.data (by decide)) hp hb3 he
    clear hc hp c1 c0 OP
    refine .inl ⟨_, rfl, ?_⟩
    go_simp
    refine hK _ _ ?_
    clear hK K
    refine wpAny_ready (rs := [7]) (by kernel_rfl) (by simp) ?_
    refine AllReady.cons rfl (fun K hK => ?_) AllReady.nil
    dsimp only [List.getElem_toArray, List.getElem_cons_succ, List.getElem_cons_zero]
    rw [if_pos (by rfl)]
    refine wp_callP 66 #[errV er] (by go_simp) MU ?_
    rintro e w3 ⟨hb3, (⟨h0, rfl⟩ | ⟨h0, rfl⟩)⟩
    rotate_left
    · exact .inr ⟨_, rfl, rfl, HC.out _ _ hb3 (.inr ⟨h0, rfl⟩)⟩
    have HF := HC.out _ _ hb3 (.inl ⟨h0, rfl⟩)
    clear h0 HC MU
    refine .inl ⟨_, rfl, ?_⟩
    go_simp
    refine hK _ _ ?_
    clear hK K
    refine wpAny_done (by kernel_rfl) ?_ _
    go_wp2
    go_ret
    exact HF
theorem do_twice (w : World) (h : DoPre w cb mb b Gw G W j a cap l) : Calls Tryz.prog 62 #[.pointer (some ⟨cb, 0, none⟩), .slice a l.length cap] w (DoPost 16 W l w cb mb G) := by
  have HH : Hid (DoPre w cb mb b Gw G W j a cap l) := h
  have N1 := fun w' hb => one_any h.sm w' (h.gl.later (w' := w') hb) (h.st.later hb)
  replace N1 := N1 w.drew (Below.refl _ w).drew
  have c0 := h.ck.cell0
  clear h
  go_enter Tryz.func62, Tryz.ntmps62
  go_wp2
  refine wp_region_any (by kernel_rfl) ?_
  change wpAny _ _ _ _ _ _ _ (World.drew _)
  refine wpAny_take (i := 0) (v := ?_) rfl (by kernel_rfl) (by kernel_rfl) (by kernel_rfl) (fun _ _ _ h => h) (Or.inl ⟨by rfl, ?_⟩) ?_
  rotate_left
  · intro w0; first | (go_simp; done) | (go_simp; with_reducible rfl)
  go_simp
  refine wpAny_take (i := 1) (v := ?_) rfl (by kernel_rfl) (by kernel_rfl) (by kernel_rfl) (fun _ _ _ h => h) (Or.inl ⟨by rfl, ?_⟩) ?_
  rotate_left
  · intro w0; first | (go_simp; done) | (go_simp; with_reducible rfl)
  go_simp
  refine wpAny_take (i := 2) (v := ?_) rfl (by kernel_rfl) (by kernel_rfl) (by kernel_rfl) (fun _ _ _ h => h) (Or.inl ⟨by rfl, ?_⟩) ?_
  rotate_left
  · intro w0; first | (go_simp; done) | (go_simp; with_reducible rfl)
  go_simp
  refine wpAny_take (i := 4) (v := ?_) rfl (by kernel_rfl) (by kernel_rfl) (by kernel_rfl) (fun _ _ _ h => h) (Or.inl ⟨by rfl, ?_⟩) ?_
  rotate_left
  · intro w0; first | (go_simp; done) | (go_simp; with_reducible rfl)
  go_simp
  refine wpAny_ready (rs := [3, 5]) (by kernel_rfl) (by simp) ?_
  refine AllReady.cons rfl (fun K hK => ?_) (AllReady.cons rfl (fun K hK => ?_) AllReady.nil)
  dsimp only [List.getElem_toArray, List.getElem_cons_succ, List.getElem_cons_zero]
  go_simp
  refine hK _ _ ?_
  clear hK K
  refine wpAny_ready (rs := [5]) (by kernel_rfl) (by simp) ?_
  refine AllReady.cons rfl (fun K hK => ?_) AllReady.nil
  dsimp only [List.getElem_toArray, List.getElem_cons_succ, List.getElem_cons_zero]
  rw [if_pos (by rfl)]
  refine wp_callP 95 #[.slice a l.length cap] (by go_simp) N1 ?_
  rintro e w1 ⟨hb1, (⟨v, hv, rfl⟩ | ⟨hv, rfl⟩)⟩
  rotate_left
  · exact .inr ⟨_, rfl, rfl, HH.out.no (by decide) hv.out (behind (Below.refl _ w).drew hb1)⟩
  dsimp only [List.getElem_toArray, List.getElem_cons_succ, List.getElem_cons_zero]
  rw [if_pos (by rfl)]
  refine wp_callP 95 #[.slice a l.length cap] (by go_simp) N1 ?_
  rintro e w1 ⟨hb1, (⟨v, hv, rfl⟩ | ⟨hv, rfl⟩)⟩
  rotate_left
  · exact .inr ⟨_, rfl, rfl, HH.out.no (by decide) hv.out (behind (Below.refl _ w).drew hb1)⟩
  all_goals
    have hbw := behind (Below.refl _ w).drew hb1
    have c1 := (HH.out.ck.later hbw).cell0
    have OP := op_twice v w1 (HH.out.ck.later hbw).pw
    refine .inl ⟨_, rfl, ?_⟩
    go_simp
    refine hK _ _ ?_
    clear hK K
  rotate_left
  refine wpAny_ready (rs := [3]) (by kernel_rfl) (by simp) ?_
  refine AllReady.cons rfl (fun K hK => ?_) AllReady.nil
  dsimp only [List.getElem_toArray, List.getElem_cons_succ, List.getElem_cons_zero]
  go_simp
  refine hK _ _ ?_
  clear hK K
  all_goals
    refine wpAny_ready (rs := [6]) (by kernel_rfl) (by simp) ?_
    refine AllReady.cons rfl (fun K hK => ?_) AllReady.nil
    dsimp only [List.getElem_toArray, List.getElem_cons_succ, List.getElem_cons_zero]
    rw [if_pos (by rfl)]
    refine wp_callP 116 #[.pointer (some ⟨b, 0, none⟩), .int .i64 v] (by go_simp) OP ?_
    rintro e w2 ⟨W', er, hc, rfl, hp⟩
    have MU := must_any er w2 (HH.out.gl2 hbw hp)
    have HC : Hid (∀ e w3, Below w2.heap.size w2 w3 → EndIs er (nameOf 16) e → DoPost 16 W l w cb mb G e w3) := fun e w3 hb3 he => HH.out.yes (by decide) hv.out hbw (hc.data (by decide)) hp hb3 he
    clear hc hp c1 c0 OP
    refine .inl ⟨_, rfl, ?_⟩
    go_simp
    refine hK _ _ ?_
    clear hK K
    refine wpAny_ready (rs := [7]) (by kernel_rfl) (by simp) ?_
    refine AllReady.cons rfl (fun K hK => ?_) AllReady.nil
    dsimp only [List.getElem_toArray, List.getElem_cons_succ, List.getElem_cons_zero]
    rw [if_pos (by rfl)]
    refine wp_callP 66 #[errV er] (by go_simp) MU ?_
    rintro e w3 ⟨hb3, (⟨h0, rfl⟩ | ⟨h0, rfl⟩)⟩
    rotate_left
    · exact .inr ⟨_, rfl, rfl, HC.out _ _ hb3 (.inr ⟨h0, rfl⟩)⟩
    have HF := HC.out _ _ hb3 (.inl ⟨h0, rfl⟩)
    clear h0 HC MU
    refine .inl ⟨_, rfl, ?_⟩
    go_simp
    refine hK _ _ ?_
    clear hK K
    refine wpAny_done (by kernel_rfl) ?_ _
    go_wp2
    go_ret
    exact HF
theorem do_sweep (w : World) (h : DoPre w cb mb b Gw G W j a cap l) : Calls Tryz.prog 61 #[.pointer (some ⟨cb, 0, none⟩), .slice a l.length cap] w (DoPost 15 W l w cb mb G) := by
  have HH : Hid (DoPre w cb mb b Gw G W j a cap l) := h
  have N1 := fun w' hb => one_any h.sm w' (h.gl.later (w' := w') hb) (h.st.later hb)
  replace N1 := N1 w.drew (Below.refl _ w).drew
  have c0 := h.ck.cell0
  clear h
  go_enter Tryz.func61, Tryz.ntmps61
  go_wp2
  refine wp_region_any (by kernel_rfl) ?_
  change wpAny _ _ _ _ _ _ _ (World.drew _)
  refine wpAny_take (i := 0) (v := ?_) rfl (by kernel_rfl) (by kernel_rfl) (by kernel_rfl) (fun _ _ _ h => h) (Or.inl ⟨by rfl, ?_⟩) ?_
  rotate_left
  · intro w0; first | (go_simp; done) | (go_simp; with_reducible rfl)
  go_simp
  refine wpAny_take (i := 1) (v := ?_) rfl (by kernel_rfl) (by kernel_rfl) (by kernel_rfl) (fun _ _ _ h => h) (Or.inl ⟨by rfl, ?_⟩) ?_
  rotate_left
  · intro w0; first | (go_simp; done) | (go_simp; with_reducible rfl)
  go_simp
  refine wpAny_take (i := 2) (v := ?_) rfl (by kernel_rfl) (by kernel_rfl) (by kernel_rfl) (fun _ _ _ h => h) (Or.inl ⟨by rfl, ?_⟩) ?_
  rotate_left
  · intro w0; first | (go_simp; done) | (go_simp; with_reducible rfl)
  go_simp
  refine wpAny_take (i := 4) (v := ?_) rfl (by kernel_rfl) (by kernel_rfl) (by kernel_rfl) (fun _ _ _ h => h) (Or.inl ⟨by rfl, ?_⟩) ?_
  rotate_left
  · intro w0; first | (go_simp; done) | (go_simp; with_reducible rfl)
  go_simp
  refine wpAny_ready (rs := [3, 5]) (by kernel_rfl) (by simp) ?_
  refine AllReady.cons rfl (fun K hK => ?_) (AllReady.cons rfl (fun K hK => ?_) AllReady.nil)
  dsimp only [List.getElem_toArray, List.getElem_cons_succ, List.getElem_cons_zero]
  go_simp
  refine hK _ _ ?_
  clear hK K
  refine wpAny_ready (rs := [5]) (by kernel_rfl) (by simp) ?_
  refine AllReady.cons rfl (fun K hK => ?_) AllReady.nil
  dsimp only [List.getElem_toArray, List.getElem_cons_succ, List.getElem_cons_zero]
  rw [if_pos (by rfl)]
  refine wp_callP 95 #[.slice a l.length cap] (by go_simp) N1 ?_
  rintro e w1 ⟨hb1, (⟨v, hv, rfl⟩ | ⟨hv, rfl⟩)⟩
  rotate_left
  · exact .inr ⟨_, rfl, rfl, HH.out.no (by decide) hv.out (behind (Below.refl _ w).drew hb1)⟩
  dsimp only [List.getElem_toArray, List.getElem_cons_succ, List.getElem_cons_zero]
  rw [if_pos (by rfl)]
  refine wp_callP 95 #[.slice a l.length cap] (by go_simp) N1 ?_
  rintro e w1 ⟨hb1, (⟨v, hv, rfl⟩ | ⟨hv, rfl⟩)⟩
  rotate_left
  · exact .inr ⟨_, rfl, rfl, HH.out.no (by decide) hv.out (behind (Below.refl _ w).drew hb1)⟩
  all_goals
    have hbw := behind (Below.refl _ w).drew hb1
    have c1 := (HH.out.ck.later hbw).cell0
    have OP := op_sweep v w1 (HH.out.ck.later hbw).pw HH.out.wi
    refine .inl ⟨_, rfl, ?_⟩
    go_simp
    refine hK _ _ ?_
    clear hK K
  rotate_left
  refine wpAny_ready (rs := [3]) (by kernel_rfl) (by simp) ?_
  refine AllReady.cons rfl (fun K hK => ?_) AllReady.nil
  dsimp only [List.getElem_toArray, List.getElem_cons_succ, List.getElem_cons_zero]
  go_simp
  refine hK _ _ ?_
  clear hK K
  all_goals
    refine wpAny_ready (rs := [6]) (by kernel_rfl) (by simp) ?_
    refine AllReady.cons rfl (fun K hK => ?_) AllReady.nil
    dsimp only [List.getElem_toArray, List.getElem_cons_succ, List.getElem_cons_zero]
    rw [if_pos (by rfl)]
    refine wp_callP 115 #[.pointer (some ⟨b, 0, none⟩), .int .i64 v] (by go_simp) OP ?_
    rintro e w2 ⟨W', er, hc, rfl, hp⟩
    have MU := must_any er w2 (HH.out.gl2 hbw hp)
    have HC : Hid (∀ e w3, Below w2.heap.size w2 w3 → EndIs er (nameOf 15) e → DoPost 15 W l w cb mb G e w3) := fun e w3 hb3 he => HH.out.yes (by decide) hv.out hbw (hc.data (by decide)) hp hb3 he
    clear hc hp c1 c0 OP
    refine .inl ⟨_, rfl, ?_⟩
    go_simp
    refine hK _ _ ?_
    clear hK K
    refine wpAny_ready (rs := [7]) (by kernel_rfl) (by simp) ?_
    refine AllReady.cons rfl (fun K hK => ?_) AllReady.nil
    dsimp only [List.getElem_toArray, List.getElem_cons_succ, List.getElem_cons_zero]
    rw [if_pos (by rfl)]
    refine wp_callP 66 #[errV er] (by go_simp) MU ?_
    rintro e w3 ⟨hb3, (⟨h0, rfl⟩ | ⟨h0, rfl⟩)⟩
    rotate_left
    · exact .inr ⟨_, rfl, rfl, HC.out _ _ hb3 (.inr ⟨h0, rfl⟩)⟩
    have HF := HC.out _ _ hb3 (.inl ⟨h0, rfl⟩)
    clear h0 HC MU
    refine .inl ⟨_, rfl, ?_⟩
    go_simp
    refine hK _ _ ?_
    clear hK K
    refine wpAny_done (by kernel_rfl) ?_ _
    go_wp2
    go_ret
    exact HF
theorem do_ask (w : World) (h : DoPre w cb mb b Gw G W j a cap l) : Calls Tryz.prog 47 #[.pointer (some ⟨cb, 0, none⟩), .slice a l.length cap] w (DoPost 1 W l w cb mb G) := by
  have HH : Hid (DoPre w cb mb b Gw G W j a cap l) := h
  have N1 := fun w' hb => two_any h.sm w' (h.gl.later (w' := w') hb) (h.st.later hb)
  replace N1 := N1 w.drew (Below.refl _ w).drew
  have c0 := h.ck.cell0
  clear h
  go_enter Tryz.func47, Tryz.ntmps47
  go_wp2
  refine wp_region_any (by kernel_rfl) ?_
  change wpAny _ _ _ _ _ _ _ (World.drew _)
  refine wpAny_take (i := 0) (v := ?_) rfl (by kernel_rfl) (by kernel_rfl) (by kernel_rfl) (fun _ _ _ h => h) (Or.inl ⟨by rfl, ?_⟩) ?_
  rotate_left
  · intro w0; first | (go_simp; done) | (go_simp; with_reducible rfl)
  go_simp
  refine wpAny_take (i := 1) (v := ?_) rfl (by kernel_rfl) (by kernel_rfl) (by kernel_rfl) (fun _ _ _ h => h) (Or.inl ⟨by rfl, ?_⟩) ?_
  rotate_left
  · intro w0; first | (go_simp; done) | (go_simp; with_reducible rfl)
  go_simp
  refine wpAny_take (i := 2) (v := ?_) rfl (by kernel_rfl) (by kernel_rfl) (by kernel_rfl) (fun _ _ _ h => h) (Or.inl ⟨by rfl, ?_⟩) ?_
  rotate_left
  · intro w0; first | (go_simp; done) | (go_simp; with_reducible rfl)
  go_simp
  refine wpAny_take (i := 4) (v := ?_) rfl (by kernel_rfl) (by kernel_rfl) (by kernel_rfl) (fun _ _ _ h => h) (Or.inl ⟨by rfl, ?_⟩) ?_
  rotate_left
  · intro w0; first | (go_simp; done) | (go_simp; with_reducible rfl)
  go_simp
  refine wpAny_ready (rs := [3, 5]) (by kernel_rfl) (by simp) ?_
  refine AllReady.cons rfl (fun K hK => ?_) (AllReady.cons rfl (fun K hK => ?_) AllReady.nil)
  dsimp only [List.getElem_toArray, List.getElem_cons_succ, List.getElem_cons_zero]
  go_simp
  refine hK _ _ ?_
  clear hK K
  refine wpAny_ready (rs := [5]) (by kernel_rfl) (by simp) ?_
  refine AllReady.cons rfl (fun K hK => ?_) AllReady.nil
  dsimp only [List.getElem_toArray, List.getElem_cons_succ, List.getElem_cons_zero]
  rw [if_pos (by rfl)]
  refine wp_callP 97 #[.slice a l.length cap] (by go_simp) N1 ?_
  rintro e w1 ⟨hb1, (⟨u, v, hv, rfl⟩ | ⟨hv, rfl⟩)⟩
  rotate_left
  · exact .inr ⟨_, rfl, rfl, HH.out.no (by decide) hv.out (behind (Below.refl _ w).drew hb1)⟩
  dsimp only [List.getElem_toArray, List.getElem_cons_succ, List.getElem_cons_zero]
  rw [if_pos (by rfl)]
  refine wp_callP 97 #[.slice a l.length cap] (by go_simp) N1 ?_
  rintro e w1 ⟨hb1, (⟨u, v, hv, rfl⟩ | ⟨hv, rfl⟩)⟩
  rotate_left
  · exact .inr ⟨_, rfl, rfl, HH.out.no (by decide) hv.out (behind (Below.refl _ w).drew hb1)⟩
  all_goals
    have hbw := behind (Below.refl _ w).drew hb1
    have c1 := (HH.out.ck.later hbw).cell0
    have OP := op_ask u v w1 (HH.out.ck.later hbw).pw HH.out.wi
    refine .inl ⟨_, rfl, ?_⟩
    go_simp
    refine hK _ _ ?_
    clear hK K
    refine wpAny_take (i := 6) (v := ?_) rfl (by kernel_rfl) (by kernel_rfl) (by kernel_rfl) (fun _ _ _ h => h) (Or.inl ⟨by rfl, ?_⟩) ?_
    rotate_left
    · intro w0; first | (go_simp; done) | (go_simp; with_reducible rfl)
    go_simp
    refine wpAny_take (i := 7) (v := ?_) rfl (by kernel_rfl) (by kernel_rfl) (by kernel_rfl) (fun _ _ _ h => h) (Or.inl ⟨by rfl, ?_⟩) ?_
    rotate_left
    · intro w0; first | (go_simp; done) | (go_simp; with_reducible rfl)
    go_simp
  rotate_left
  refine wpAny_ready (rs := [3]) (by kernel_rfl) (by simp) ?_
  refine AllReady.cons rfl (fun K hK => ?_) AllReady.nil
  dsimp only [List.getElem_toArray, List.getElem_cons_succ, List.getElem_cons_zero]
  go_simp
  refine hK _ _ ?_
  clear hK K
  all_goals
    refine wpAny_ready (rs := [8]) (by kernel_rfl) (by simp) ?_
    refine AllReady.cons rfl (fun K hK => ?_) AllReady.nil
    dsimp only [List.getElem_toArray, List.getElem_cons_succ, List.getElem_cons_zero]
    rw [if_pos (by rfl)]
    refine wp_callP 96 #[.pointer (some ⟨b, 0, none⟩), .int .i64 u, .int .i64 v] (by go_simp) OP ?_
    rintro e w2 ⟨W', er, hc, rfl, hp⟩
    have MU := must_any er w2 (HH.out.gl2 hbw hp)
    have HC : Hid (∀ e w3, Below w2.heap.size w2 w3 → EndIs er (nameOf 1) e → DoPost 1 W l w cb mb G e w3) := fun e w3 hb3 he => HH.out.yes (by decide) hv.out hbw (hc.data (by decide)) hp hb3 he
    clear hc hp c1 c0 OP
    refine .inl ⟨_, rfl, ?_⟩
    go_simp
    refine hK _ _ ?_
    clear hK K
    refine wpAny_ready (rs := [9]) (by kernel_rfl) (by simp) ?_
    refine AllReady.cons rfl (fun K hK => ?_) AllReady.nil
    dsimp only [List.getElem_toArray, List.getElem_cons_succ, List.getElem_cons_zero]
    rw [if_pos (by rfl)]
    refine wp_callP 66 #[errV er] (by go_simp) MU ?_
    rintro e w3 ⟨hb3, (⟨h0, rfl⟩ | ⟨h0, rfl⟩)⟩
    rotate_left
    · exact .inr ⟨_, rfl, rfl, HC.out _ _ hb3 (.inr ⟨h0, rfl⟩)⟩
    have HF := HC.out _ _ hb3 (.inl ⟨h0, rfl⟩)
    clear h0 HC MU
    refine .inl ⟨_, rfl, ?_⟩
    go_simp
    refine hK _ _ ?_
    clear hK K
    refine wpAny_done (by kernel_rfl) ?_ _
    go_wp2
    go_ret
    exact HF
theorem do_goes (w : World) (h : DoPre w cb mb b Gw G W j a cap l) : Calls Tryz.prog 54 #[.pointer (some ⟨cb, 0, none⟩), .slice a l.length cap] w (DoPost 8 W l w cb mb G) := by
  have HH : Hid (DoPre w cb mb b Gw G W j a cap l) := h
  have N1 := fun w' hb => two_any h.sm w' (h.gl.later (w' := w') hb) (h.st.later hb)
  replace N1 := N1 w.drew (Below.refl _ w).drew
  have c0 := h.ck.cell0
  clear h
  go_enter Tryz.func54, Tryz.ntmps54
  go_wp2
  refine wp_region_any (by kernel_rfl) ?_
  change wpAny _ _ _ _ _ _ _ (World.drew _)
  refine wpAny_take (i := 0) (v := ?_) rfl (by kernel_rfl) (by kernel_rfl) (by kernel_rfl) (fun _ _ _ h => h) (Or.inl ⟨by rfl, ?_⟩) ?_
  rotate_left
  · intro w0; first | (go_simp; done) | (go_simp; with_reducible rfl)
  go_simp
  refine wpAny_take (i := 1) (v := ?_) rfl (by kernel_rfl) (by kernel_rfl) (by kernel_rfl) (fun _ _ _ h => h) (Or.inl ⟨by rfl, ?_⟩) ?_
  rotate_left
  · intro w0; first | (go_simp; done) | (go_simp; with_reducible rfl)
  go_simp
  refine wpAny_take (i := 2) (v := ?_) rfl (by kernel_rfl) (by kernel_rfl) (by kernel_rfl) (fun _ _ _ h => h) (Or.inl ⟨by rfl, ?_⟩) ?_
  rotate_left
  · intro w0; first | (go_simp; done) | (go_simp; with_reducible rfl)
  go_simp
  refine wpAny_take (i := 4) (v := ?_) rfl (by kernel_rfl) (by kernel_rfl) (by kernel_rfl) (fun _ _ _ h => h) (Or.inl ⟨by rfl, ?_⟩) ?_
  rotate_left
  · intro w0; first | (go_simp; done) | (go_simp; with_reducible rfl)
  go_simp
  refine wpAny_ready (rs := [3, 5]) (by kernel_rfl) (by simp) ?_
  refine AllReady.cons rfl (fun K hK => ?_) (AllReady.cons rfl (fun K hK => ?_) AllReady.nil)
  dsimp only [List.getElem_toArray, List.getElem_cons_succ, List.getElem_cons_zero]
  go_simp
  refine hK _ _ ?_
  clear hK K
  refine wpAny_ready (rs := [5]) (by kernel_rfl) (by simp) ?_
  refine AllReady.cons rfl (fun K hK => ?_) AllReady.nil
  dsimp only [List.getElem_toArray, List.getElem_cons_succ, List.getElem_cons_zero]
  rw [if_pos (by rfl)]
  refine wp_callP 97 #[.slice a l.length cap] (by go_simp) N1 ?_
  rintro e w1 ⟨hb1, (⟨u, v, hv, rfl⟩ | ⟨hv, rfl⟩)⟩
  rotate_left
  · exact .inr ⟨_, rfl, rfl, HH.out.no (by decide) hv.out (behind (Below.refl _ w).drew hb1)⟩
  dsimp only [List.getElem_toArray, List.getElem_cons_succ, List.getElem_cons_zero]
  rw [if_pos (by rfl)]
  refine wp_callP 97 #[.slice a l.length cap] (by go_simp) N1 ?_
  rintro e w1 ⟨hb1, (⟨u, v, hv, rfl⟩ | ⟨hv, rfl⟩)⟩
  rotate_left
  · exact .inr ⟨_, rfl, rfl, HH.out.no (by decide) hv.out (behind (Below.refl _ w).drew hb1)⟩
  all_goals
    have hbw := behind (Below.refl _ w).drew hb1
    have c1 := (HH.out.ck.later hbw).cell0
    have OP := op_goes u v w1 (HH.out.ck.later hbw).pw HH.out.wi
    refine .inl ⟨_, rfl, ?_⟩
    go_simp
    refine hK _ _ ?_
    clear hK K
    refine wpAny_take (i := 6) (v := ?_) rfl (by kernel_rfl) (by kernel_rfl) (by kernel_rfl) (fun _ _ _ h => h) (Or.inl ⟨by rfl, ?_⟩) ?_
    rotate_left
    · intro w0; first | (go_simp; done) | (go_simp; with_reducible rfl)
    go_simp
    refine wpAny_take (i := 7) (v := ?_) rfl (by kernel_rfl) (by kernel_rfl) (by kernel_rfl) (fun _ _ _ h => h) (Or.inl ⟨by rfl, ?_⟩) ?_
    rotate_left
    · intro w0; first | (go_simp; done) | (go_simp; with_reducible rfl)
    go_simp
  rotate_left
  refine wpAny_ready (rs := [3]) (by kernel_rfl) (by simp) ?_
  refine AllReady.cons rfl (fun K hK => ?_) AllReady.nil
  dsimp only [List.getElem_toArray, List.getElem_cons_succ, List.getElem_cons_zero]
  go_simp
  refine hK _ _ ?_
  clear hK K
  all_goals
    refine wpAny_ready (rs := [8]) (by kernel_rfl) (by simp) ?_
    refine AllReady.cons rfl (fun K hK => ?_) AllReady.nil
    dsimp only [List.getElem_toArray, List.getElem_cons_succ, List.getElem_cons_zero]
    rw [if_pos (by rfl)]
    refine wp_callP 106 #[.pointer (some ⟨b, 0, none⟩), .int .i64 u, .int .i64 v] (by go_simp) OP ?_
    rintro e w2 ⟨W', er, hc, rfl, hp⟩
    have MU := must_any er w2 (HH.out.gl2 hbw hp)
    have HC : Hid (∀ e w3, Below w2.heap.size w2 w3 → EndIs er (nameOf 8) e → DoPost 8 W l w cb mb G e w3) := fun e w3 hb3 he => HH.out.yes (by decide) hv.out hbw (hc.data (by decide)) hp hb3 he
    clear hc hp c1 c0 OP
    refine .inl ⟨_, rfl, ?_⟩
    go_simp
    refine hK _ _ ?_
    clear hK K
    refine wpAny_ready (rs := [9]) (by kernel_rfl) (by simp) ?_
    refine AllReady.cons rfl (fun K hK => ?_) AllReady.nil
    dsimp only [List.getElem_toArray, List.getElem_cons_succ, List.getElem_cons_zero]
    rw [if_pos (by rfl)]
    refine wp_callP 66 #[errV er] (by go_simp) MU ?_
    rintro e w3 ⟨hb3, (⟨h0, rfl⟩ | ⟨h0, rfl⟩)⟩
    rotate_left
    · exact .inr ⟨_, rfl, rfl, HC.out _ _ hb3 (.inr ⟨h0, rfl⟩)⟩
    have HF := HC.out _ _ hb3 (.inl ⟨h0, rfl⟩)
    clear h0 HC MU
    refine .inl ⟨_, rfl, ?_⟩
    go_simp
    refine hK _ _ ?_
    clear hK K
    refine wpAny_done (by kernel_rfl) ?_ _
    go_wp2
    go_ret
    exact HF
theorem do_move (w : World) (h : DoPre w cb mb b Gw G W j a cap l) : Calls Tryz.prog 58 #[.pointer (some ⟨cb, 0, none⟩), .slice a l.length cap] w (DoPost 12 W l w cb mb G) := by
  have HH : Hid (DoPre w cb mb b Gw G W j a cap l) := h
  have N1 := fun w' hb => two_any h.sm w' (h.gl.later (w' := w') hb) (h.st.later hb)
  replace N1 := N1 w.drew (Below.refl _ w).drew
  have c0 := h.ck.cell0
  clear h
  go_enter Tryz.func58, Tryz.ntmps58
  go_wp2
  refine wp_region_any (by kernel_rfl) ?_
  change wpAny _ _ _ _ _ _ _ (World.drew _)
  refine wpAny_take (i := 0) (v := ?_) rfl (by kernel_rfl) (by kernel_rfl) (by kernel_rfl) (fun _ _ _ h => h) (Or.inl ⟨by rfl, ?_⟩) ?_
  rotate_left
  · intro w0; first | (go_simp; done) | (go_simp; with_reducible rfl)
  go_simp
  refine wpAny_take (i := 1) (v := ?_) rfl (by kernel_rfl) (by kernel_rfl) (by kernel_rfl) (fun _ _ _ h => h) (Or.inl ⟨by rfl, ?_⟩) ?_
  rotate_left
  · intro w0; first | (go_simp; done) | (go_simp; with_reducible rfl)
  go_simp
  refine wpAny_take (i := 2) (v := ?_) rfl (by kernel_rfl) (by kernel_rfl) (by kernel_rfl) (fun _ _ _ h => h) (Or.inl ⟨by rfl, ?_⟩) ?_
  rotate_left
  · intro w0; first | (go_simp; done) | (go_simp; with_reducible rfl)
  go_simp
  refine wpAny_take (i := 4) (v := ?_) rfl (by kernel_rfl) (by kernel_rfl) (by kernel_rfl) (fun _ _ _ h => h) (Or.inl ⟨by rfl, ?_⟩) ?_
  rotate_left
  · intro w0; first | (go_simp; done) | (go_simp; with_reducible rfl)
  go_simp
  refine wpAny_ready (rs := [3, 5]) (by kernel_rfl) (by simp) ?_
  refine AllReady.cons rfl (fun K hK => ?_) (AllReady.cons rfl (fun K hK => ?_) AllReady.nil)
  dsimp only [List.getElem_toArray, List.getElem_cons_succ, List.getElem_cons_zero]
  go_simp
  refine hK _ _ ?_
  clear hK K
  refine wpAny_ready (rs := [5]) (by kernel_rfl) (by simp) ?_
  refine AllReady.cons rfl (fun K hK => ?_) AllReady.nil
  dsimp only [List.getElem_toArray, List.getElem_cons_succ, List.getElem_cons_zero]
  rw [if_pos (by rfl)]
  refine wp_callP 97 #[.slice a l.length cap] (by go_simp) N1 ?_
  rintro e w1 ⟨hb1, (⟨u, v, hv, rfl⟩ | ⟨hv, rfl⟩)⟩
  rotate_left
  · exact .inr ⟨_, rfl, rfl, HH.out.no (by decide) hv.out (behind (Below.refl _ w).drew hb1)⟩
  dsimp only [List.getElem_toArray, List.getElem_cons_succ, List.getElem_cons_zero]
  rw [if_pos (by rfl)]
  refine wp_callP 97 #[.slice a l.length cap] (by go_simp) N1 ?_
  rintro e w1 ⟨hb1, (⟨u, v, hv, rfl⟩ | ⟨hv, rfl⟩)⟩
  rotate_left
  · exact .inr ⟨_, rfl, rfl, HH.out.no (by decide) hv.out (behind (Below.refl _ w).drew hb1)⟩
  all_goals
    have hbw := behind (Below.refl _ w).drew hb1
    have c1 := (HH.out.ck.later hbw).cell0
    have OP := op_move u v w1 (HH.out.ck.later hbw).pw
    refine .inl ⟨_, rfl, ?_⟩
    go_simp
    refine hK _ _ ?_
    clear hK K
    refine wpAny_take (i := 6) (v := ?_) rfl (by kernel_rfl) (by kernel_rfl) (by kernel_rfl) (fun _ _ _ h => h) (Or.inl ⟨by rfl, ?_⟩) ?_
    rotate_left
    · intro w0; first | (go_simp; done) | (go_simp; with_reducible rfl)
    go_simp
    refine wpAny_take (i := 7) (v := ?_) rfl (by kernel_rfl) (by kernel_rfl) (by kernel_rfl) (fun _ _ _ h => h) (Or.inl ⟨by rfl, ?_⟩) ?_
    rotate_left
    · intro w0; first | (go_simp; done) | (go_simp; with_reducible rfl)
    go_simp
  rotate_left
  refine wpAny_ready (rs := [3]) (by kernel_rfl) (by simp) ?_
  refine AllReady.cons rfl (fun K hK => ?_) AllReady.nil
  dsimp only [List.getElem_toArray, List.getElem_cons_succ, List.getElem_cons_zero]
  go_simp
  refine hK _ _ ?_
  clear hK K
  all_goals
    refine wpAny_ready (rs := [8]) (by kernel_rfl) (by simp) ?_
    refine AllReady.cons rfl (fun K hK => ?_) AllReady.nil
    dsimp only [List.getElem_toArray, List.getElem_cons_succ, List.getElem_cons_zero]
    rw [if_pos (by rfl)]
    refine wp_callP 112 #[.pointer (some ⟨b, 0, none⟩), .int .i64 u, .int .i64 v] (by go_simp) OP ?_
    rintro e w2 ⟨W', er, hc, rfl, hp⟩
    have MU := must_any er w2 (HH.out.gl2 hbw hp)
    have HC : Hid (∀ e w3, Below w2.heap.size w2 w3 → EndIs er (nameOf 12) e → DoPost 12 W l w cb mb G e w3) := fun e w3 hb3 he => HH.out.yes (by decide) hv.out hbw (hc.data (by decide)) hp hb3 he
    clear hc hp c1 c0 OP
    refine .inl ⟨_, rfl, ?_⟩
    go_simp
    refine hK _ _ ?_
    clear hK K
    refine wpAny_ready (rs := [9]) (by kernel_rfl) (by simp) ?_
    refine AllReady.cons rfl (fun K hK => ?_) AllReady.nil
    dsimp only [List.getElem_toArray, List.getElem_cons_succ, List.getElem_cons_zero]
    rw [if_pos (by rfl)]
    refine wp_callP 66 #[errV er] (by go_simp) MU ?_
    rintro e w3 ⟨hb3, (⟨h0, rfl⟩ | ⟨h0, rfl⟩)⟩
    rotate_left
    · exact .inr ⟨_, rfl, rfl, HC.out _ _ hb3 (.inr ⟨h0, rfl⟩)⟩
    have HF := HC.out _ _ hb3 (.inl ⟨h0, rfl⟩)
    clear h0 HC MU
    refine .inl ⟨_, rfl, ?_⟩
    go_simp
    refine hK _ _ ?_
    clear hK K
    refine wpAny_done (by kernel_rfl) ?_ _
    go_wp2
    go_ret
    exact HF
end
end Go.Proofs.YtoanjdndmlffdaaGreatDoor
