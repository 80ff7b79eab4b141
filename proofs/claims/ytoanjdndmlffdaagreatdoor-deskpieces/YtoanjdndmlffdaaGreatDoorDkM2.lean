import Derived.Test.YtoanjdndmlffdaaGreatDoorSiteK
namespace Go.Proofs.YtoanjdndmlffdaaGreatDoor
open Go.RowKit
set_option maxRecDepth 100000
set_option maxHeartbeats 4000000
section
variable {cb mb b j cap : Nat} {Gw G : Nat → Prop} {W : WoS} {a : Option Addr} {l : List ByteArray}
theorem write_no {w w' : World} (h : DoPre w cb mb b Gw G W j a cap l) (hn : (if l.length = 3 then numsN 2 (l.take 2) else none) = none) (hb : Below w.heap.size w w') : DoPost 18 W l w cb mb G (thrown 3) w' :=
  ⟨W, 3, [], by unfold DoTo; rw [if_pos rfl, hn]; exact ⟨rfl, rfl, rfl⟩, .inr ⟨by decide, rfl⟩, h.ck.same h.g hb⟩
theorem three_of {r : List ByteArray} (h : r.length = 3) : ∃ x y z, r = [x, y, z] := by
  match r, h with
  | [x, y, z], _ => exact ⟨x, y, z, rfl⟩
theorem do_write (w : World) (h : DoPre w cb mb b Gw G W j a cap l) : Calls Tryz.prog 64 #[.pointer (some ⟨cb, 0, none⟩), .slice a l.length cap] w (DoPost 18 W l w cb mb G) := by
  by_cases hl : l.length = 3
  · obtain ⟨x, y, z, rfl⟩ := three_of hl
    clear hl
    have HH : Hid (DoPre w cb mb b Gw G W j a cap [x, y, z]) := h
    obtain ⟨rb, ro, rfl, hrb, hrc⟩ := h.st.cell 2 z rfl
    have hcap : 3 ≤ cap := h.st.cap
    have S2 : StrIn w (some ⟨rb, ro, none⟩) cap [x, y] := ⟨by have := h.st.cap; simp at this ⊢; omega, fun q s hq => h.st.cell q s (by
      match q, hq with
      | 0, hq => exact hq
      | 1, hq => exact hq)⟩
    have N1 := two_any (l := [x, y]) (fun s hs => h.sm s (by simp at hs ⊢; rcases hs with rfl | rfl <;> simp)) w h.gl S2
    clear h S2
    dsimp only [List.length_cons, List.length_nil, Nat.reduceAdd] at N1 ⊢
    go_enter Tryz.func64, Tryz.ntmps64
    go_wp2_with fail
    refine N1.mono ?_
    rintro e w1 ⟨hb1, (⟨u, v, hv, rfl⟩ | ⟨hv, rfl⟩)⟩
    rotate_left
    · exact ⟨rfl, write_no HH.out (by rw [if_pos (show [x, y, z].length = 3 from rfl)]; exact hv.out) hb1⟩
    have c1 : w1.drew.cell? ⟨cb, 0, none⟩ = some (.pointer (some ⟨b, 0, none⟩)) := (HH.out.ck.later hb1).cell0
    have c2 : w1.drew.cell? ⟨rb, ro + 2, none⟩ = some (.string z) := (hb1.cell (p := ⟨rb, ro + 2, none⟩) hrb).trans hrc
    have OP := op_write u v z w1.drew ((HH.out.ck.later hb1).pw.later (Below.refl _ w1).drew)
    have hbw : Below w.heap.size w w1.drew := hb1.drew
    go_wp2
    refine wp_region_any (by kernel_rfl) ?_
    change wpAny _ _ _ _ _ _ _ (World.drew _)
    refine wpAny_take (i := 0) (v := ?_) rfl (by kernel_rfl) (by kernel_rfl) (by kernel_rfl) (fun _ _ _ h => h) (Or.inl ⟨by rfl, ?_⟩) ?_
    rotate_left
    · intro w0; first | (go_simp; done) | (go_simp; with_reducible rfl)
    go_simp
    refine wpAny_take (i := 1) (v := ?_) rfl (by kernel_rfl) (by kernel_rfl) (by kernel_rfl) (fun _ _ _ h => h) (Or.inl ⟨by rfl, ?_⟩) ?_
    rotate_left
    · intro w0; first | (go_simp; done) | (go_simp; with_reducible rfl)
    go_simp
    refine wpAny_take (i := 2) (v := ?_) rfl (by kernel_rfl) (by kernel_rfl) (by kernel_rfl) (fun _ _ _ h => h) (Or.inl ⟨by rfl, ?_⟩) ?_
    rotate_left
    · intro w0; first | (go_simp; done) | (go_simp; with_reducible rfl)
    go_simp
    refine wpAny_take (i := 4) (v := ?_) rfl (by kernel_rfl) (by kernel_rfl) (by kernel_rfl) (fun _ _ _ h => h) (Or.inl ⟨by rfl, ?_⟩) ?_
    rotate_left
    · intro w0; first | (go_simp; done) | (go_simp; with_reducible rfl)
    go_simp
    refine wpAny_take (i := 5) (v := ?_) rfl (by kernel_rfl) (by kernel_rfl) (by kernel_rfl) (fun _ _ _ h => h) (Or.inl ⟨by rfl, ?_⟩) ?_
    rotate_left
    · intro w0; first | (go_simp; done) | (go_simp; with_reducible rfl)
    go_simp
    refine wpAny_take (i := 6) (v := ?_) rfl (by kernel_rfl) (by kernel_rfl) (by kernel_rfl) (fun _ _ _ h => h) (Or.inl ⟨by rfl, ?_⟩) ?_
    rotate_left
    · intro w0; first | (go_simp; done) | (go_simp; with_reducible rfl)
    go_simp
    refine wpAny_take (i := 7) (v := ?_) rfl (by kernel_rfl) (by kernel_rfl) (by kernel_rfl) (fun _ _ _ h => h) (Or.inl ⟨by rfl, ?_⟩) ?_
    rotate_left
    · intro w0; first | (go_simp; done) | (go_simp; with_reducible rfl)
    go_simp
    refine wpAny_ready (rs := [3, 8]) (by kernel_rfl) (by simp) ?_
    refine AllReady.cons rfl (fun K hK => ?_) (AllReady.cons rfl (fun K hK => ?_) AllReady.nil)
    dsimp only [List.getElem_toArray, List.getElem_cons_succ, List.getElem_cons_zero]
    go_simp
    refine hK _ _ ?_
    clear hK K
    refine wpAny_ready (rs := [8]) (by kernel_rfl) (by simp) ?_
    refine AllReady.cons rfl (fun K hK => ?_) AllReady.nil
    dsimp only [List.getElem_toArray, List.getElem_cons_succ, List.getElem_cons_zero]
    go_simp
    refine hK _ _ ?_
    clear hK K
    refine wpAny_take (i := 9) (v := ?_) rfl (by kernel_rfl) (by kernel_rfl) (by kernel_rfl) (fun _ _ _ h => h) (Or.inl ⟨by rfl, ?_⟩) ?_
    rotate_left
    · intro w0; first | (go_simp; done) | (go_simp; with_reducible rfl)
    go_simp
    rotate_left
    dsimp only [List.getElem_toArray, List.getElem_cons_succ, List.getElem_cons_zero]
    go_simp
    refine hK _ _ ?_
    clear hK K
    refine wpAny_take (i := 9) (v := ?_) rfl (by kernel_rfl) (by kernel_rfl) (by kernel_rfl) (fun _ _ _ h => h) (Or.inl ⟨by rfl, ?_⟩) ?_
    rotate_left
    · intro w0; first | (go_simp; done) | (go_simp; with_reducible rfl)
    go_simp
    refine wpAny_ready (rs := [3]) (by kernel_rfl) (by simp) ?_
    refine AllReady.cons rfl (fun K hK => ?_) AllReady.nil
    dsimp only [List.getElem_toArray, List.getElem_cons_succ, List.getElem_cons_zero]
    go_simp
    refine hK _ _ ?_
    clear hK K
    all_goals
      refine wpAny_ready (rs := [10]) (by kernel_rfl) (by simp) ?_
      refine AllReady.cons rfl (fun K hK => ?_) AllReady.nil
      dsimp only [List.getElem_toArray, List.getElem_cons_succ, List.getElem_cons_zero]
      rw [if_pos (by rfl)]
      refine wp_callP 105 #[.pointer (some ⟨b, 0, none⟩), .int .i64 u, .agg #[.int .i64 v, .string z, .bool false]] (by go_simp) OP ?_
      rintro e w2 ⟨W', er, hc, rfl, hp⟩
      have MU := must_any er w2 (HH.out.gl2 hbw hp)
      have HC : Hid (∀ e w3, Below w2.heap.size w2 w3 → EndIs er (nameOf 18) e → DoPost 18 W [x, y, z] w cb mb G e w3) := fun e w3 hb3 he => ⟨W', er, nameOf 18, by unfold DoTo; rw [if_pos rfl, if_pos (show [x, y, z].length = 3 from rfl), show numsN 2 (List.take 2 [x, y, z]) = some [u, v] from hv.out]; exact hc, he, CkAt.after (HH.out.ck.op HH.out.g hbw hp) hb3⟩
      clear hc hp c1 c2 OP
      refine .inl ⟨_, rfl, ?_⟩
      go_simp
      refine hK _ _ ?_
      clear hK K
      refine wpAny_ready (rs := [11]) (by kernel_rfl) (by simp) ?_
      refine AllReady.cons rfl (fun K hK => ?_) AllReady.nil
      dsimp only [List.getElem_toArray, List.getElem_cons_succ, List.getElem_cons_zero]
      rw [if_pos (by rfl)]
      refine wp_callP 66 #[errV er] (by go_simp) MU ?_
      rintro e w3 ⟨hb3, (⟨h0, rfl⟩ | ⟨h0, rfl⟩)⟩
      rotate_left
      · exact .inr ⟨_, rfl, rfl, HC.out _ _ hb3 (.inr ⟨h0, rfl⟩)⟩
      have HF := HC.out _ _ hb3 (.inl ⟨h0, rfl⟩)
      clear h0 HC MU
      refine .inl ⟨_, rfl, ?_⟩
      go_simp
      refine hK _ _ ?_
      clear hK K
      refine wpAny_done (by kernel_rfl) ?_ _
      go_wp2
      go_ret
      exact HF
  · have HH : Hid (DoPre w cb mb b Gw G W j a cap l ∧ l.length ≠ 3) := ⟨h, hl⟩
    have hne : ¬ (l.length : Int) = 3 := by omega
    clear h hl
    go_enter Tryz.func64, Tryz.ntmps64
    go_wp2
    exact ⟨rfl, write_no HH.out.1 (by rw [if_neg HH.out.2]) (Below.refl _ _)⟩
end
end Go.Proofs.YtoanjdndmlffdaaGreatDoor
