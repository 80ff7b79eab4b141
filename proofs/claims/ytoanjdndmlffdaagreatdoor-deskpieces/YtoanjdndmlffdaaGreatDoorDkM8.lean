import Derived.Test.YtoanjdndmlffdaaGreatDoorDkM7
namespace Go.Proofs.YtoanjdndmlffdaaGreatDoor
open Go.RowKit
set_option maxRecDepth 100000
set_option maxHeartbeats 8000000
section
variable {cb mb b j cap : Nat} {Gw G : Nat → Prop} {W : WoS} {a : Option Addr} {l : List ByteArray}
theorem site_yes (w : World) (h : DoPre w cb mb b Gw G W j a cap l) {r : List Int} (hn : numsN 1 l = some r) : Calls Tryz.prog 60 #[.pointer (some ⟨cb, 0, none⟩), .slice a l.length cap] w (DoPost 14 W l w cb mb G) := by
  have HH : Hid (DoPre w cb mb b Gw G W j a cap l) := h
  obtain ⟨v, rfl⟩ : ∃ v, r = [v] := by
    unfold numsN at hn
    split at hn
    · rename_i q; exact List.length_eq_one_iff.1 ((numsW_length hn).trans q)
    · cases hn
  have N1 : Hid (∀ w', Below w.heap.size w w' → Calls Tryz.prog 95 #[.slice a l.length cap] w' fun e w2 => e = .returned (.int .i64 v) ∧ Below w'.heap.size w' w2) := fun w' hb => (one_any h.sm w' (h.gl.later hb) (h.st.later hb)).mono fun e w2 ⟨h1, h2⟩ => by
    rcases h2 with ⟨u, hv, he⟩ | ⟨hv, _⟩
    · have := hv.out; rw [hn] at this; injection this with this; injection this with this; rw [this]; exact ⟨he, h1⟩
    · have := hv.out; rw [hn] at this; cases this
  obtain ⟨a0, a1, a2, a3, wn, vn, er, tx, HSi, OP0⟩ := op_site (b := b) (G := Gw) v h.di
  have OP : Hid (∀ w', Below w.heap.size w w' → Calls Tryz.prog 114 #[.pointer (some ⟨b, 0, none⟩), .int .i64 v] w' fun e w2 => ∃ v, e = .returned (.tuple #[.agg #[.int .i64 a0, .int .i64 a1, .int .i64 a2, .int .i64 a3], .int .i64 wn, v, .int .i64 vn, errV er]) ∧ Hid (er = 0 → TxtIn w' w2 tx v) ∧ Below w'.heap.size w' w2) := fun w' hb => OP0 w' (h.ck.later hb).pw
  have HC : Hid (SiIs W v a0 a1 a2 a3 wn vn er tx ∧ numsN 1 l = some [v]) := ⟨HSi, hn⟩
  have c0 := h.ck.cell0
  have X0 := fun (w' : World) (h : Below w.heap.size w w') => cell_later h c0
  clear h hn OP0 HSi c0
  go_enter Tryz.func60, Tryz.ntmps60
  go_wp2
  go_cut [5, 6, 7, 8, 9] (fun t5 t6 t7 t8 t9 wx => ∃ b5 : Nat, t5 = .pointer (some ⟨b5, 0, none⟩) ∧ t6 = .int .i64 wn ∧ t8 = .int .i64 vn ∧ t9 = errV er ∧ Below w.heap.size w wx ∧ Row4 wx b5 a0 a1 a2 a3 ∧ Hid (er = 0 → ∃ tb tc, t7 = .slice (some ⟨tb, 0, none⟩) 8 tc ∧ 8 ≤ tc ∧ RowC wx tb (tx.map Value.string)))
  case first =>
    go_region_held3 (fun w' => Below w.heap.size w w') ((repeat (first | (with_reducible assumption) | (with_reducible refine boxed ?_ _) | (with_reducible refine Below.drew ?_) | (with_reducible refine Below.setCell ?_ (by first | (simp; done) | (simp; omega)) _) | (with_reducible exact Below.refl _ _))))
      (first | (go_at_call 95; refine (N1.out _ (by with_reducible assumption)).mono ?_; rintro e wa ⟨rfl, hba⟩; have hS : Below w.heap.size w wa := behind (by with_reducible assumption) hba; have hla := hS.size; obtain ⟨hc1, hf1⟩ := bcell hba; have hz1 := blt hba; have n1 := bne hba; have m1 := bne2 hba) | (go_at_call 114; refine (OP.out _ (by with_reducible assumption)).mono ?_; rintro e wb ⟨v7, rfl, hT, hbb⟩; have hSb : Below w.heap.size w wb := behind (by with_reducible assumption) hbb; have hlb := hSb.size; have hab : Below wa.heap.size wa wb := (by first | exact hbb | exact behind (boxed (Below.refl _ _) _) hbb); have h12 := behind hba hab; obtain ⟨hc2, hf2⟩ := bcell hbb; obtain ⟨hc3, hf3⟩ := bcell h12; have hz2 := blt hbb; have hz3 := blt h12))
    all_goals
      go_wp2
      go_meet
      case rel =>
        refine ⟨_, rfl, rfl, rfl, rfl, by assumption, ?_, ?_⟩
        · (repeat (first | (with_reducible refine Row4.newest ?_; (first | rfl | (simp; done))) | (with_reducible refine Row4.boxed ?_ _) | (with_reducible refine Row4.set (a0 := 0) (a1 := 0) (a2 := 0) (a3 := 0) ?_) | (with_reducible refine Row4.far4 ?_ ?_; rotate_left; (first | (simp; done) | (simp; omega) | omega)))); all_goals (constructor <;> go_simp)
        · intro h0
          obtain ⟨tb, tc, e1, e2, e3, e4⟩ := hT.out h0
          have e5 := e3.lt
          have q1 := hba.size
          try simp at e4
          try simp at q1
          refine ⟨tb, tc, e1, e2, ?_⟩
          repeat (first | (with_reducible exact e3) | (with_reducible refine RowC.boxed ?_ _) | (with_reducible refine RowC.drew ?_) | (with_reducible refine RowC.far ?_ _ _ ?_; rotate_left; (first | (simp; done) | (simp; omega) | omega)))
  case rest =>
    obtain ⟨b5, rfl, rfl, rfl, rfl, hbx, R5, HT⟩ := hcut
    have HB : Hid (Below w.heap.size w wc ∧ Row4 wc b5 a0 a1 a2 a3) := ⟨hbx, R5⟩
    have MU := must_any er wc (HH.out.gl.later hbx)
    clear hbx R5 X0 N1 OP
    go_wp2_with fail
    refine MU.mono ?_
    rintro e w3 ⟨hb3, (⟨h0, rfl⟩ | ⟨h0, rfl⟩)⟩
    rotate_left
    · exact ⟨rfl, HH.out.told (by decide) HC.out.2 HC.out.1.cmd (behind HB.out.1 hb3) (.inr ⟨h0, rfl⟩)⟩
    obtain ⟨tb, tc, rfl, h8, hR⟩ := HT.out h0
    have hbx3 := behind HB.out.1 hb3
    have wf := HC.out.1.wf
    have BL1 := blanked_any (b := b5) (o := 0) (cap := 4) (l := [a0, a1, a2, a3]) (by simp) (by simp) (fun x hx => wf x (by simp at hx ⊢; rcases hx with e | e | e | e <;> simp [e])) w3 (HH.out.gl.later hbx3) (HB.out.2.later hb3).lt (row4_ints (HB.out.2.later hb3))
    have BLB : Hid (∀ w', Below w3.heap.size w3 w' → Calls Tryz.prog 102 #[.slice (some ⟨w'.heap.size, 0, none⟩) 2 2] (w'.alloc (.cells #[.int .i64 wn, .int .i64 vn] 3)) fun e w2 => e = .returned (.string (bya (blkd [wn, vn]))) ∧ Below (w'.alloc (.cells #[.int .i64 wn, .int .i64 vn] 3)).heap.size (w'.alloc (.cells #[.int .i64 wn, .int .i64 vn] 3)) w2) := fun w' h2 => blanked_any (b := w'.heap.size) (o := 0) (cap := 2) (l := [wn, vn]) (by simp) (by simp) (fun x hx => wf x (by simp at hx ⊢; rcases hx with e | e <;> simp [e])) _ (HH.out.gl.later (boxed (behind hbx3 h2) _)) (by simp) (ints_new (w := w') (T := 3) [wn, vn])
    have JN : Hid (∀ w', Below w3.heap.size w3 w' → Calls Tryz.prog 42 #[.slice (some ⟨tb, 0, none⟩) 8 tc, .string ⟨#[32]⟩] w' fun e w2 => e = .returned (.string (bya (Lib.join (tx.map (·.data.toList)) [32]))) ∧ Below w'.heap.size w' w2) := fun w' h2 => by
      have hr := (hR.later hb3).later h2
      have J := Tryz.strings_Join tb 0 tc tx ⟨#[32]⟩ w' (fun q y hy => by rw [Nat.zero_add]; exact hr.cell q _ (by rw [List.getElem?_map, hy]; rfl)) hr.lt (by rw [HC.out.1.tl]; decide) (by rw [HC.out.1.tl]; exact h8) (by
        have := join_len 13 (tx.map (·.data.toList)) (fun y hy => by obtain ⟨x, hx, rfl⟩ := List.mem_map.1 hy; exact HC.out.1.ts x hx)
        rw [List.length_map, HC.out.1.tl] at this
        exact Nat.le_trans this (by decide))
      rw [HC.out.1.tl] at J
      exact J
    have l1 : (blkd [a0, a1, a2, a3]).length ≤ 88 := by have := blkd_len (l := [a0, a1, a2, a3]) (fun x hx => wf x (by simp at hx ⊢; rcases hx with e | e | e | e <;> simp [e])); simpa using this
    have l2 : (blkd [wn, vn]).length ≤ 44 := by have := blkd_len (l := [wn, vn]) (fun x hx => wf x (by simp at hx ⊢; rcases hx with e | e <;> simp [e])); simpa using this
    have l3 : (Lib.join (tx.map (·.data.toList)) [32]).length ≤ 112 := by
      have := join_len 13 (tx.map (·.data.toList)) (fun y hy => by obtain ⟨x, hx, rfl⟩ := List.mem_map.1 hy; exact HC.out.1.ts x hx)
      rw [List.length_map, HC.out.1.tl] at this
      exact this
    have A1 := fun w => addS (P := Tryz.prog) (bya (blkd [a0, a1, a2, a3])) ⟨#[44, 32]⟩ (by simp [bya_size]; omega) w
    have A2 := fun w => addS (P := Tryz.prog) (bya (blkd [a0, a1, a2, a3]) ++ ⟨#[44, 32]⟩) (bya (blkd [wn, vn])) (by simp [bya_size]; omega) w
    have A3 := fun w => addS (P := Tryz.prog) (bya (blkd [a0, a1, a2, a3]) ++ ⟨#[44, 32]⟩ ++ bya (blkd [wn, vn])) ⟨#[44, 32]⟩ (by simp [bya_size]; omega) w
    have A4 := fun w => addS (P := Tryz.prog) (bya (blkd [a0, a1, a2, a3]) ++ ⟨#[44, 32]⟩ ++ bya (blkd [wn, vn]) ++ ⟨#[44, 32]⟩) (bya (Lib.join (tx.map (·.data.toList)) [32])) (by simp [bya_size]; omega) w
    have HF : Hid (∀ w', Below w.heap.size w w' → DoPost 14 W l w cb mb G (.returned (.string (bya (blkd [a0, a1, a2, a3] ++ [44, 32] ++ blkd [wn, vn] ++ [44, 32] ++ Lib.join (tx.map (·.data.toList)) [32])))) w') := fun w' hb => HH.out.told (by decide) HC.out.2 HC.out.1.cmd hb (.inl ⟨h0, by rw [if_pos h0]⟩)
    have HX3 : Hid (Below w.heap.size w w3) := hbx3
    dsimp only [List.length_cons, List.length_nil, Nat.reduceAdd] at BL1
    clear l1 l2 l3 h0 hbx3 wf MU HC HT hR
    go_wp2_with fail
    refine BL1.mono ?_
    rintro e w4 ⟨rfl, hb4⟩
    have BL2 := BLB.out w4 hb4
    go_wp2_with fail
    refine BL2.mono ?_
    rintro e w5 ⟨rfl, hb5⟩
    have hb53 : Below w3.heap.size w3 w5 := behind (boxed hb4 _) hb5
    have JJ := JN.out w5 hb53
    go_wp2_with fail
    refine JJ.mono ?_
    rintro e w6 ⟨rfl, hb6⟩
    have HF0 := HF.out w6 (behind (behind HX3.out hb53) hb6)
    rw [show bya (blkd [a0, a1, a2, a3] ++ [44, 32] ++ blkd [wn, vn] ++ [44, 32] ++ Lib.join (tx.map (·.data.toList)) [32]) = bya (blkd [a0, a1, a2, a3]) ++ ⟨#[44, 32]⟩ ++ bya (blkd [wn, vn]) ++ ⟨#[44, 32]⟩ ++ bya (Lib.join (tx.map (·.data.toList)) [32]) by
      rw [show (⟨#[44, 32]⟩ : ByteArray) = bya [44, 32] from rfl, bya_app, bya_app, bya_app, bya_app]] at HF0
    clear BLB JN HF BL1 BL2 JJ
    go_wp2
    go_ret
    exact HF0
theorem do_site (w : World) (h : DoPre w cb mb b Gw G W j a cap l) : Calls Tryz.prog 60 #[.pointer (some ⟨cb, 0, none⟩), .slice a l.length cap] w (DoPost 14 W l w cb mb G) := by
  cases hn : numsN 1 l with
  | none => exact site_no w h hn
  | some r => exact site_yes w h hn
end
end Go.Proofs.YtoanjdndmlffdaaGreatDoor
