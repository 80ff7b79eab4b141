import Derived.Test.YtoanjdndmlffdaaGreatDoorDkM5
namespace Go.Proofs.YtoanjdndmlffdaaGreatDoor
open Go.RowKit
set_option maxRecDepth 100000
set_option maxHeartbeats 8000000
section
variable {cb mb b j cap : Nat} {Gw G : Nat → Prop} {W : WoS} {a : Option Addr} {l : List ByteArray}
theorem client_yes (w : World) (h : DoPre w cb mb b Gw G W j a cap l) {r : List Int} (hn : numsN 1 l = some r) : Calls Tryz.prog 50 #[.pointer (some ⟨cb, 0, none⟩), .slice a l.length cap] w (DoPost 4 W l w cb mb G) := by
  have HH : Hid (DoPre w cb mb b Gw G W j a cap l) := h
  obtain ⟨v, rfl⟩ : ∃ v, r = [v] := by
    unfold numsN at hn
    split at hn
    · rename_i q; exact List.length_eq_one_iff.1 ((numsW_length hn).trans q)
    · cases hn
  have N1 : Hid (∀ w', Below w.heap.size w w' → Calls Tryz.prog 95 #[.slice a l.length cap] w' fun e w2 => e = .returned (.int .i64 v) ∧ Below w'.heap.size w' w2) := fun w' hb => (one_any h.sm w' (h.gl.later hb) (h.st.later hb)).mono fun e w2 ⟨h1, h2⟩ => by
    rcases h2 with ⟨u, hv, he⟩ | ⟨hv, _⟩
    · have := hv.out; rw [hn] at this; injection this with this; injection this with this; rw [this]; exact ⟨he, h1⟩
    · have := hv.out; rw [hn] at this; cases this
  obtain ⟨at_, p0, p1, p2, p3, s0, s1, s2, s3, op, er, HCli, OP0⟩ := op_client (b := b) (G := Gw) v h.di
  have OP : Hid (∀ w', Below w.heap.size w w' → Calls Tryz.prog 101 #[.pointer (some ⟨b, 0, none⟩), .int .i64 v] w' fun e w2 => e = .returned (.tuple #[.int .i64 at_, .agg #[.int .i64 p0, .int .i64 p1, .int .i64 p2, .int .i64 p3], .agg #[.int .i64 s0, .int .i64 s1, .int .i64 s2, .int .i64 s3], .bool op, errV er]) ∧ Below w'.heap.size w' w2) := fun w' hb => OP0 w' (h.ck.later hb).pw
  have HC : Hid (CliIs W v at_ p0 p1 p2 p3 s0 s1 s2 s3 op er ∧ numsN 1 l = some [v]) := ⟨HCli, hn⟩
  have c0 := h.ck.cell0
  have X0 := fun (w' : World) (h : Below w.heap.size w w') => cell_later h c0
  clear h hn OP0 HCli c0
  go_enter Tryz.func50, Tryz.ntmps50
  go_wp2
  go_cut [5, 6, 7, 8, 9] (fun t5 t6 t7 t8 t9 wx => ∃ b6 b7 : Nat, t5 = .int .i64 at_ ∧ t6 = .pointer (some ⟨b6, 0, none⟩) ∧ t7 = .pointer (some ⟨b7, 0, none⟩) ∧ t8 = .bool op ∧ t9 = errV er ∧ Below w.heap.size w wx ∧ Row4 wx b6 p0 p1 p2 p3 ∧ Row4 wx b7 s0 s1 s2 s3)
  case first =>
    go_region_held3 (fun w' => Below w.heap.size w w') ((repeat (first | (with_reducible assumption) | (with_reducible refine boxed ?_ _) | (with_reducible refine Below.drew ?_) | (with_reducible refine Below.setCell ?_ (by first | (simp; done) | (simp; omega)) _) | (with_reducible exact Below.refl _ _))))
      (first | (go_at_call 95; refine (N1.out _ (by with_reducible assumption)).mono ?_; rintro e wa ⟨rfl, hba⟩; have hS : Below w.heap.size w wa := behind (by with_reducible assumption) hba; have hla := hS.size; obtain ⟨hc1, hf1⟩ := bcell hba; have hz1 := blt hba; have n1 := bne hba; have m1 := bne2 hba) | (go_at_call 101; refine (OP.out _ (by with_reducible assumption)).mono ?_; rintro e wb ⟨rfl, hbb⟩; have hSb : Below w.heap.size w wb := behind (by with_reducible assumption) hbb; have hlb := hSb.size; have hab : Below wa.heap.size wa wb := (by first | exact hbb | exact behind (boxed (Below.refl _ _) _) hbb | exact behind (boxed (boxed (Below.refl _ _) _) _) hbb); have h12 := behind hba hab; obtain ⟨hc2, hf2⟩ := bcell hbb; obtain ⟨hc3, hf3⟩ := bcell h12; have hz2 := blt hbb; have hz3 := blt h12))
    all_goals
      go_wp2
      go_meet
      case rel =>
        refine ⟨_, _, rfl, rfl, rfl, rfl, rfl, by assumption, ?_, ?_⟩
        · (repeat (first | (with_reducible refine Row4.newest ?_; (first | rfl | (simp; done))) | (with_reducible refine Row4.boxed ?_ _) | (with_reducible refine Row4.set (a0 := 0) (a1 := 0) (a2 := 0) (a3 := 0) ?_) | (with_reducible refine Row4.far4 ?_ ?_; rotate_left; (first | (simp; done) | (simp; omega) | omega)))); all_goals (constructor <;> go_simp)
        · (repeat (first | (with_reducible refine Row4.newest ?_; (first | rfl | (simp; done))) | (with_reducible refine Row4.boxed ?_ _) | (with_reducible refine Row4.set (a0 := 0) (a1 := 0) (a2 := 0) (a3 := 0) ?_) | (with_reducible refine Row4.far4 ?_ ?_; rotate_left; (first | (simp; done) | (simp; omega) | omega)))); all_goals (constructor <;> go_simp)
  case rest =>
    obtain ⟨b6, b7, rfl, rfl, rfl, rfl, rfl, hbx, R6, R7⟩ := hcut
    have HB : Hid (Below w.heap.size w wc ∧ Row4 wc b6 p0 p1 p2 p3 ∧ Row4 wc b7 s0 s1 s2 s3) := ⟨hbx, R6, R7⟩
    have MU := must_any er wc (HH.out.gl.later hbx)
    clear hbx R6 R7 X0 N1 OP
    go_wp2_with fail
    refine MU.mono ?_
    rintro e w3 ⟨hb3, (⟨h0, rfl⟩ | ⟨h0, rfl⟩)⟩
    rotate_left
    · exact ⟨rfl, HH.out.told (by decide) HC.out.2 HC.out.1.cmd (behind HB.out.1 hb3) (.inr ⟨h0, rfl⟩)⟩
    have hbx3 := behind HB.out.1 hb3
    have wf := HC.out.1.wf
    have hby : Below w.heap.size w ((w3.alloc (.cells #[.int .i64 at_] 3)).drew) := (boxed hbx3 _).drew
    have BL1 := blanked_any (b := w3.heap.size) (o := 0) (cap := 1) (l := [at_]) (by simp) (by simp) (fun x hx => wf x (by simp at hx; simp [hx])) ((w3.alloc (.cells #[.int .i64 at_] 3)).drew) (HH.out.gl.later hby) (by simp) (ints_new (w := w3) (T := 3) [at_])
    dsimp only [List.length_cons, List.length_nil, Nat.reduceAdd] at BL1
    have BLP : Hid (∀ w', Below w.heap.size w w' → Below w3.heap.size w3 w' → Calls Tryz.prog 102 #[.slice (some ⟨b6, 0, none⟩) 4 4] w' fun e w2 => e = .returned (.string (bya (blkd [p0, p1, p2, p3]))) ∧ Below w'.heap.size w' w2) := fun w' h1 h2 => blanked_any (b := b6) (o := 0) (cap := 4) (l := [p0, p1, p2, p3]) (by simp) (by simp) (fun x hx => wf x (by simp at hx ⊢; rcases hx with e | e | e | e <;> simp [e])) w' (HH.out.gl.later h1) (Nat.lt_of_lt_of_le (HB.out.2.1.later hb3).lt h2.size) (row4_ints ((HB.out.2.1.later hb3).later h2))
    have BLS : Hid (∀ w', Below w.heap.size w w' → Below w3.heap.size w3 w' → Calls Tryz.prog 102 #[.slice (some ⟨b7, 0, none⟩) 4 4] w' fun e w2 => e = .returned (.string (bya (blkd [s0, s1, s2, s3]))) ∧ Below w'.heap.size w' w2) := fun w' h1 h2 => blanked_any (b := b7) (o := 0) (cap := 4) (l := [s0, s1, s2, s3]) (by simp) (by simp) (fun x hx => wf x (by simp at hx ⊢; rcases hx with e | e | e | e <;> simp [e])) w' (HH.out.gl.later h1) (Nat.lt_of_lt_of_le (HB.out.2.2.later hb3).lt h2.size) (row4_ints ((HB.out.2.2.later hb3).later h2))
    have l1 : (blkd [at_]).length ≤ 22 := by have := blkd_len (l := [at_]) (fun x hx => wf x (by simp at hx; simp [hx])); simpa using this
    have l2 : (blkd [p0, p1, p2, p3]).length ≤ 88 := by have := blkd_len (l := [p0, p1, p2, p3]) (fun x hx => wf x (by simp at hx ⊢; rcases hx with e | e | e | e <;> simp [e])); simpa using this
    have l3 : (blkd [s0, s1, s2, s3]).length ≤ 88 := by have := blkd_len (l := [s0, s1, s2, s3]) (fun x hx => wf x (by simp at hx ⊢; rcases hx with e | e | e | e <;> simp [e])); simpa using this
    have A1 := fun w => addS (P := Tryz.prog) (bya (blkd [at_])) ⟨#[44, 32]⟩ (by simp [bya_size]; omega) w
    have A2 := fun w => addS (P := Tryz.prog) (bya (blkd [at_]) ++ ⟨#[44, 32]⟩) (bya (blkd [p0, p1, p2, p3])) (by simp [bya_size]; omega) w
    have A3 := fun w => addS (P := Tryz.prog) ⟨#[44, 32]⟩ (bya (blkd [s0, s1, s2, s3])) (by simp [bya_size]; omega) w
    have A4 := fun w => addS (P := Tryz.prog) (bya (blkd [at_]) ++ ⟨#[44, 32]⟩ ++ bya (blkd [p0, p1, p2, p3])) (⟨#[44, 32]⟩ ++ bya (blkd [s0, s1, s2, s3])) (by simp [bya_size]; omega) w
    clear l1 l2 l3
    have HF : Hid (∀ w', Below w.heap.size w w' → DoPost 4 W l w cb mb G (.returned (.string (bya (blkd [at_] ++ [44, 32] ++ blkd [p0, p1, p2, p3] ++ if op = true then [44, 32] ++ blkd [s0, s1, s2, s3] else [])))) w') := fun w' hb => HH.out.told (by decide) HC.out.2 HC.out.1.cmd hb (.inl ⟨h0, by rw [if_pos h0]⟩)
    have HX3 : Hid (Below w.heap.size w w3) := hbx3
    clear h0 hbx3 wf MU HC
    have hw3 : Below w3.heap.size w3 ((w3.alloc (.cells #[.int .i64 at_] 3)).drew) := (boxed (Below.refl _ w3) _).drew
    go_wp2
    go_region_with (first | (go_at_call 102; (with_reducible refine BL1.mono ?_); rintro e w4 ⟨rfl, hb4⟩; have hb4w : Below w.heap.size w w4 := behind hby hb4; have hb43 : Below w3.heap.size w3 w4 := behind hw3 hb4; have BL2 := BLP.out w4 hb4w hb43) | (go_at_call 102; (with_reducible refine BL2.mono ?_); rintro e w5 ⟨rfl, hb5⟩; have hb5w : Below w.heap.size w w5 := behind hb4w hb5; have hb53 : Below w3.heap.size w3 w5 := behind hb43 hb5))
    all_goals
      clear BL1 BL2 hby hw3
      cases op
      · have HF0 := HF.out w5 hb5w
        rw [if_neg (by simp)] at HF0
        rw [show bya (blkd [at_] ++ [44, 32] ++ blkd [p0, p1, p2, p3] ++ []) = bya (blkd [at_]) ++ ⟨#[44, 32]⟩ ++ bya (blkd [p0, p1, p2, p3]) by
          rw [show (⟨#[44, 32]⟩ : ByteArray) = bya [44, 32] from rfl, bya_app, bya_app]; simp] at HF0
        clear BLP BLS HF A1 A2 A3 A4
        go_wp2
        go_ret
        exact HF0
      · have BL3 := BLS.out w5 hb5w hb53
        go_wp2_with fail
        refine BL3.mono ?_
        rintro e w6 ⟨rfl, hb6⟩
        have HF0 := HF.out w6 (behind hb5w hb6)
        rw [if_pos (by trivial)] at HF0
        rw [show bya (blkd [at_] ++ [44, 32] ++ blkd [p0, p1, p2, p3] ++ ([44, 32] ++ blkd [s0, s1, s2, s3])) = bya (blkd [at_]) ++ ⟨#[44, 32]⟩ ++ bya (blkd [p0, p1, p2, p3]) ++ (⟨#[44, 32]⟩ ++ bya (blkd [s0, s1, s2, s3])) by
          rw [show (⟨#[44, 32]⟩ : ByteArray) = bya [44, 32] from rfl, bya_app, bya_app, bya_app, bya_app]] at HF0
        clear BLP BLS HF BL3
        go_wp2
        go_ret
        exact HF0
theorem do_client (w : World) (h : DoPre w cb mb b Gw G W j a cap l) : Calls Tryz.prog 50 #[.pointer (some ⟨cb, 0, none⟩), .slice a l.length cap] w (DoPost 4 W l w cb mb G) := by
  cases hn : numsN 1 l with
  | none => exact client_no w h hn
  | some r => exact client_yes w h hn
end
end Go.Proofs.YtoanjdndmlffdaaGreatDoor
