import Derived.Test.YtoanjdndmlffdaaGreatDoorDkM9
namespace Go.Proofs.YtoanjdndmlffdaaGreatDoor
open Go.RowKit
set_option maxRecDepth 100000
set_option maxHeartbeats 24000000
section
variable {cb mb b j cap : Nat} {Gw G : Nat → Prop} {W : WoS} {a : Option Addr} {l : List ByteArray}
theorem touch_tx9 {W' : World} {g : Nat} (x0 x1 x2 x3 x4 x5 x6 x7 x8 : Value) : Touch (fun k => k = g) W' (((((((((W'.setCell ⟨g, 0, none⟩ x0).setCell ⟨g, 1, none⟩ x1).setCell ⟨g, 2, none⟩ x2).setCell ⟨g, 3, none⟩ x3).setCell ⟨g, 4, none⟩ x4).setCell ⟨g, 5, none⟩ x5).setCell ⟨g, 6, none⟩ x6).setCell ⟨g, 7, none⟩ x7).setCell ⟨g, 8, none⟩ x8) := by
  have hG : (fun k => k = g) g := rfl
  exact ((((((((Touch.setCell _ _ _ hG).trans (Touch.setCell _ _ _ hG)).trans (Touch.setCell _ _ _ hG)).trans (Touch.setCell _ _ _ hG)).trans (Touch.setCell _ _ _ hG)).trans (Touch.setCell _ _ _ hG)).trans (Touch.setCell _ _ _ hG)).trans (Touch.setCell _ _ _ hG)).trans (Touch.setCell _ _ _ hG)
theorem row_tx {W' : World} {g : Nat} {vs : List Value} (h : RowL W' g vs) (hv : vs.length = 9) (x0 x1 x2 x3 x4 x5 x6 x7 x8 : Value) : RowL (((((((((W'.setCell ⟨g, 0, none⟩ x0).setCell ⟨g, 1, none⟩ x1).setCell ⟨g, 2, none⟩ x2).setCell ⟨g, 3, none⟩ x3).setCell ⟨g, 4, none⟩ x4).setCell ⟨g, 5, none⟩ x5).setCell ⟨g, 6, none⟩ x6).setCell ⟨g, 7, none⟩ x7).setCell ⟨g, 8, none⟩ x8) g [x0, x1, x2, x3, x4, x5, x6, x7, x8] := by
  match vs, hv with
  | [y0, y1, y2, y3, y4, y5, y6, y7, y8], _ => exact ((((((((h.set 0 x0 (by simp)).set 1 x1 (by simp)).set 2 x2 (by simp)).set 3 x3 (by simp)).set 4 x4 (by simp)).set 5 x5 (by simp)).set 6 x6 (by simp)).set 7 x7 (by simp)).set 8 x8 (by simp)
theorem box_kept {w' wb : World} {W' : WoS} {n k : Nat} {vs : List Value} (hG : ∀ k, Gw k → k < n) (hp : PWPo w' b Gw W' wb) (h : RowL w' k vs) (hk : n ≤ k) : RowL wb k vs := by
  obtain ⟨G', p1, p2, tt⟩ := hp
  exact h.kept (tt.block k h.lt (fun q => by have := hG k q; omega)) tt.size
theorem boxA {w wa wb : World} {W' : WoS} {T : TypeId} (hG : ∀ k, Gw k → k < w.heap.size) (hl : w.heap.size ≤ wa.heap.size) (hp : PWPo (wa.alloc (.cells #[.int .i64 0, .int .i64 0, .int .i64 0, .int .i64 0, .int .i64 0, .int .i64 0, .int .i64 0, .int .i64 0, .slice none 0 0] T)) b Gw W' wb) : RowL wb wa.heap.size [.int .i64 0, .int .i64 0, .int .i64 0, .int .i64 0, .int .i64 0, .int .i64 0, .int .i64 0, .int .i64 0, .slice none 0 0] := box_kept hG hp (RowL.new (w := wa) (T := T) [.int .i64 0, .int .i64 0, .int .i64 0, .int .i64 0, .int .i64 0, .int .i64 0, .int .i64 0, .int .i64 0, .slice none 0 0] rfl) hl
theorem boxB {w wa wb : World} {W' : WoS} {T : TypeId} (hG : ∀ k, Gw k → k < w.heap.size) (hba : Below ((w.alloc (.cells #[.int .i64 0, .int .i64 0, .int .i64 0, .int .i64 0, .int .i64 0, .int .i64 0, .int .i64 0, .int .i64 0, .slice none 0 0] T)).drew).heap.size ((w.alloc (.cells #[.int .i64 0, .int .i64 0, .int .i64 0, .int .i64 0, .int .i64 0, .int .i64 0, .int .i64 0, .int .i64 0, .slice none 0 0] T)).drew) wa) (hp : PWPo wa b Gw W' wb) : RowL wb w.heap.size [.int .i64 0, .int .i64 0, .int .i64 0, .int .i64 0, .int .i64 0, .int .i64 0, .int .i64 0, .int .i64 0, .slice none 0 0] := box_kept hG hp (((RowL.new (w := w) (T := T) [.int .i64 0, .int .i64 0, .int .i64 0, .int .i64 0, .int .i64 0, .int .i64 0, .int .i64 0, .int .i64 0, .slice none 0 0] rfl).drew).later hba) (Nat.le_refl _)
/-- behind the first statement -/
def CmMid (w : World) (cb mb : Nat) (G : Nat → Prop) (W' : WoS) (b5 : Nat) (site seq wall count d0 d1 d2 d3 : Int) (wx : World) : Prop := Left (ckP cb mb W') w G wx ∧ Gl wx ∧ ∃ v, RowL wx b5 [.int .i64 site, .int .i64 seq, .int .i64 wall, .int .i64 count, .int .i64 d0, .int .i64 d1, .int .i64 d2, .int .i64 d3, v]
theorem cm_a {w w1 wb : World} {W' : WoS} {b5 : Nat} {site seq wall count d0 d1 d2 d3 : Int} {v : Value} (h : DoPre w cb mb b Gw G W j a cap l) (hb : Below w.heap.size w w1) (hp : PWPo w1 b Gw W' wb) (h5 : w.heap.size ≤ b5) (h6 : b5 < w1.heap.size) (R : RowL wb b5 [.int .i64 0, .int .i64 0, .int .i64 0, .int .i64 0, .int .i64 0, .int .i64 0, .int .i64 0, .int .i64 0, .slice none 0 0]) :
    CmMid w cb mb G W' b5 site seq wall count d0 d1 d2 d3 (((((((((wb.setCell ⟨b5, 0, none⟩ (.int .i64 site)).setCell ⟨b5, 1, none⟩ (.int .i64 seq)).setCell ⟨b5, 2, none⟩ (.int .i64 wall)).setCell ⟨b5, 3, none⟩ (.int .i64 count)).setCell ⟨b5, 4, none⟩ (.int .i64 d0)).setCell ⟨b5, 5, none⟩ (.int .i64 d1)).setCell ⟨b5, 6, none⟩ (.int .i64 d2)).setCell ⟨b5, 7, none⟩ (.int .i64 d3)).setCell ⟨b5, 8, none⟩ v) := by
  obtain ⟨h1, h2⟩ := h.opAt hb hp h5 h6 (touch_tx9 (W' := wb) (g := b5) (.int .i64 site) (.int .i64 seq) (.int .i64 wall) (.int .i64 count) (.int .i64 d0) (.int .i64 d1) (.int .i64 d2) (.int .i64 d3) v)
  exact ⟨h1, h2, v, row_tx R rfl _ _ _ _ _ _ _ _ _⟩
theorem cm_b {w w1 wb : World} {W' : WoS} {T : TypeId} {site seq wall count d0 d1 d2 d3 : Int} {v : Value} (h : DoPre w cb mb b Gw G W j a cap l) (hb : Below w.heap.size w w1) (hp : PWPo w1 b Gw W' wb) :
    CmMid w cb mb G W' wb.heap.size site seq wall count d0 d1 d2 d3 (wb.alloc (.cells #[.int .i64 site, .int .i64 seq, .int .i64 wall, .int .i64 count, .int .i64 d0, .int .i64 d1, .int .i64 d2, .int .i64 d3, v] T)) := by
  have hx := boxed (Below.refl wb.heap.size wb) (.cells #[.int .i64 site, .int .i64 seq, .int .i64 wall, .int .i64 count, .int .i64 d0, .int .i64 d1, .int .i64 d2, .int .i64 d3, v] T)
  exact ⟨CkAt.after (h.ck.op h.g hb hp) hx, (h.gl2 hb hp).later hx, v, RowL.new (w := wb) (T := T) [.int .i64 site, .int .i64 seq, .int .i64 wall, .int .i64 count, .int .i64 d0, .int .i64 d1, .int .i64 d2, .int .i64 d3, v] rfl⟩
theorem commit_yes (w : World) (h : DoPre w cb mb b Gw G W j a cap l) {r : List Int} (hn : numsN 1 l = some r) : Calls Tryz.prog 51 #[.pointer (some ⟨cb, 0, none⟩), .slice a l.length cap] w (DoPost 5 W l w cb mb G) := by
  have HH : Hid (DoPre w cb mb b Gw G W j a cap l) := h
  obtain ⟨v, rfl⟩ : ∃ v, r = [v] := by
    unfold numsN at hn
    split at hn
    · rename_i q; exact List.length_eq_one_iff.1 ((numsW_length hn).trans q)
    · cases hn
  have N1 : Hid (∀ w', Below w.heap.size w w' → Calls Tryz.prog 95 #[.slice a l.length cap] w' fun e w2 => e = .returned (.int .i64 v) ∧ Below w'.heap.size w' w2) := fun w' hb => (one_any h.sm w' (h.gl.later hb) (h.st.later hb)).mono fun e w2 ⟨h1, h2⟩ => by
    rcases h2 with ⟨u, hv, he⟩ | ⟨hv, _⟩
    · have := hv.out; rw [hn] at this; injection this with this; injection this with this; rw [this]; exact ⟨he, h1⟩
    · have := hv.out; rw [hn] at this; cases this
  obtain ⟨site, seq, wall, count, d0, d1, d2, d3, er, W', told, HCm, OP0⟩ := op_commit (b := b) (G := Gw) v h.di
  have OP : Hid (∀ w', Below w.heap.size w w' → Calls Tryz.prog 103 #[.pointer (some ⟨b, 0, none⟩), .int .i64 v] w' fun e w2 => ∃ wa n wc, e = .returned (.tuple #[.agg #[.int .i64 site, .int .i64 seq, .int .i64 wall, .int .i64 count, .int .i64 d0, .int .i64 d1, .int .i64 d2, .int .i64 d3, .slice wa n wc], errV er]) ∧ PWPo w' b Gw W' w2) := fun w' hb => OP0 w' (h.ck.later hb).pw
  have HC : Hid (CmIs W v site seq wall count d0 d1 d2 d3 er W' told ∧ numsN 1 l = some [v]) := ⟨HCm, hn⟩
  have c0 := h.ck.cell0
  have c0a : ∀ o, (w.alloc o).cell? ⟨cb, 0, none⟩ = some (.pointer (some ⟨b, 0, none⟩)) := fun o => cell_later (boxed (Below.refl _ w) o) c0
  have HG : Hid (∀ k, Gw k → k < w.heap.size) := h.ck.pw.lt
  clear h hn OP0 HCm
  go_enter Tryz.func51, Tryz.ntmps51
  go_wp2
  go_cut [5, 6] (fun t5 t6 wx => ∃ b5 : Nat, t5 = .pointer (some ⟨b5, 0, none⟩) ∧ t6 = errV er ∧ Hid (CmMid w cb mb G W' b5 site seq wall count d0 d1 d2 d3 wx))
  case first =>
    go_region_with (first | (go_at_call 95; refine (N1.out _ (by repeat (first | (with_reducible exact Below.refl _ _) | (with_reducible refine boxed ?_ _) | (with_reducible refine Below.drew ?_)))).mono ?_; rintro e wa ⟨rfl, hba⟩; have hS : Below w.heap.size w wa := behind (by repeat (first | (with_reducible exact Below.refl _ _) | (with_reducible refine boxed ?_ _) | (with_reducible refine Below.drew ?_))) hba; have x0 := cell_later hS c0; have x0a := fun o => cell_later (boxed hS o) c0) | (go_at_call 103; refine (OP.out _ (by first | exact hS | exact boxed hS _)).mono ?_; rintro e wb ⟨ya, yn, yc, rfl, hp⟩; have hla := hS.size; (first | (have RB := boxA HG.out hla hp; have e0 := RB.cell 0 _ rfl; have f0 := RB.free 0 (by simp); have e1 := RB.cell 1 _ rfl; have f1 := RB.free 1 (by simp); have e2 := RB.cell 2 _ rfl; have f2 := RB.free 2 (by simp); have e3 := RB.cell 3 _ rfl; have f3 := RB.free 3 (by simp); have e4 := RB.cell 4 _ rfl; have f4 := RB.free 4 (by simp); have e5 := RB.cell 5 _ rfl; have f5 := RB.free 5 (by simp); have e6 := RB.cell 6 _ rfl; have f6 := RB.free 6 (by simp); have e7 := RB.cell 7 _ rfl; have f7 := RB.free 7 (by simp); have e8 := RB.cell 8 _ rfl; have f8 := RB.free 8 (by simp)) | (have RB := boxB HG.out hba hp; have e0 := RB.cell 0 _ rfl; have f0 := RB.free 0 (by simp); have e1 := RB.cell 1 _ rfl; have f1 := RB.free 1 (by simp); have e2 := RB.cell 2 _ rfl; have f2 := RB.free 2 (by simp); have e3 := RB.cell 3 _ rfl; have f3 := RB.free 3 (by simp); have e4 := RB.cell 4 _ rfl; have f4 := RB.free 4 (by simp); have e5 := RB.cell 5 _ rfl; have f5 := RB.free 5 (by simp); have e6 := RB.cell 6 _ rfl; have f6 := RB.free 6 (by simp); have e7 := RB.cell 7 _ rfl; have f7 := RB.free 7 (by simp); have e8 := RB.cell 8 _ rfl; have f8 := RB.free 8 (by simp)) | skip)))
    all_goals
      go_wp2
      go_meet
      case rel =>
        refine ⟨_, rfl, rfl, ?_⟩
        show CmMid w cb mb G W' _ site seq wall count d0 d1 d2 d3 _
        first
          | (have RB' := RB
             first
               | (with_reducible exact cm_a HH.out (boxed hS _) hp hla (by simp) RB')
               | (with_reducible exact cm_a HH.out hS hp (Nat.le_refl _) (by have q := hba.size; simp at q; omega) RB'))
          | (with_reducible exact cm_b HH.out hS hp)
  case rest =>
    obtain ⟨b5, rfl, rfl, HM⟩ := hcut
    have MU := must_any er wc HM.out.2.1
    have HE : Hid (∀ e w', Left (ckP cb mb W') w G w' → EndIs er told e → DoPost 5 W l w cb mb G e w') := fun e w' h1 h2 => ⟨W', er, told, by unfold DoTo; rw [if_neg (by decide)]; show match numsN 1 l with | none => _ | some ns => _; rw [HC.out.2]; exact HC.out.1.cmd.data (by decide), h2, h1⟩
    clear N1 OP c0 c0a HG
    go_wp2_with fail
    refine MU.mono ?_
    rintro e w3 ⟨hb3, (⟨h0, rfl⟩ | ⟨h0, rfl⟩)⟩
    rotate_left
    · exact ⟨rfl, HE.out _ _ (CkAt.after HM.out.1 hb3) (.inr ⟨h0, rfl⟩)⟩
    obtain ⟨HL, HG, v9, R0⟩ := HM.out
    have R := R0.later hb3
    have HG3 := HG.later hb3
    have e1 := R.cell 1 _ rfl
    have lt5 := R.lt
    have wf := HC.out.1.wf
    have HL3 : Hid (Left (ckP cb mb W') w G w3) := CkAt.after HL hb3
    have ty := HC.out.1.yes h0
    by_cases hs : seq = 0
    · subst hs
      rw [if_pos rfl] at ty
      have HF := HE.out (.returned (.string ⟨#[110, 111, 116, 104, 105, 110, 103]⟩)) w3 HL3.out (.inl ⟨h0, by rw [ty]⟩)
      clear MU HE HM HC wf h0 ty
      go_wp2
      go_ret
      exact HF
    rw [if_neg hs] at ty
    have l1 : (blkd [site, seq, wall, count]).length ≤ 88 := by have := blkd_len (l := [site, seq, wall, count]) (fun x hx => wf x (by simp at hx ⊢; rcases hx with e | e | e | e <;> simp [e])); simpa using this
    have l2 : (blkd [d0, d1, d2, d3]).length ≤ 88 := by have := blkd_len (l := [d0, d1, d2, d3]) (fun x hx => wf x (by simp at hx ⊢; rcases hx with e | e | e | e <;> simp [e])); simpa using this
    have A1 := fun w => addS (P := Tryz.prog) (bya (blkd [site, seq, wall, count])) ⟨#[58, 32]⟩ (by simp [bya_size]; omega) w
    have A2 := fun w => addS (P := Tryz.prog) (bya (blkd [site, seq, wall, count]) ++ ⟨#[58, 32]⟩) (bya (blkd [d0, d1, d2, d3])) (by simp [bya_size]; omega) w
    have hwx : Below w3.heap.size w3 ((w3.alloc (.cells #[.int .i64 site, .int .i64 seq, .int .i64 wall, .int .i64 count] 3)).drew) := (boxed (Below.refl _ w3) _).drew
    have BL1 := blanked_any (b := w3.heap.size) (o := 0) (cap := 4) (l := [site, seq, wall, count]) (by simp) (by simp) (fun x hx => wf x (by simp at hx ⊢; rcases hx with e | e | e | e <;> simp [e])) ((w3.alloc (.cells #[.int .i64 site, .int .i64 seq, .int .i64 wall, .int .i64 count] 3)).drew) (HG3.later hwx) (by simp) (ints_new (w := w3) (T := 3) [site, seq, wall, count])
    have BLD : Hid (∀ w', Below w3.heap.size w3 w' → Calls Tryz.prog 102 #[.slice (some ⟨b5, 4, none⟩) 4 4] w' fun e w2 => e = .returned (.string (bya (blkd [d0, d1, d2, d3]))) ∧ Below w'.heap.size w' w2) := fun w' h2 => by
      have r2 := R.later h2
      exact blanked_any (b := b5) (o := 4) (cap := 4) (l := [d0, d1, d2, d3]) (by simp) (by simp) (fun x hx => wf x (by simp at hx ⊢; rcases hx with e | e | e | e <;> simp [e])) w' (HG3.later h2) r2.lt (fun q x hx => by
        match q, hx with
        | 0, hx => simp at hx; subst hx; exact r2.cell 4 _ rfl
        | 1, hx => simp at hx; subst hx; exact r2.cell 5 _ rfl
        | 2, hx => simp at hx; subst hx; exact r2.cell 6 _ rfl
        | 3, hx => simp at hx; subst hx; exact r2.cell 7 _ rfl
        | n + 4, hx => simp at hx)
    have HF : Hid (∀ w', Below w3.heap.size w3 w' → DoPost 5 W l w cb mb G (.returned (.string (bya (blkd [site, seq, wall, count]) ++ ⟨#[58, 32]⟩ ++ bya (blkd [d0, d1, d2, d3])))) w') := fun w' hb => HE.out _ _ (CkAt.after HL3.out hb) (.inl ⟨h0, by rw [ty, ← bya_app, ← bya_app]⟩)
    dsimp only [List.length_cons, List.length_nil, Nat.reduceAdd] at BL1
    have X0 := fun (w' : World) (h : Below w3.heap.size w3 w') => (R.later h).cell 0 _ rfl
    have X1 := fun (w' : World) (h : Below w3.heap.size w3 w') => (R.later h).cell 1 _ rfl
    have X2 := fun (w' : World) (h : Below w3.heap.size w3 w') => (R.later h).cell 2 _ rfl
    have X3 := fun (w' : World) (h : Below w3.heap.size w3 w') => (R.later h).cell 3 _ rfl
    clear l1 l2 h0 wf MU HC ty HE HM R R0 HL HG HG3
    go_wp2
    go_region_held3 (fun w' => Below w3.heap.size w3 w') ((repeat (first | (with_reducible assumption) | (with_reducible refine boxed ?_ _) | (with_reducible refine Below.drew ?_) | (with_reducible exact Below.refl _ _))))
      (first | (go_at_call 102; (with_reducible refine BL1.mono ?_); rintro e w4 ⟨rfl, hb4⟩; have hb43 : Below w3.heap.size w3 w4 := behind hwx hb4; have BL2 := BLD.out w4 hb43) | (go_at_call 102; (with_reducible refine BL2.mono ?_); rintro e w5 ⟨rfl, hb5⟩; have hb53 := behind hb43 hb5; have HF0 := HF.out w5 hb53))
    all_goals
      clear BL1 BL2 HF BLD
      go_wp2
      go_ret
      exact HF0
theorem do_commit (w : World) (h : DoPre w cb mb b Gw G W j a cap l) : Calls Tryz.prog 51 #[.pointer (some ⟨cb, 0, none⟩), .slice a l.length cap] w (DoPost 5 W l w cb mb G) := by
  cases hn : numsN 1 l with
  | none => exact commit_no w h hn
  | some r => exact commit_yes w h hn
end
end Go.Proofs.YtoanjdndmlffdaaGreatDoor
