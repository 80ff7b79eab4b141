import Derived.Test.YtoanjdndmlffdaaGreatDoorSiteK
namespace Go.Proofs.YtoanjdndmlffdaaGreatDoor
open Go.RowKit
theorem numW_wf {s : ByteArray} {v : Int} (h : numW s = some v) : wfI v := by
  unfold numW at h
  split at h
  · rename_i x hx
    split at h
    · injection h with h
      subst h
      have := Lib.parseIntB_bounds hx
      simp at this
      exact ⟨by omega, by omega⟩
    · cases h
  · cases h
theorem numsW_wf : ∀ {l : List ByteArray} {r : List Int}, numsW l = some r → ∀ v ∈ r, wfI v
  | [], r, h => by simp [numsW] at h; subst h; simp
  | x :: l, r, h => by
    simp only [numsW] at h
    cases hx : numW x with
    | none => rw [hx] at h; cases h
    | some v =>
      rw [hx] at h
      simp only at h
      cases hl : numsW l with
      | none => rw [hl] at h; cases h
      | some q =>
        rw [hl] at h
        injection h with h
        subst h
        intro y hy
        rcases List.mem_cons.1 hy with e | e
        · rw [e]; exact numW_wf hx
        · exact numsW_wf hl y e
theorem numsN_wf {m : Nat} {l : List ByteArray} {r : List Int} (h : numsN m l = some r) : ∀ v ∈ r, wfI v := by
  unfold numsN at h
  split at h
  · exact numsW_wf h
  · cases h
theorem readV_short {key a0 a1 a2 a3 : Int} {l : List Hd} (h : ∀ x ∈ l, okVer x.v = true) : (readV key a0 a1 a2 a3 l).1.data.size ≤ 12 := by
  unfold readV
  split
  · cases hl : lastV key a0 a1 a2 a3 l with
    | none => exact Nat.zero_le _
    | some v =>
      obtain ⟨x, hx, rfl, _⟩ := lastV_mem hl
      have := h x hx
      simp only [okVer, Bool.and_eq_true, decide_eq_true_eq] at this
      unfold readO
      simp only
      split
      · exact Nat.zero_le _
      · show x.v.data.size ≤ 12
        have := this.1.2
        omega
  · exact Nat.zero_le _
theorem sread_short {S : SiteS} {s : SesS} {key : Int} (hs : SesI s) (hI : InvS S) : (sreadV S s key).1.size ≤ 12 := by
  unfold sreadV
  split
  · exact Nat.zero_le _
  · split
    · rename_i x hx
      split
      · exact Nat.zero_le _
      · exact hs.ws x (ownW_key hx).2
    · show (readS S key s.s0 s.s1 s.s2 s.s3).1.data.size ≤ 12
      unfold readS
      split
      · exact readV_short hI.ok
      · exact Nat.zero_le _
/-- a Read with whatever numbers -/
def RdEnd (W : WoS) (k key : Int) (w : World) (e : Ending) (w' : World) : Prop :=
  ∃ d er told, CmdTo 13 W [k, key] ⟨#[]⟩ W er told ∧ (er = 0 → told = [105, 115, 32] ++ d.data.toList) ∧ d.size ≤ 12 ∧ e = .returned (.tuple #[.string d, errV er]) ∧ Below w.heap.size w w'
theorem op_read {b : Nat} {G : Nat → Prop} {W : WoS} (k key : Int) (hkey : wfI key) (w : World) (h : PW w b G W) (hD : DkI W) : Calls Tryz.prog 113 #[.pointer (some ⟨b, 0, none⟩), .int .i64 k, .int .i64 key] w (RdEnd W k key w) := by
  obtain ⟨j, hI⟩ := hD.pl
  by_cases hk : There k W.c
  · obtain ⟨i, rfl, hi, e⟩ := there_nat hk
    exact (pw_read key (wf_i hkey) w h hI.wf hi).mono fun _ _ ⟨h1, h2⟩ => ⟨_, _, _, ⟨rfl, by rw [if_pos hk]; exact ⟨rfl, rfl⟩⟩, fun _ => rfl, sread_short (hD.ses i hi) (hI.wf.inv _ (hI.wf.at_ i hi)), h1, h2⟩
  · exact (pw_read_no k key w h hk).mono fun _ _ ⟨h1, h2⟩ => ⟨⟨#[]⟩, 2, [], ⟨rfl, by rw [if_neg hk]; exact ⟨rfl, rfl⟩⟩, fun e => (by cases e), Nat.zero_le _, h1, h2⟩

set_option maxRecDepth 100000
set_option maxHeartbeats 4000000
section
variable {cb mb b j cap : Nat} {Gw G : Nat → Prop} {W : WoS} {a : Option Addr} {l : List ByteArray}
theorem DoPre.told {w : World} {i : Nat} {ns : List Int} {er : Int} {told : List UInt8} {w' : World} {e : Ending} (h : DoPre w cb mb b Gw G W j a cap l) (hi : i ≠ 18) (hn : numsN (arity i) l = some ns) (hc : CmdTo i W ns ⟨#[]⟩ W er told) (hb : Below w.heap.size w w') (he : EndIs er told e) : DoPost i W l w cb mb G e w' :=
  ⟨W, er, told, by unfold DoTo; rw [if_neg hi, hn]; exact hc.data hi, he, h.ck.same h.g hb⟩
theorem do_read (w : World) (h : DoPre w cb mb b Gw G W j a cap l) : Calls Tryz.prog 59 #[.pointer (some ⟨cb, 0, none⟩), .slice a l.length cap] w (DoPost 13 W l w cb mb G) := by
  have HH : Hid (DoPre w cb mb b Gw G W j a cap l) := h
  have N1 := fun w' hb => two_any h.sm w' (h.gl.later (w' := w') hb) (h.st.later hb)
  replace N1 := N1 w.drew (Below.refl _ w).drew
  have c0 := h.ck.cell0
  clear h
  go_enter Tryz.func59, Tryz.ntmps59
  go_wp2
  refine wp_region_any (by kernel_rfl) ?_
  change wpAny _ _ _ _ _ _ _ (World.drew _)
  refine wpAny_take (i := 0) (v := ?_) rfl (by kernel_rfl) (by kernel_rfl) (by kernel_rfl) (fun _ _ _ h => h) (Or.inl ⟨by rfl, ?_⟩) ?_
  rotate_left
  · intro w0; first | (go_simp; done) | (go_simp; with_reducible rfl)
  go_simp
  refine wpAny_take (i := 1) (v := ?_) rfl (by kernel_rfl) (by kernel_rfl) (by kernel_rfl) (fun _ _ _ h => h) (Or.inl ⟨by rfl, ?_⟩) ?_
  rotate_left
  · intro w0; first | (go_simp; done) | (go_simp; with_reducible rfl)
  go_simp
  refine wpAny_take (i := 2) (v := ?_) rfl (by kernel_rfl) (by kernel_rfl) (by kernel_rfl) (fun _ _ _ h => h) (Or.inl ⟨by rfl, ?_⟩) ?_
  rotate_left
  · intro w0; first | (go_simp; done) | (go_simp; with_reducible rfl)
  go_simp
  refine wpAny_take (i := 4) (v := ?_) rfl (by kernel_rfl) (by kernel_rfl) (by kernel_rfl) (fun _ _ _ h => h) (Or.inl ⟨by rfl, ?_⟩) ?_
  rotate_left
  · intro w0; first | (go_simp; done) | (go_simp; with_reducible rfl)
  go_simp
  refine wpAny_ready (rs := [3, 5]) (by kernel_rfl) (by simp) ?_
  refine AllReady.cons rfl (fun K hK => ?_) (AllReady.cons rfl (fun K hK => ?_) AllReady.nil)
  dsimp only [List.getElem_toArray, List.getElem_cons_succ, List.getElem_cons_zero]
  go_simp
  refine hK _ _ ?_
  clear hK K
  refine wpAny_ready (rs := [5]) (by kernel_rfl) (by simp) ?_
  refine AllReady.cons rfl (fun K hK => ?_) AllReady.nil
  dsimp only [List.getElem_toArray, List.getElem_cons_succ, List.getElem_cons_zero]
  rw [if_pos (by rfl)]
  refine wp_callP 97 #[.slice a l.length cap] (by go_simp) N1 ?_
  rintro e w1 ⟨hb1, (⟨u, v, hv, rfl⟩ | ⟨hv, rfl⟩)⟩
  rotate_left
  · exact .inr ⟨_, rfl, rfl, HH.out.no (by decide) hv.out (behind (Below.refl _ w).drew hb1)⟩
  dsimp only [List.getElem_toArray, List.getElem_cons_succ, List.getElem_cons_zero]
  rw [if_pos (by rfl)]
  refine wp_callP 97 #[.slice a l.length cap] (by go_simp) N1 ?_
  rintro e w1 ⟨hb1, (⟨u, v, hv, rfl⟩ | ⟨hv, rfl⟩)⟩
  rotate_left
  · exact .inr ⟨_, rfl, rfl, HH.out.no (by decide) hv.out (behind (Below.refl _ w).drew hb1)⟩
  all_goals
    have hbw := behind (Below.refl _ w).drew hb1
    have c1 := (HH.out.ck.later hbw).cell0
    have OP := op_read u v (numsN_wf hv.out v (by simp)) w1 (HH.out.ck.later hbw).pw HH.out.di
    refine .inl ⟨_, rfl, ?_⟩
    go_simp
    refine hK _ _ ?_
    clear hK K
    refine wpAny_take (i := 6) (v := ?_) rfl (by kernel_rfl) (by kernel_rfl) (by kernel_rfl) (fun _ _ _ h => h) (Or.inl ⟨by rfl, ?_⟩) ?_
    rotate_left
    · intro w0; first | (go_simp; done) | (go_simp; with_reducible rfl)
    go_simp
    refine wpAny_take (i := 7) (v := ?_) rfl (by kernel_rfl) (by kernel_rfl) (by kernel_rfl) (fun _ _ _ h => h) (Or.inl ⟨by rfl, ?_⟩) ?_
    rotate_left
    · intro w0; first | (go_simp; done) | (go_simp; with_reducible rfl)
    go_simp
  rotate_left
  refine wpAny_ready (rs := [3]) (by kernel_rfl) (by simp) ?_
  refine AllReady.cons rfl (fun K hK => ?_) AllReady.nil
  dsimp only [List.getElem_toArray, List.getElem_cons_succ, List.getElem_cons_zero]
  go_simp
  refine hK _ _ ?_
  clear hK K
  all_goals
    refine wpAny_ready (rs := [8]) (by kernel_rfl) (by simp) ?_
    refine AllReady.cons rfl (fun K hK => ?_) AllReady.nil
    dsimp only [List.getElem_toArray, List.getElem_cons_succ, List.getElem_cons_zero]
    rw [if_pos (by rfl)]
    refine wp_callP 113 #[.pointer (some ⟨b, 0, none⟩), .int .i64 u, .int .i64 v] (by go_simp) OP ?_
    rintro e w2 ⟨d, er, told, hc, ht, hd, rfl, hb2⟩
    have hb02 := behind hbw hb2
    have MU := must_any er w2 (HH.out.gl.later hb02)
    have HC : Hid (∀ e w3, Below w2.heap.size w2 w3 → EndIs er told e → DoPost 13 W l w cb mb G e w3) := fun e w3 hb3 he => HH.out.told (by decide) hv.out hc (behind hb02 hb3) he
    have HT : Hid (er = 0 → told = [105, 115, 32] ++ d.data.toList) := ht
    have A1 := fun w => addS (P := Tryz.prog) ⟨#[105, 115, 32]⟩ d (by show 3 + d.size ≤ _; omega) w
    clear hc ht hd c1 c0 OP
    refine .inl ⟨_, rfl, ?_⟩
    go_simp
    refine hK _ _ ?_
    clear hK K
    refine wpAny_take (i := 9) (v := ?_) rfl (by kernel_rfl) (by kernel_rfl) (by kernel_rfl) (fun _ _ _ h => h) (Or.inl ⟨by rfl, ?_⟩) ?_
    rotate_left
    · intro w0; first | (go_simp; done) | (go_simp; with_reducible rfl)
    go_simp
    refine wpAny_take (i := 10) (v := ?_) rfl (by kernel_rfl) (by kernel_rfl) (by kernel_rfl) (fun _ _ _ h => h) (Or.inl ⟨by rfl, ?_⟩) ?_
    rotate_left
    · intro w0; first | (go_simp; done) | (go_simp; with_reducible rfl)
    go_simp
    refine wpAny_take (i := 11) (v := ?_) rfl (by kernel_rfl) (by kernel_rfl) (by kernel_rfl) (fun _ _ _ h => h) (Or.inl ⟨by rfl, ?_⟩) ?_
    rotate_left
    · intro w0; first | (go_simp; done) | (go_simp; with_reducible rfl)
    go_simp
    refine wpAny_take (i := 12) (v := ?_) rfl (by kernel_rfl) (by kernel_rfl) (by kernel_rfl) (fun _ _ _ h => h) (Or.inl ⟨by rfl, ?_⟩) ?_
    rotate_left
    · intro w0; first | (go_simp; done) | (go_simp; with_reducible rfl)
    go_simp
    refine wpAny_take (i := 13) (v := ?_) rfl (by kernel_rfl) (by kernel_rfl) (by kernel_rfl) (fun _ _ _ h => h) (Or.inl ⟨by rfl, ?_⟩) ?_
    rotate_left
    · intro w0; first | (go_simp; done) | (go_simp; with_reducible rfl)
    go_simp
    refine wpAny_done (by kernel_rfl) ?_ _
    go_wp2_with fail
    refine MU.mono ?_
    rintro e w3 ⟨hb3, (⟨h0, rfl⟩ | ⟨h0, rfl⟩)⟩
    rotate_left
    · exact ⟨rfl, HC.out _ _ hb3 (.inr ⟨h0, rfl⟩)⟩
    have HF := HC.out _ _ hb3 (.inl ⟨h0, rfl⟩)
    rw [HT.out h0, ← bya_app] at HF
    clear h0 HC MU HT
    go_wp2
    go_ret
    exact HF
end
end Go.Proofs.YtoanjdndmlffdaaGreatDoor
