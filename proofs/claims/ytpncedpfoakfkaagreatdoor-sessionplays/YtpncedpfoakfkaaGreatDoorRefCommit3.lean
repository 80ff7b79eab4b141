/-
  A commit that goes well, at a site of the document, as the model runs it (copseref.Site.Commit).
-/
import Derived.Test.YtpncedpfoakfkaaGreatDoorSiteE
namespace Go.Proofs.YtpncedpfoakfkaaGreatDoor
open Go.RowKit

theorem wrap_next' {x : Int} (h0 : 0 ≤ x) (h1 : x ≤ 1099511627776) : wrap64 (x + 1) = x + 1 := by
  unfold wrap64
  omega
theorem setTx_block0 {W : World} {b k : Nat} (h : k ≠ b) (x0 x1 x2 x3 x4 x5 x6 x7 : Int) (v : Value) : (setTx W b x0 x1 x2 x3 x4 x5 x6 x7 v).heap[k]? = W.heap[k]? :=
  (Below.heap_setCell _ _ _ _ h).trans ((Below.heap_setCell _ _ _ _ h).trans ((Below.heap_setCell _ _ _ _ h).trans ((Below.heap_setCell _ _ _ _ h).trans ((Below.heap_setCell _ _ _ _ h).trans ((Below.heap_setCell _ _ _ _ h).trans ((Below.heap_setCell _ _ _ _ h).trans ((Below.heap_setCell _ _ _ _ h).trans (Below.heap_setCell _ _ _ _ h))))))))
theorem wrIn_of_own {w : World} {g c : Nat} {ws : List Wr} (h : w.ownsRow 0 83 3 (.slice (some ⟨g, 0, none⟩) (0 + ws.length) c) (0 + ws.length) ([] ++ wrsC ws)) : WrIn w (some ⟨g, 0, none⟩) c ws := by
  rw [Nat.zero_add, List.nil_append] at h
  obtain ⟨a, c', e, hW⟩ := wrIn_own h
  injection e with e1 e2 e3
  subst e1 e3
  exact hW
theorem touch_cell0 {F : Nat → Prop} {w W : World} {p : Addr} (h : Touch F w W) (hB : w.heap.size ≤ p.block) (v : Value) : Touch F w (W.setCell p v) :=
  ⟨h.os, h.tape, h.output, by simpa [World.setCell] using h.size, fun k hk hn => (Below.heap_setCell _ _ _ _ (by omega)).trans (h.block k hk hn)⟩
theorem touch_tx0 {F : Nat → Prop} {w W : World} {b : Nat} (h : Touch F w W) (hB : w.heap.size ≤ b) (x0 x1 x2 x3 x4 x5 x6 x7 : Int) (v : Value) : Touch F w (setTx W b x0 x1 x2 x3 x4 x5 x6 x7 v) :=
  touch_cell0 (touch_cell0 (touch_cell0 (touch_cell0 (touch_cell0 (touch_cell0 (touch_cell0 (touch_cell0 (touch_cell0 h hB _) hB _) hB _) hB _) hB _) hB _) hB _) hB _) hB _
theorem SMem.keptB {w w' : World} {b : Nat} {lv wv sv : Value} {S : SiteS} {log waits : List TxM} (h : SMem w b lv wv sv S log waits) (hk : ∀ k, (footS b lv wv sv k ∨ ∃ m ∈ log ++ waits, m.blk k) → w'.heap[k]? = w.heap[k]?) (hs : w.heap.size ≤ w'.heap.size) : SMem w' b lv wv sv S log waits :=
  ⟨h.box.kept (hk b (.inl (.inl rfl))) hs, own_keptN h.rlog (fun k e => hk k (.inl (.inr (.inl e)))), own_keptN h.rwait (fun k e => hk k (.inl (.inr (.inr (.inl e))))), own_keptN h.own (fun k e => hk k (.inl (.inr (.inr (.inr e))))), h.ok, h.nl, h.nw, h.ns, h.lw, h.ls, h.ws,
    fun m hm => ⟨(h.hold m hm).1.kept (fun k e => hk k (.inr ⟨m, hm, e⟩)), (h.hold m hm).2⟩⟩
/-- what is left behind a commit that goes well -/
def CommitYes (w : World) (b : Nat) (lv wv sv : Value) (S : SiteS) (log waits : List TxM) (now d0 d1 d2 d3 : Int) (ws : List Wr) (e : Ending) (w' : World) : Prop :=
  ∃ (wa : Option Addr) (wc : Nat) (lv' sv' : Value), e = .returned (.tuple #[.agg (txC ⟨commitT S now d0 d1 d2 d3 ws, wa, wc⟩).toArray, .int .i64 0]) ∧
    SMem w' b lv' wv sv' (applyS S (commitT S now d0 d1 d2 d3 ws)) (log ++ [⟨commitT S now d0 d1 d2 d3 ws, wa, wc⟩]) waits ∧ (∀ k, footS b lv' wv sv' k → footS b lv wv sv k ∨ w.heap.size ≤ k) ∧ Touch (footS b lv wv sv) w w' ∧ ∀ k, (⟨commitT S now d0 d1 d2 d3 ws, wa, wc⟩ : TxM).blk k → w.heap.size ≤ k
theorem refCommit_fin {w WF w9 : World} {b g cap9 : Nat} {lv wv sv lv' sv' : Value} {S : SiteS} {log waits : List TxM} {now d0 d1 d2 d3 x0 x1 x2 x3 x4 x5 x6 x7 : Int} {ws : List Wr} (h : SMem w b lv wv sv S log waits) (hb : Below w.heap.size w WF) (hs : w.heap.size + 1 < WF.heap.size)
    (M9 : SMem w9 b lv' wv sv' (applyS S ⟨x0, x1, x2, x3, x4, x5, x6, x7, ws⟩) (log ++ [⟨⟨x0, x1, x2, x3, x4, x5, x6, x7, ws⟩, some ⟨g, 0, none⟩, cap9⟩]) waits) (nf : ∀ k, footS b lv' wv sv' k → footS b lv wv sv k ∨ WF.heap.size ≤ k) (tt : Touch (footS b lv wv sv) WF w9) (hg : w.heap.size + 1 < g)
    (hct : commitT S now d0 d1 d2 d3 ws = ⟨x0, x1, x2, x3, x4, x5, x6, x7, ws⟩) :
    Hid (CommitYes w b lv wv sv S log waits now d0 d1 d2 d3 ws (.returned (.tuple #[.agg #[.int .i64 x0, .int .i64 x1, .int .i64 x2, .int .i64 x3, .int .i64 x4, .int .i64 x5, .int .i64 x6, .int .i64 x7, .slice (some ⟨g, 0, none⟩) ws.length cap9], .int .i64 0])) (setTx w9 (w.heap.size + 1) x0 x1 x2 x3 x4 x5 x6 x7 (.slice (some ⟨g, 0, none⟩) ws.length cap9))) := by
  have hblk : ∀ k, k ≠ w.heap.size + 1 → (setTx w9 (w.heap.size + 1) x0 x1 x2 x3 x4 x5 x6 x7 (.slice (some ⟨g, 0, none⟩) ws.length cap9)).heap[k]? = w9.heap[k]? := fun k hk => setTx_block0 hk x0 x1 x2 x3 x4 x5 x6 x7 _
  have hsz : (setTx w9 (w.heap.size + 1) x0 x1 x2 x3 x4 x5 x6 x7 (.slice (some ⟨g, 0, none⟩) ws.length cap9)).heap.size = w9.heap.size := by simp only [setTx, World.setCell, Array.size_modify]
  have tF := touch_tx0 ((Touch.ofBelow hb).more tt (fun k hk => .inl hk)) (Nat.le_succ w.heap.size) x0 x1 x2 x3 x4 x5 x6 x7 (.slice (some ⟨g, 0, none⟩) ws.length cap9)
  generalize setTx w9 (w.heap.size + 1) x0 x1 x2 x3 x4 x5 x6 x7 (.slice (some ⟨g, 0, none⟩) ws.length cap9) = W at *
  refine ⟨some ⟨g, 0, none⟩, cap9, lv', sv', by rw [hct]; rfl, ?_, fun k hk => (nf k hk).imp id (fun e => by omega), tF, fun k hk => by
    obtain ⟨_, o, e1⟩ := hk
    injection e1 with e1
    injection e1 with e1 e2
    omega⟩
  rw [hct]
  refine M9.keptB (fun k hk => hblk k (fun e => ?_)) (by omega)
  rcases hk with h1 | ⟨m, hm, h1⟩
  · rcases nf k h1 with h2 | h2
    · have := h.lt k h2; omega
    · omega
  · have old : ∀ m ∈ log ++ waits, m.blk k → False := fun m hm h1 => by
      have := (h.hold m hm).1.blk_lt k h1
      omega
    rcases List.mem_append.1 hm with h2 | h2
    · rcases List.mem_append.1 h2 with h3 | h3
      · exact old m (List.mem_append.2 (.inl h3)) h1
      · rw [List.mem_singleton.1 h3] at h1
        obtain ⟨_, o, e1⟩ := h1
        injection e1 with e1
        injection e1 with e1 e2
        omega
    · exact old m (List.mem_append.2 (.inr h2)) h1

set_option maxRecDepth 100000 in
set_option maxHeartbeats 8000000 in
theorem refCommit_yes {b : Nat} {lv wv sv : Value} {S : SiteS} {log waits : List TxM} (now d0 d1 d2 d3 : Int) {a : Option Addr} {cap : Nat} {ws : List Wr} (w : World) (h : SMem w b lv wv sv S log waits) (hI : InvS S) (hlog : log.length = S.log.length) (hW : WrIn w a cap ws) (hX : ∀ k off, ws ≠ [] → a = some ⟨k, off, none⟩ → ¬ footS b lv wv sv k) (hE0 : commitE S log.length now d0 d1 d2 d3 ws = 0) :
    Calls Tryz.prog 8 #[.pointer (some ⟨b, 0, none⟩), .int .i64 now, .agg #[.int .i64 d0, .int .i64 d1, .int .i64 d2, .int .i64 d3], .slice a ws.length cap] w (CommitYes w b lv wv sv S log waits now d0 d1 d2 d3 ws) := by
  obtain ⟨la, lc, rfl, hT⟩ := txsIn_own h.rlog
  have hc1 := hT.len
  have hc2 := hT.cap
  have RD := (Row4.new w 32 d0 d1 d2 d3).boxed (.cells #[.int .i64 0, .int .i64 0, .int .i64 0, .int .i64 0, .int .i64 0, .int .i64 0, .int .i64 0, .int .i64 0, .slice none 0 0] 44)
  have RT : RowL ((w.alloc (.cells #[.int .i64 d0, .int .i64 d1, .int .i64 d2, .int .i64 d3] 32)).alloc (.cells #[.int .i64 0, .int .i64 0, .int .i64 0, .int .i64 0, .int .i64 0, .int .i64 0, .int .i64 0, .int .i64 0, .slice none 0 0] 44)) (w.heap.size + 1) txZ := RowL.new (w := w.alloc (.cells #[.int .i64 d0, .int .i64 d1, .int .i64 d2, .int .i64 d3] 32)) (T := 44) (n := w.heap.size + 1) [.int .i64 0, .int .i64 0, .int .i64 0, .int .i64 0, .int .i64 0, .int .i64 0, .int .i64 0, .int .i64 0, .slice none 0 0] (by simp)
  have hb := boxed (boxed (Below.refl _ w) (.cells #[.int .i64 d0, .int .i64 d1, .int .i64 d2, .int .i64 d3] 32)) (.cells #[.int .i64 0, .int .i64 0, .int .i64 0, .int .i64 0, .int .i64 0, .int .i64 0, .int .i64 0, .int .i64 0, .slice none 0 0] 44)
  have WI := hW.later hb
  have HH : Hid (SMem w b (.slice la log.length lc) wv sv S log waits) := h
  have HW : Hid (WrIn w a cap ws) := hW
  have hB : w.heap.size ≤ w.heap.size + 1 := by omega
  obtain ⟨z1, z2, z3, z4, z5⟩ := commitE_zero hE0
  have HOK : Hid (okWs ws = true) := z1
  have HV : Hid (timesB d0 d1 d2 d3 = true) := z2
  have HC : Hid (covB S.a0 S.a1 S.a2 S.a3 d0 d1 d2 d3 = true) := z3
  have HN5 : Hid ((nextP S.lw S.lc now).2.2 = 0) := z5
  have HE : Hid (commitE S log.length now d0 d1 d2 d3 ws = 0) := hE0
  have h200 : ¬ (200 : Int) ≤ (log.length : Int) := by omega
  have HI : Hid (InvS S) := hI
  have hi0 := hI.id0
  have hi3 := hI.id3
  clear h hW hE0 z1 z2 z3 z4 z5 hI
  go_enter Tryz.func8, Tryz.ntmps8
  go_wp2_with fail
  refine (refRightW_any WI).mono ?_
  rintro e w1 ⟨rfl, hb1⟩
  replace RD := RD.later hb1
  replace RT := RT.later hb1
  replace hb := behind hb hb1
  clear hb1 WI
  rw [HOK.out]
  have M1 : Hid (SMem w1 b (.slice la log.length lc) wv sv S log waits) := HH.out.later hb
  have c0 := Later.cell RD.c0
  have c1 := Later.cell RD.c1
  have c2 := Later.cell RD.c2
  have c3 := Later.cell RD.c3
  have k1 := Later.cell (M1.out.box.cell 1 _ rfl)
  have k2 := Later.cell (M1.out.box.cell 2 _ rfl)
  have k3 := Later.cell (M1.out.box.cell 3 _ rfl)
  have k4 := Later.cell (M1.out.box.cell 4 _ rfl)
  go_wp2_with fail
  refine wp_region_later (by kernel_rfl) (by kernel_rfl) ?_
  repeat (go_big_quiet_step (first | rfl | (go_at_call 48; with_reducible exact calls_later (refRightVec_is HV.out _)) | (go_at_call 49; with_reducible exact calls_later (refCovers_is HC.out _))))
  refine wpQuiet_nil ?_
  rintro w2 ⟨⟨_, hb2⟩, rfl⟩
  replace RT := RT.later hb2
  replace RD := RD.later hb2
  replace hb := behind hb hb2
  have M2 : Hid (SMem w2 b (.slice la log.length lc) wv sv S log waits) := M1.out.later hb2
  clear hb2 c0 c1 c2 c3 k1 k2 k3 k4 M1
  have s7 := M2.out.box.cell 7 _ rfl
  have k5 := M2.out.box.cell 5 _ rfl
  have k6 := M2.out.box.cell 6 _ rfl
  go_wp2_with fail
  refine (refNext_any S.lw S.lc now _).mono ?_
  rintro e w3 ⟨rfl, hb3⟩
  have M3 : Hid (SMem w3 b (.slice la log.length lc) wv sv S log waits) := M2.out.later hb3
  obtain ⟨⟨nw, nc, ne⟩, hnx⟩ : ∃ x, nextP S.lw S.lc now = x := ⟨_, rfl⟩
  have HNX : Hid (nextP S.lw S.lc now = (nw, nc, ne)) := hnx
  have hne : ne = 0 := by have := HN5.out; rw [hnx] at this; exact this
  rw [hnx]
  clear hnx
  subst hne
  have HSZ : Hid (w.heap.size + 1 < w3.heap.size) := (RT.later hb3).lt
  replace RT := (RT.later hb3).boxed (.cells #[.int .i64 nw, .int .i64 nc] 34)
  replace RD := (RD.later hb3).boxed (.cells #[.int .i64 nw, .int .i64 nc] 34)
  replace hb := boxed (behind hb hb3) (.cells #[.int .i64 nw, .int .i64 nc] 34)
  have RS := RowL.new (w := w3) (T := 34) [.int .i64 nw, .int .i64 nc] rfl
  have M4 : Hid (SMem (w3.alloc (.cells #[.int .i64 nw, .int .i64 nc] 34)) b (.slice la log.length lc) wv sv S log waits) := M3.out.later (boxed (Below.refl _ w3) _)
  clear hb3 M2 M3 s7 k5 k6
  obtain ⟨D, hD⟩ : ∃ D, depOf S.id S.a0 S.a1 S.a2 S.a3 = D := ⟨_, rfl⟩
  have hd := HI.out.dep S.id
  rw [hD] at hd
  have hwr := wrap_next' hd.1 hd.2
  have HCT0 : commitT S now d0 d1 d2 d3 ws = ⟨S.id, D + 1, nw, nc, setV0 S.id D d0, setV1 S.id D d1, setV2 S.id D d2, setV3 S.id D d3, ws⟩ := by unfold commitT; rw [hD, HNX.out]
  go_wp2_with fail
  obtain ⟨W4, hW4⟩ : ∃ W4, w3.alloc (.cells #[.int .i64 nw, .int .i64 nc] 34) = W4 := ⟨_, rfl⟩
  rw [hW4] at RT RD hb RS M4 ⊢
  clear hW4
  have k0 := Later.cell (M4.out.box.cell 0 _ rfl)
  have ks := Later.cell (site_at M4.out.box hi0 hi3)
  rw [hD] at ks
  have hi4 : S.id < 4 := by omega
  have HD : Hid (depOf S.id S.a0 S.a1 S.a2 S.a3 = D) := hD
  have HFT : Hid (∀ k, footS b (.slice la log.length lc) wv sv k → k < w.heap.size) := HH.out.lt
  have nb : b ≠ w.heap.size := by have := HFT.out b (.inl rfl); omega
  clear hD
  refine wp_region_later (by kernel_rfl) (by kernel_rfl) ?_
  repeat (go_big_quiet_step (first | rfl | fail))
  refine wpQuiet_nil ?_
  rintro W5 ⟨⟨_, hb5⟩, rfl⟩
  replace RT := RT.later hb5
  replace RD := RD.later hb5
  replace RS := RS.later hb5
  replace hb := behind hb hb5
  have M5 : Hid (SMem W5 b (.slice la log.length lc) wv sv S log waits) := M4.out.later hb5
  clear hb5 k0 ks M4
  have k0 := M5.out.box.cell 0 _ rfl
  have v1 := vec_at RD hi0 hi3
  have v2 := vec_free RD hi0 hi3
  go_wp2_with fail
  have RD6 := vec_set RD hi0 hi3 D
  have RT6 := RT.far ⟨w.heap.size, S.id.toNat, none⟩ (.int .i64 D) (by simp)
  have RS6 := RS.far ⟨w.heap.size, S.id.toNat, none⟩ (.int .i64 D) (by have := HSZ.out; simp only; omega)
  have hb6 := hb.setCell (p := ⟨w.heap.size, S.id.toNat, none⟩) (Nat.le_refl _) (.int .i64 D)
  have M6 : Hid (SMem (W5.setCell ⟨w.heap.size, S.id.toNat, none⟩ (.int .i64 D)) b (.slice la log.length lc) wv sv S log waits) := HH.out.later hb6
  have HS6 : Hid (w3.heap.size < (W5.setCell ⟨w.heap.size, S.id.toNat, none⟩ (.int .i64 D)).heap.size) := RS6.lt
  obtain ⟨W6, hW6⟩ : ∃ W6, W5.setCell ⟨w.heap.size, S.id.toNat, none⟩ (.int .i64 D) = W6 := ⟨_, rfl⟩
  rw [hW6] at RD6 RT6 RS6 hb6 M6 HS6 ⊢
  obtain ⟨e0, he0⟩ : ∃ x, setV0 S.id D d0 = x := ⟨_, rfl⟩
  obtain ⟨e1, he1⟩ : ∃ x, setV1 S.id D d1 = x := ⟨_, rfl⟩
  obtain ⟨e2, he2⟩ : ∃ x, setV2 S.id D d2 = x := ⟨_, rfl⟩
  obtain ⟨e3, he3⟩ : ∃ x, setV3 S.id D d3 = x := ⟨_, rfl⟩
  rw [he0, he1, he2, he3] at RD6 HCT0
  have HCT : Hid (commitT S now d0 d1 d2 d3 ws = ⟨S.id, D + 1, nw, nc, e0, e1, e2, e3, ws⟩) := HCT0
  clear hW6 he0 he1 he2 he3 HCT0 RD RT RS hb M5 k0 v1 v2
  have Y0 := fun (w' : World) (h : Below W6.heap.size W6 w') => cell_later h (M6.out.box.cell 0 _ rfl)
  have Y2 := fun (w' : World) (h : Below W6.heap.size W6 w') => cell_later h (RS6.cell 0 _ rfl)
  have Y3 := fun (w' : World) (h : Below W6.heap.size W6 w') => cell_later h (RS6.cell 1 _ rfl)
  have Y4 := fun (w' : World) (h : Below W6.heap.size W6 w') => cell_later h RD6.c0
  have Y5 := fun (w' : World) (h : Below W6.heap.size W6 w') => cell_later h RD6.c1
  have Y6 := fun (w' : World) (h : Below W6.heap.size W6 w') => cell_later h RD6.c2
  have Y7 := fun (w' : World) (h : Below W6.heap.size W6 w') => cell_later h RD6.c3
  have hb60 := (Below.refl W6.heap.size W6).drew
  obtain ⟨ab, off, haa, hcc⟩ : ∃ ab off, a = some ⟨ab, off, none⟩ ∧ WrCells W6 ab off ws := by
    rcases (HW.out.later hb6).held with h0 | h0
    · exfalso
      have := HOK.out
      rw [h0] at this
      simp [okWs, inB] at this
    · exact h0
  have HL5 : Hid (1 ≤ ws.length ∧ ws.length ≤ 5) := by
    have h1 := HOK.out
    simp only [okWs, Bool.and_eq_true, inB_iff] at h1
    show _ ∧ _
    omega
  have HNW : Hid (∀ W, Below W6.heap.size W6 W → ∀ j u, (wrsC ws)[j]? = some u → W.cell? ((⟨ab, off, none⟩ : Addr).add j) = some u) := fun W hW => news_wr (hcc.later hW)
  subst haa
  have hw2 : IntKind.i64.wrap (D + 1) = D + 1 := by rw [← wrap_next' hd.1 hd.2]; unfold wrap64 IntKind.wrap; simp [IntKind.signed, IntKind.bits]; omega
  obtain ⟨i0, hi, hz0, hz1, hz2⟩ := info_parts wrInfo
  clear hcc
  go_region_held3 (fun w' => Below W6.heap.size W6 w') (repeat (first | (with_reducible assumption) | (with_reducible exact Below.refl _ _) | (with_reducible refine boxed ?_ _) | (with_reducible refine Below.drew ?_) | (refine Below.setCell ?_ (by first | (with_reducible exact Nat.le_refl _) | (simp)) _)))
    (first
      | (refine step_append_lies _ rfl (.tmp 74) (.tmp 75) 42 rfl 0 83 i0 (.agg #[.int .i64 0, .string ⟨#[]⟩, .bool false]) 3 32 Tryz.underlying42 hi hz0 hz1 hz2 rfl (by decide) (.slice (some ⟨W6.heap.size, 0, none⟩) 0 0) 0 [] (by simp [Act.eval]) (own_none W6 83 rfl 0 (Nat.zero_le _)) ⟨ab, off, none⟩ ws.length cap (wrsC ws) (by simp [Act.eval]) (wrsC_length ws) (HNW.out _ (by repeat (first | (with_reducible assumption) | (with_reducible exact Below.refl _ _) | (with_reducible refine boxed ?_ _) | (with_reducible refine Below.drew ?_)))) (wrsC_one ws) (by have := HL5.out; omega) (by have := HL5.out; simp only [maxLen]; omega) (by have := HL5.out; omega) (by simp) _ rfl ?_; intro g cap9 wE ownE grE egE ltE; have hbE : Below W6.heap.size W6 wE := Below.grown (by repeat (first | (with_reducible assumption) | (with_reducible exact Below.refl _ _) | (with_reducible refine boxed ?_ _) | (with_reducible refine Below.drew ?_))) grE (by simp <;> omega) (fun j hj => by simp [Value.ownBlock] at hj <;> omega); have HG : Hid (W6.heap.size ≤ g ∧ g < wE.heap.size) := ⟨by rcases egE with h | h <;> simp [Value.ownBlock] at h <;> omega, ltE⟩)
      | (refine step_append_lies _ rfl (.tmp 74) (.tmp 75) 42 rfl 0 83 i0 (.agg #[.int .i64 0, .string ⟨#[]⟩, .bool false]) 3 32 Tryz.underlying42 hi hz0 hz1 hz2 rfl (by decide) (.slice (some ⟨W6.heap.size + 1, 0, none⟩) 0 0) 0 [] (by simp [Act.eval]) (own_none (W6.alloc (.cells #[.int .i64 0, .int .i64 0, .int .i64 0, .int .i64 0, .int .i64 0, .int .i64 0, .int .i64 0, .int .i64 0, .slice none 0 0] 44)) (n := W6.heap.size + 1) 83 (by simp) 0 (Nat.zero_le _)) ⟨ab, off, none⟩ ws.length cap (wrsC ws) (by simp [Act.eval]) (wrsC_length ws) (HNW.out _ (by repeat (first | (with_reducible assumption) | (with_reducible exact Below.refl _ _) | (with_reducible refine boxed ?_ _) | (with_reducible refine Below.drew ?_)))) (wrsC_one ws) (by have := HL5.out; omega) (by have := HL5.out; simp only [maxLen]; omega) (by have := HL5.out; omega) (by simp) _ rfl ?_; intro g cap9 wE ownE grE egE ltE; have hbE : Below W6.heap.size W6 wE := Below.grown (by repeat (first | (with_reducible assumption) | (with_reducible exact Below.refl _ _) | (with_reducible refine boxed ?_ _) | (with_reducible refine Below.drew ?_))) grE (by simp <;> omega) (fun j hj => by simp [Value.ownBlock] at hj <;> omega); have HG : Hid (W6.heap.size + 1 ≤ g ∧ g < wE.heap.size) := ⟨by rcases egE with h | h <;> simp [Value.ownBlock] at h <;> omega, ltE⟩; have RZ := (((RowL.new (w := W6) (T := 44) [.int .i64 0, .int .i64 0, .int .i64 0, .int .i64 0, .int .i64 0, .int .i64 0, .int .i64 0, .int .i64 0, .slice none 0 0] rfl).boxed (.cells #[] 83)).drew).grown grE (fun e => by simp [Value.ownBlock] at e <;> omega); have y0 := RZ.cell 0 _ rfl; have zz0 := RZ.free 0 (by simp); have y1 := RZ.cell 1 _ rfl; have zz1 := RZ.free 1 (by simp); have y2 := RZ.cell 2 _ rfl; have zz2 := RZ.free 2 (by simp); have y3 := RZ.cell 3 _ rfl; have zz3 := RZ.free 3 (by simp); have y4 := RZ.cell 4 _ rfl; have zz4 := RZ.free 4 (by simp); have y5 := RZ.cell 5 _ rfl; have zz5 := RZ.free 5 (by simp); have y6 := RZ.cell 6 _ rfl; have zz6 := RZ.free 6 (by simp); have y7 := RZ.cell 7 _ rfl; have zz7 := RZ.free 7 (by simp); have y8 := RZ.cell 8 _ rfl; have zz8 := RZ.free 8 (by simp))
      | (refine step_append_lies _ rfl (.tmp 74) (.tmp 75) 42 rfl 0 83 i0 (.agg #[.int .i64 0, .string ⟨#[]⟩, .bool false]) 3 32 Tryz.underlying42 hi hz0 hz1 hz2 rfl (by decide) (.slice (some ⟨W6.heap.size, 0, none⟩) 0 0) 0 [] (by simp [Act.eval]) ((own_none W6 83 rfl 0 (Nat.zero_le _)).alloc (.cells #[.int .i64 0, .int .i64 0, .int .i64 0, .int .i64 0, .int .i64 0, .int .i64 0, .int .i64 0, .int .i64 0, .slice none 0 0] 44)) ⟨ab, off, none⟩ ws.length cap (wrsC ws) (by simp [Act.eval]) (wrsC_length ws) (HNW.out _ (by repeat (first | (with_reducible assumption) | (with_reducible exact Below.refl _ _) | (with_reducible refine boxed ?_ _) | (with_reducible refine Below.drew ?_)))) (wrsC_one ws) (by have := HL5.out; omega) (by have := HL5.out; simp only [maxLen]; omega) (by have := HL5.out; omega) (by simp) _ rfl ?_; intro g cap9 wE ownE grE egE ltE; have hbE : Below W6.heap.size W6 wE := Below.grown (by repeat (first | (with_reducible assumption) | (with_reducible exact Below.refl _ _) | (with_reducible refine boxed ?_ _) | (with_reducible refine Below.drew ?_))) grE (by simp <;> omega) (fun j hj => by simp [Value.ownBlock] at hj <;> omega); have HG : Hid ((g = W6.heap.size ∨ W6.heap.size + 1 < g) ∧ g < wE.heap.size) := ⟨by rcases egE with h | h <;> simp [Value.ownBlock] at h <;> omega, ltE⟩; have RZ := ((RowL.new (w := W6.alloc (.cells #[] 83)) (T := 44) (n := W6.heap.size + 1) [.int .i64 0, .int .i64 0, .int .i64 0, .int .i64 0, .int .i64 0, .int .i64 0, .int .i64 0, .int .i64 0, .slice none 0 0] (by simp)).drew).grown grE (fun e => by simp [Value.ownBlock] at e <;> omega); have y0 := RZ.cell 0 _ rfl; have zz0 := RZ.free 0 (by simp); have y1 := RZ.cell 1 _ rfl; have zz1 := RZ.free 1 (by simp); have y2 := RZ.cell 2 _ rfl; have zz2 := RZ.free 2 (by simp); have y3 := RZ.cell 3 _ rfl; have zz3 := RZ.free 3 (by simp); have y4 := RZ.cell 4 _ rfl; have zz4 := RZ.free 4 (by simp); have y5 := RZ.cell 5 _ rfl; have zz5 := RZ.free 5 (by simp); have y6 := RZ.cell 6 _ rfl; have zz6 := RZ.free 6 (by simp); have y7 := RZ.cell 7 _ rfl; have zz7 := RZ.free 7 (by simp); have y8 := RZ.cell 8 _ rfl; have zz8 := RZ.free 8 (by simp)))
  focus
    have W0 := wrIn_of_own ownE
    have RXF : RowL (wE.alloc (.cells #[.int .i64 S.id, .int .i64 (D + 1), .int .i64 nw, .int .i64 nc, .int .i64 e0, .int .i64 e1, .int .i64 e2, .int .i64 e3, .slice (some ⟨g, 0, none⟩) ws.length cap9] 44)) wE.heap.size [.int .i64 S.id, .int .i64 (D + 1), .int .i64 nw, .int .i64 nc, .int .i64 e0, .int .i64 e1, .int .i64 e2, .int .i64 e3, .slice (some ⟨g, 0, none⟩) ws.length cap9] := RowL.new (w := wE) (T := 44) [.int .i64 S.id, .int .i64 (D + 1), .int .i64 nw, .int .i64 nc, .int .i64 e0, .int .i64 e1, .int .i64 e2, .int .i64 e3, .slice (some ⟨g, 0, none⟩) ws.length cap9] rfl
    have hbF : Below W6.heap.size W6 (wE.alloc (.cells #[.int .i64 S.id, .int .i64 (D + 1), .int .i64 nw, .int .i64 nc, .int .i64 e0, .int .i64 e1, .int .i64 e2, .int .i64 e3, .slice (some ⟨g, 0, none⟩) ws.length cap9] 44)) := boxed hbE (.cells #[.int .i64 S.id, .int .i64 (D + 1), .int .i64 nw, .int .i64 nc, .int .i64 e0, .int .i64 e1, .int .i64 e2, .int .i64 e3, .slice (some ⟨g, 0, none⟩) ws.length cap9] 44)
    have WG : WrIn (wE.alloc (.cells #[.int .i64 S.id, .int .i64 (D + 1), .int .i64 nw, .int .i64 nc, .int .i64 e0, .int .i64 e1, .int .i64 e2, .int .i64 e3, .slice (some ⟨g, 0, none⟩) ws.length cap9] 44)) (some ⟨g, 0, none⟩) cap9 ws := W0.later (boxed (Below.refl _ wE) (.cells #[.int .i64 S.id, .int .i64 (D + 1), .int .i64 nw, .int .i64 nc, .int .i64 e0, .int .i64 e1, .int .i64 e2, .int .i64 e3, .slice (some ⟨g, 0, none⟩) ws.length cap9] 44))
    obtain ⟨WF, hWF⟩ : ∃ WF, wE.alloc (.cells #[.int .i64 S.id, .int .i64 (D + 1), .int .i64 nw, .int .i64 nc, .int .i64 e0, .int .i64 e1, .int .i64 e2, .int .i64 e3, .slice (some ⟨g, 0, none⟩) ws.length cap9] 44) = WF := ⟨_, rfl⟩
    rw [hWF] at RXF hbF WG ⊢
    obtain ⟨xb, hxb⟩ : ∃ x, wE.heap.size = x := ⟨_, rfl⟩
    have HQX : Hid (W6.heap.size ≤ g ∧ W6.heap.size ≤ xb) := ⟨by have := HG.out; omega, by rw [← hxb]; first | exact hbE.size | omega⟩
    rw [hxb] at RXF ⊢
    clear hWF hxb W0 ownE grE egE ltE HG hbE 
  rotate_left
  focus
    have W0 := wrIn_of_own ownE
    have RXF : RowL (setTx wE (W6.heap.size + 1) S.id (D + 1) nw nc e0 e1 e2 e3 (.slice (some ⟨g, 0, none⟩) ws.length cap9)) (W6.heap.size + 1) [.int .i64 S.id, .int .i64 (D + 1), .int .i64 nw, .int .i64 nc, .int .i64 e0, .int .i64 e1, .int .i64 e2, .int .i64 e3, .slice (some ⟨g, 0, none⟩) ws.length cap9] := tx_set RZ rfl S.id (D + 1) nw nc e0 e1 e2 e3 (.slice (some ⟨g, 0, none⟩) ws.length cap9)
    have hbF : Below W6.heap.size W6 (setTx wE (W6.heap.size + 1) S.id (D + 1) nw nc e0 e1 e2 e3 (.slice (some ⟨g, 0, none⟩) ws.length cap9)) := tx_far hbE (Nat.le_succ _) S.id (D + 1) nw nc e0 e1 e2 e3 (.slice (some ⟨g, 0, none⟩) ws.length cap9)
    have WG : WrIn (setTx wE (W6.heap.size + 1) S.id (D + 1) nw nc e0 e1 e2 e3 (.slice (some ⟨g, 0, none⟩) ws.length cap9)) (some ⟨g, 0, none⟩) cap9 ws := WrIn.kept (m := ⟨⟨S.id, D + 1, nw, nc, e0, e1, e2, e3, ws⟩, some ⟨g, 0, none⟩, cap9⟩) (w := wE) W0 (fun k e => setTx_block0 (by obtain ⟨_, o, e⟩ := e; injection e with e; injection e with e; have := HG.out; omega) S.id (D + 1) nw nc e0 e1 e2 e3 (.slice (some ⟨g, 0, none⟩) ws.length cap9))
    obtain ⟨WF, hWF⟩ : ∃ WF, setTx wE (W6.heap.size + 1) S.id (D + 1) nw nc e0 e1 e2 e3 (.slice (some ⟨g, 0, none⟩) ws.length cap9) = WF := ⟨_, rfl⟩
    rw [hWF] at RXF hbF WG
    simp only [setTx] at hWF
    rw [hWF]
    obtain ⟨xb, hxb⟩ : ∃ x, W6.heap.size + 1 = x := ⟨_, rfl⟩
    have HQX : Hid (W6.heap.size ≤ g ∧ W6.heap.size ≤ xb) := ⟨by have := HG.out; omega, by rw [← hxb]; first | exact hbE.size | omega⟩
    rw [hxb] at RXF ⊢
    clear hWF hxb W0 ownE grE egE ltE HG hbE RZ y0 zz0 y1 zz1 y2 zz2 y3 zz3 y4 zz4 y5 zz5 y6 zz6 y7 zz7 y8 zz8
  rotate_left
  focus
    have W0 := wrIn_of_own ownE
    have RXF : RowL (setTx wE W6.heap.size S.id (D + 1) nw nc e0 e1 e2 e3 (.slice (some ⟨g, 0, none⟩) ws.length cap9)) W6.heap.size [.int .i64 S.id, .int .i64 (D + 1), .int .i64 nw, .int .i64 nc, .int .i64 e0, .int .i64 e1, .int .i64 e2, .int .i64 e3, .slice (some ⟨g, 0, none⟩) ws.length cap9] := tx_set RZ rfl S.id (D + 1) nw nc e0 e1 e2 e3 (.slice (some ⟨g, 0, none⟩) ws.length cap9)
    have hbF : Below W6.heap.size W6 (setTx wE W6.heap.size S.id (D + 1) nw nc e0 e1 e2 e3 (.slice (some ⟨g, 0, none⟩) ws.length cap9)) := tx_far hbE (Nat.le_refl _) S.id (D + 1) nw nc e0 e1 e2 e3 (.slice (some ⟨g, 0, none⟩) ws.length cap9)
    have WG : WrIn (setTx wE W6.heap.size S.id (D + 1) nw nc e0 e1 e2 e3 (.slice (some ⟨g, 0, none⟩) ws.length cap9)) (some ⟨g, 0, none⟩) cap9 ws := WrIn.kept (m := ⟨⟨S.id, D + 1, nw, nc, e0, e1, e2, e3, ws⟩, some ⟨g, 0, none⟩, cap9⟩) (w := wE) W0 (fun k e => setTx_block0 (by obtain ⟨_, o, e⟩ := e; injection e with e; injection e with e; have := HG.out; omega) S.id (D + 1) nw nc e0 e1 e2 e3 (.slice (some ⟨g, 0, none⟩) ws.length cap9))
    obtain ⟨WF, hWF⟩ : ∃ WF, setTx wE W6.heap.size S.id (D + 1) nw nc e0 e1 e2 e3 (.slice (some ⟨g, 0, none⟩) ws.length cap9) = WF := ⟨_, rfl⟩
    rw [hWF] at RXF hbF WG
    simp only [setTx] at hWF
    rw [hWF]
    obtain ⟨xb, hxb⟩ : ∃ x, W6.heap.size = x := ⟨_, rfl⟩
    have HQX : Hid (W6.heap.size ≤ g ∧ W6.heap.size ≤ xb) := ⟨by have := HG.out; omega, by rw [← hxb]; first | exact hbE.size | omega⟩
    rw [hxb] at RXF ⊢
    clear hWF hxb W0 ownE grE egE ltE HG hbE RZ y0 zz0 y1 zz1 y2 zz2 y3 zz3 y4 zz4 y5 zz5 y6 zz6 y7 zz7 y8 zz8
  rotate_left
  all_goals
    clear Y0 Y2 Y3 Y4 Y5 Y6 Y7 hb60
    have RTF := RT6.later hbF
    have MF := M6.out.later hbF
    have HSF : Hid (w.heap.size + 1 < W6.heap.size) := RT6.lt
    have HBW : Hid (Below w.heap.size w WF) := behind hb6 hbF
    have HLG : Hid (log.length = S.log.length) := hlog
    have HSL : Hid (S.l.length + ws.length ≤ 1000 ∧ log.length ≤ 1000) := by
      have q1 := HI.out.len
      have q2 := HL5.out
      have q3 := HLG.out
      have q4 : log.length < 200 := by omega
      show _ ∧ _
      omega
    have nfx : ∀ k, w.heap.size ≤ k → ¬ footS b (.slice la log.length lc) wv sv k := fun k hk hf => by
      have := HFT.out k hf
      omega
    have AP := refApplies_any ⟨⟨S.id, D + 1, nw, nc, e0, e1, e2, e3, ws⟩, some ⟨g, 0, none⟩, cap9⟩ WF MF ⟨WG, fun k e hf => by
      obtain ⟨_, o, e⟩ := e
      injection e with e
      injection e with e1 e2
      have q1 := HQX.out.1
      have q2 := HFT.out k hf
      have q3 := HSF.out
      omega⟩ hi0 hi3 HSL.out.1 HSL.out.2
    have HNF : Hid (∀ k, w.heap.size ≤ k → ¬ footS b (.slice la log.length lc) wv sv k) := nfx
    clear MF WG nfx
    have x0 := RXF.cell 0 _ rfl
    have x1 := RXF.cell 1 _ rfl
    have x2 := RXF.cell 2 _ rfl
    have x3 := RXF.cell 3 _ rfl
    have x4 := RXF.cell 4 _ rfl
    have x5 := RXF.cell 5 _ rfl
    have x6 := RXF.cell 6 _ rfl
    have x7 := RXF.cell 7 _ rfl
    have x8 := RXF.cell 8 _ rfl
    go_wp2_with fail
    refine AP.mono ?_
    rintro e w9 ⟨rfl, lv', sv', M9, nf9, tt9⟩
    have RX9 := RXF.kept (tt9.block _ RXF.lt (HNF.out _ (by have := HQX.out.2; have := HSF.out; omega))) tt9.size
    have RT9 := RTF.kept (tt9.block _ RTF.lt (HNF.out _ (by omega))) tt9.size
    have FIN := refCommit_fin HH.out HBW.out (by have := HSF.out; have := hbF.size; omega) M9 nf9 tt9 (by have := HQX.out.1; have := HSF.out; omega) HCT.out
    clear M9 nf9 tt9 x0 x1 x2 x3 x4 x5 x6 x7 x8 AP RTF RXF
    have x0 := RX9.cell 0 _ rfl
    have x1 := RX9.cell 1 _ rfl
    have x2 := RX9.cell 2 _ rfl
    have x3 := RX9.cell 3 _ rfl
    have x4 := RX9.cell 4 _ rfl
    have x5 := RX9.cell 5 _ rfl
    have x6 := RX9.cell 6 _ rfl
    have x7 := RX9.cell 7 _ rfl
    have x8 := RX9.cell 8 _ rfl
    have r0 := RT9.cell 0 _ rfl
    have p0 := RT9.free 0 (by simp [txZ])
    have r1 := RT9.cell 1 _ rfl
    have p1 := RT9.free 1 (by simp [txZ])
    have r2 := RT9.cell 2 _ rfl
    have p2 := RT9.free 2 (by simp [txZ])
    have r3 := RT9.cell 3 _ rfl
    have p3 := RT9.free 3 (by simp [txZ])
    have r4 := RT9.cell 4 _ rfl
    have p4 := RT9.free 4 (by simp [txZ])
    have r5 := RT9.cell 5 _ rfl
    have p5 := RT9.free 5 (by simp [txZ])
    have r6 := RT9.cell 6 _ rfl
    have p6 := RT9.free 6 (by simp [txZ])
    have r7 := RT9.cell 7 _ rfl
    have p7 := RT9.free 7 (by simp [txZ])
    have r8 := RT9.cell 8 _ rfl
    have p8 := RT9.free 8 (by simp [txZ])
    have RZF := tx_set RT9 rfl S.id (D + 1) nw nc e0 e1 e2 e3 (.slice (some ⟨g, 0, none⟩) ws.length cap9)
    clear RX9 RT9
    go_wp2_with fail
    exact bodyPost_ret (commit_results RZF rfl rfl) rfl FIN.out

end Go.Proofs.YtpncedpfoakfkaaGreatDoor
