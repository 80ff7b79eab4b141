import Derived.Test.YtoanjdndmlffdaaGreatDoorSiteG
namespace Go.Proofs.YtoanjdndmlffdaaGreatDoor
open Go.RowKit
set_option maxRecDepth 100000 in
set_option maxHeartbeats 16000000 in
theorem commit_apart {b : Nat} {G : Nat → Prop} {S : SiteS} (now d0 d1 d2 d3 : Int) {a : Option Addr} {cap : Nat} {ws : List Wr} (w : World) (h : PS w b G S) (hI : InvS S) (hW : WrIn w a cap ws) (hX : ∀ k off, ws ≠ [] → a = some ⟨k, off, none⟩ → ¬ G k) :
    Calls Tryz.prog 206 #[.pointer (some ⟨b, 0, none⟩), .int .i64 now, .agg #[.int .i64 d0, .int .i64 d1, .int .i64 d2, .int .i64 d3], .slice a ws.length cap] w (CommitA w b G S now d0 d1 d2 d3 ws) := by
  have RD := (Row4.new w 77 d0 d1 d2 d3).boxed (.cells #[.int .i64 0, .int .i64 0, .int .i64 0, .int .i64 0, .int .i64 0, .int .i64 0, .int .i64 0, .int .i64 0, .slice none 0 0] 102)
  have RT : RowL ((w.alloc (.cells #[.int .i64 d0, .int .i64 d1, .int .i64 d2, .int .i64 d3] 77)).alloc (.cells #[.int .i64 0, .int .i64 0, .int .i64 0, .int .i64 0, .int .i64 0, .int .i64 0, .int .i64 0, .int .i64 0, .slice none 0 0] 102)) (w.heap.size + 1) txZ := RowL.new (w := w.alloc (.cells #[.int .i64 d0, .int .i64 d1, .int .i64 d2, .int .i64 d3] 77)) (T := 102) (n := w.heap.size + 1) [.int .i64 0, .int .i64 0, .int .i64 0, .int .i64 0, .int .i64 0, .int .i64 0, .int .i64 0, .int .i64 0, .slice none 0 0] (by simp)
  have hb := boxed (boxed (Below.refl _ w) (.cells #[.int .i64 d0, .int .i64 d1, .int .i64 d2, .int .i64 d3] 77)) (.cells #[.int .i64 0, .int .i64 0, .int .i64 0, .int .i64 0, .int .i64 0, .int .i64 0, .int .i64 0, .int .i64 0, .slice none 0 0] 102)
  have WI := hW.later hb
  have HP : Hid (PS w b G S) := h
  have HW : Hid (WrIn w a cap ws) := hW
  have HX : Hid (∀ k off, ws ≠ [] → a = some ⟨k, off, none⟩ → ¬ G k) := hX
  have HI : Hid (InvS S) := hI
  have hB : w.heap.size ≤ w.heap.size + 1 := by omega
  have hi0 := hI.id0
  have hi3 := hI.id3
  have HNO : Hid (∀ (w9 : World) (ev : Int), comE S now d0 d1 d2 d3 ws = ev → ev ≠ 0 → Below w.heap.size w w9 → Hid (CommitA w b G S now d0 d1 d2 d3 ws (.returned (.tuple #[txV tx0, errV ev])) w9)) := fun w9 ev h1 h2 h3 => by
    refine ⟨tx0, G, by rw [h1], ?_, ⟨⟨Nat.le_refl _, by decide, .inl rfl⟩, ?_, fun k hk => .inl hk, Touch.ofBelow h3, fun k hk => absurd rfl hk.1⟩⟩
    · unfold comT; rw [if_neg (by rw [h1]; exact h2)]; rfl
    · unfold comS; rw [if_neg (by rw [h1]; exact h2)]; exact HP.out.later h3
  clear h hW hX hI
  go_enter Tryz.func206, Tryz.ntmps206
  go_wp2_with fail
  refine (rightW_any WI).mono ?_
  rintro e w1 ⟨rfl, hb1⟩
  replace RD := RD.later hb1
  replace RT := RT.later hb1
  replace hb := behind hb hb1
  clear hb1 WI
  cases hok : okWs ws
  · have E : Hid (comE S now d0 d1 d2 d3 ws = 1) := by show commitE _ _ _ _ _ _ _ _ = 1; unfold commitE; rw [if_pos hok]
    clear hok
    have r0 := RT.cell 0 _ rfl
    have p0 := RT.free 0 (by simp [txZ])
    have r1 := RT.cell 1 _ rfl
    have p1 := RT.free 1 (by simp [txZ])
    have r2 := RT.cell 2 _ rfl
    have p2 := RT.free 2 (by simp [txZ])
    have r3 := RT.cell 3 _ rfl
    have p3 := RT.free 3 (by simp [txZ])
    have r4 := RT.cell 4 _ rfl
    have p4 := RT.free 4 (by simp [txZ])
    have r5 := RT.cell 5 _ rfl
    have p5 := RT.free 5 (by simp [txZ])
    have r6 := RT.cell 6 _ rfl
    have p6 := RT.free 6 (by simp [txZ])
    have r7 := RT.cell 7 _ rfl
    have p7 := RT.free 7 (by simp [txZ])
    have r8 := RT.cell 8 _ rfl
    have p8 := RT.free 8 (by simp [txZ])
    have RZ := tx_set RT rfl 0 0 0 0 0 0 0 0 (.slice none 0 0)
    have hbZ := tx_far hb hB 0 0 0 0 0 0 0 0 (.slice none 0 0)
    have FIN := HNO.out _ 1 E.out (by decide) hbZ
    clear HNO
    go_wp2_with fail
    exact bodyPost_ret (pCommit_results (m := tx0) (ev := errV 1) RZ rfl rfl) rfl FIN.out
  · have HOK : Hid (okWs ws = true) := hok
    clear hok
    obtain ⟨lv, bm, F, log, waits, PM, hl, hw, hG⟩ := HP.out.later hb
    have HPM : Hid (log.map (·.t) = S.log ∧ waits.map (·.t) = S.waits ∧ ∀ k, G k ↔ (footQ b lv bm F k ∨ ∃ m ∈ log ++ waits, m.blk k)) := ⟨hl, hw, hG⟩
    have hll : log.length = S.log.length := by rw [← hl]; simp
    have M1 : Hid (PMem w1 b lv bm F S log waits) := PM
    clear PM hl hw hG
    have c0 := Later.cell RD.c0
    have c1 := Later.cell RD.c1
    have c2 := Later.cell RD.c2
    have c3 := Later.cell RD.c3
    have k1 := Later.cell (M1.out.box.cell 1 _ rfl)
    have k2 := Later.cell (M1.out.box.cell 2 _ rfl)
    have k3 := Later.cell (M1.out.box.cell 3 _ rfl)
    have k4 := Later.cell (M1.out.box.cell 4 _ rfl)
    cases hv : timesB d0 d1 d2 d3
    · have HV : Hid (timesB d0 d1 d2 d3 = false) := hv
      have E : Hid (comE S now d0 d1 d2 d3 ws = 10) := by show commitE _ _ _ _ _ _ _ _ = 10; unfold commitE; rw [if_neg (by rw [HOK.out]; decide), if_pos hv]
      clear hv
      go_wp2_with fail
      refine wp_region_later (by kernel_rfl) (by kernel_rfl) ?_
      repeat (go_big_quiet_step (first | rfl | (go_at_call 203; with_reducible exact calls_later (rightv_is HV.out _))))
      refine wpQuiet_nil ?_
      rintro w2 ⟨⟨_, hb2⟩, rfl⟩
      replace RT := RT.later hb2
      replace hb := behind hb hb2
      clear hb2 c0 c1 c2 c3 k1 k2 k3 k4 M1
      have r0 := RT.cell 0 _ rfl
      have p0 := RT.free 0 (by simp [txZ])
      have r1 := RT.cell 1 _ rfl
      have p1 := RT.free 1 (by simp [txZ])
      have r2 := RT.cell 2 _ rfl
      have p2 := RT.free 2 (by simp [txZ])
      have r3 := RT.cell 3 _ rfl
      have p3 := RT.free 3 (by simp [txZ])
      have r4 := RT.cell 4 _ rfl
      have p4 := RT.free 4 (by simp [txZ])
      have r5 := RT.cell 5 _ rfl
      have p5 := RT.free 5 (by simp [txZ])
      have r6 := RT.cell 6 _ rfl
      have p6 := RT.free 6 (by simp [txZ])
      have r7 := RT.cell 7 _ rfl
      have p7 := RT.free 7 (by simp [txZ])
      have r8 := RT.cell 8 _ rfl
      have p8 := RT.free 8 (by simp [txZ])
      have RZ := tx_set RT rfl 0 0 0 0 0 0 0 0 (.slice none 0 0)
      have hbZ := tx_far hb hB 0 0 0 0 0 0 0 0 (.slice none 0 0)
      have FIN := HNO.out _ 10 E.out (by decide) hbZ
      clear HNO
      go_wp2_with fail
      exact bodyPost_ret (pCommit_results (m := tx0) (ev := errV 10) RZ rfl rfl) rfl FIN.out
    · have HV : Hid (timesB d0 d1 d2 d3 = true) := hv
      clear hv
      cases hc : covB S.a0 S.a1 S.a2 S.a3 d0 d1 d2 d3
      · have HC : Hid (covB S.a0 S.a1 S.a2 S.a3 d0 d1 d2 d3 = false) := hc
        have E : Hid (comE S now d0 d1 d2 d3 ws = 10) := by show commitE _ _ _ _ _ _ _ _ = 10; unfold commitE; rw [if_neg (by rw [HOK.out]; decide), if_neg (by rw [HV.out]; decide), if_pos hc]
        clear hc
        go_wp2_with fail
        refine wp_region_later (by kernel_rfl) (by kernel_rfl) ?_
        repeat (go_big_quiet_step (first | rfl | (go_at_call 203; with_reducible exact calls_later (rightv_is HV.out _)) | (go_at_call 205; with_reducible exact calls_later (covers_is HC.out _))))
        refine wpQuiet_nil ?_
        rintro w2 ⟨⟨_, hb2⟩, rfl⟩
        replace RT := RT.later hb2
        replace hb := behind hb hb2
        clear hb2 c0 c1 c2 c3 k1 k2 k3 k4 M1
        have r0 := RT.cell 0 _ rfl
        have p0 := RT.free 0 (by simp [txZ])
        have r1 := RT.cell 1 _ rfl
        have p1 := RT.free 1 (by simp [txZ])
        have r2 := RT.cell 2 _ rfl
        have p2 := RT.free 2 (by simp [txZ])
        have r3 := RT.cell 3 _ rfl
        have p3 := RT.free 3 (by simp [txZ])
        have r4 := RT.cell 4 _ rfl
        have p4 := RT.free 4 (by simp [txZ])
        have r5 := RT.cell 5 _ rfl
        have p5 := RT.free 5 (by simp [txZ])
        have r6 := RT.cell 6 _ rfl
        have p6 := RT.free 6 (by simp [txZ])
        have r7 := RT.cell 7 _ rfl
        have p7 := RT.free 7 (by simp [txZ])
        have r8 := RT.cell 8 _ rfl
        have p8 := RT.free 8 (by simp [txZ])
        have RZ := tx_set RT rfl 0 0 0 0 0 0 0 0 (.slice none 0 0)
        have hbZ := tx_far hb hB 0 0 0 0 0 0 0 0 (.slice none 0 0)
        have FIN := HNO.out _ 10 E.out (by decide) hbZ
        clear HNO
        go_wp2_with fail
        exact bodyPost_ret (pCommit_results (m := tx0) (ev := errV 10) RZ rfl rfl) rfl FIN.out
      · have HC : Hid (covB S.a0 S.a1 S.a2 S.a3 d0 d1 d2 d3 = true) := hc
        clear hc
        go_wp2_with fail
        refine wp_region_later (by kernel_rfl) (by kernel_rfl) ?_
        repeat (go_big_quiet_step (first | rfl | (go_at_call 203; with_reducible exact calls_later (rightv_is HV.out _)) | (go_at_call 205; with_reducible exact calls_later (covers_is HC.out _))))
        refine wpQuiet_nil ?_
        rintro w2 ⟨⟨_, hb2⟩, rfl⟩
        replace RT := RT.later hb2
        replace RD := RD.later hb2
        replace hb := behind hb hb2
        have M2 : Hid (PMem w2 b lv bm F S log waits) := M1.out.later hb2
        clear hb2 c0 c1 c2 c3 k1 k2 k3 k4 M1
        by_cases hf : 200 ≤ log.length
        · have E : Hid (comE S now d0 d1 d2 d3 ws = 12) := by show commitE _ _ _ _ _ _ _ _ = 12; unfold commitE; rw [if_neg (by rw [HOK.out]; decide), if_neg (by rw [HV.out]; decide), if_neg (by rw [HC.out]; decide), if_pos (by omega)]
          have IF := isFull_any (decide_eq_true hf) w2 M2.out
          clear hf hll
          go_wp2_with fail
          refine IF.mono ?_
          rintro e w3 ⟨rfl, hb3⟩
          replace RT := RT.later hb3
          replace hb := behind hb hb3
          clear hb3 M2
          have r0 := RT.cell 0 _ rfl
          have p0 := RT.free 0 (by simp [txZ])
          have r1 := RT.cell 1 _ rfl
          have p1 := RT.free 1 (by simp [txZ])
          have r2 := RT.cell 2 _ rfl
          have p2 := RT.free 2 (by simp [txZ])
          have r3 := RT.cell 3 _ rfl
          have p3 := RT.free 3 (by simp [txZ])
          have r4 := RT.cell 4 _ rfl
          have p4 := RT.free 4 (by simp [txZ])
          have r5 := RT.cell 5 _ rfl
          have p5 := RT.free 5 (by simp [txZ])
          have r6 := RT.cell 6 _ rfl
          have p6 := RT.free 6 (by simp [txZ])
          have r7 := RT.cell 7 _ rfl
          have p7 := RT.free 7 (by simp [txZ])
          have r8 := RT.cell 8 _ rfl
          have p8 := RT.free 8 (by simp [txZ])
          have RZ := tx_set RT rfl 0 0 0 0 0 0 0 0 (.slice none 0 0)
          have hbZ := tx_far hb hB 0 0 0 0 0 0 0 0 (.slice none 0 0)
          have FIN := HNO.out _ 12 E.out (by decide) hbZ
          clear HNO
          go_wp2_with fail
          exact bodyPost_ret (pCommit_results (m := tx0) (ev := errV 12) RZ rfl rfl) rfl FIN.out
        · have IF := isFull_any (decide_eq_false hf) w2 M2.out
          obtain ⟨⟨nw, nc, ne⟩, hnx⟩ : ∃ x, nextP S.lw S.lc now = x := ⟨_, rfl⟩
          have HN : Hid (comE S now d0 d1 d2 d3 ws = ne) := by show commitE _ _ _ _ _ _ _ _ = ne; unfold commitE; rw [if_neg (by rw [HOK.out]; decide), if_neg (by rw [HV.out]; decide), if_neg (by rw [HC.out]; decide), if_neg (by omega), hnx]
          have HNX : Hid (nextP S.lw S.lc now = (nw, nc, ne)) := hnx
          have HF : Hid (S.log.length < 200) := by show _ < _; omega
          clear hf hnx hll
          go_wp2_with fail
          refine IF.mono ?_
          rintro e w3 ⟨rfl, hb3⟩
          replace RT := RT.later hb3
          replace RD := RD.later hb3
          replace hb := behind hb hb3
          have M3 : Hid (PMem w3 b lv bm F S log waits) := M2.out.later hb3
          clear hb3 M2
          have k5 := M3.out.box.cell 5 _ rfl
          have k6 := M3.out.box.cell 6 _ rfl
          go_wp2_with fail
          refine (nextP_is HNX.out _).mono ?_
          rintro e w4 ⟨rfl, hb4⟩
          have HSZ : Hid (w.heap.size + 1 < w4.heap.size) := (RT.later hb4).lt
          replace RT := (RT.later hb4).boxed (.cells #[.int .i64 nw, .int .i64 nc] 79)
          replace RD := (RD.later hb4).boxed (.cells #[.int .i64 nw, .int .i64 nc] 79)
          replace hb := boxed (behind hb hb4) (.cells #[.int .i64 nw, .int .i64 nc] 79)
          have RS := RowL.new (w := w4) (T := 79) [.int .i64 nw, .int .i64 nc] rfl
          have M4 : Hid (PMem (w4.alloc (.cells #[.int .i64 nw, .int .i64 nc] 79)) b lv bm F S log waits) := M3.out.later (boxed hb4 _)
          clear hb4 M3 k5 k6
          by_cases hne : ne = 0
          rotate_left
          · have ee : errV ne = .iface 26 (.int .i64 ne) := by unfold errV; rw [if_neg hne]
            rw [ee]
            have HEE : Hid (errV ne = .iface 26 (.int .i64 ne)) := ee
            clear ee
            have r0 := RT.cell 0 _ rfl
            have p0 := RT.free 0 (by simp [txZ])
            have r1 := RT.cell 1 _ rfl
            have p1 := RT.free 1 (by simp [txZ])
            have r2 := RT.cell 2 _ rfl
            have p2 := RT.free 2 (by simp [txZ])
            have r3 := RT.cell 3 _ rfl
            have p3 := RT.free 3 (by simp [txZ])
            have r4 := RT.cell 4 _ rfl
            have p4 := RT.free 4 (by simp [txZ])
            have r5 := RT.cell 5 _ rfl
            have p5 := RT.free 5 (by simp [txZ])
            have r6 := RT.cell 6 _ rfl
            have p6 := RT.free 6 (by simp [txZ])
            have r7 := RT.cell 7 _ rfl
            have p7 := RT.free 7 (by simp [txZ])
            have r8 := RT.cell 8 _ rfl
            have p8 := RT.free 8 (by simp [txZ])
            have RZ := tx_set RT rfl 0 0 0 0 0 0 0 0 (.slice none 0 0)
            have hbZ := tx_far hb hB 0 0 0 0 0 0 0 0 (.slice none 0 0)
            have FIN := HNO.out _ ne HN.out hne hbZ
            rw [HEE.out] at FIN
            clear HNO
            go_wp2_with fail
            exact bodyPost_ret (pCommit_results (m := tx0) RZ rfl rfl) rfl FIN.out
          · subst hne
            rw [show errV 0 = .nilIface from rfl]
            obtain ⟨D, hD⟩ : ∃ D, depOf S.id S.a0 S.a1 S.a2 S.a3 = D := ⟨_, rfl⟩
            have hd := HI.out.dep S.id
            rw [hD] at hd
            have hwr := wrap_next hd
            have HCT0 : commitT S now d0 d1 d2 d3 ws = ⟨S.id, D + 1, nw, nc, setV0 S.id D d0, setV1 S.id D d1, setV2 S.id D d2, setV3 S.id D d3, ws⟩ := by unfold commitT; rw [hD, HNX.out]
            obtain ⟨CI, w15, HF2, ho⟩ := commitT_ok HI.out HN.out
            have HL5 : Hid (1 ≤ ws.length ∧ ws.length ≤ 5) := ⟨w15, HF2⟩
            go_wp2_with fail
            obtain ⟨W4, hW4⟩ : ∃ W4, w4.alloc (.cells #[.int .i64 nw, .int .i64 nc] 79) = W4 := ⟨_, rfl⟩
            rw [hW4] at RT RD hb RS M4 ⊢
            clear hW4 HF2 ho w15
            have k0 := M4.out.box.cell 0 _ rfl
            have ks := M4.out.box.cell _ _ (app_at hi0 hi3)
            rw [hD] at ks
            have v1 := vec_at RD hi0 hi3
            have v2 := vec_free RD hi0 hi3
            have hi4 : S.id < 4 := by omega
            have HD : Hid (depOf S.id S.a0 S.a1 S.a2 S.a3 = D) := hD
            have HGS : Hid (∀ k, G k → k < w.heap.size) := HP.out.lt
            have nb : b ≠ w.heap.size := by have := HGS.out b ((HPM.out.2.2 b).2 (.inl (.inl rfl))); omega
            clear hD
            go_region
            have RD5 := (vec_set RD hi0 hi3 D).drew
            have RT5 := (RT.far ⟨w.heap.size, S.id.toNat, none⟩ (.int .i64 D) (by simp)).drew
            have RS5 := (RS.far ⟨w.heap.size, S.id.toNat, none⟩ (.int .i64 D) (by have := HSZ.out; simp only; omega)).drew
            have hb5 := (hb.setCell (p := ⟨w.heap.size, S.id.toNat, none⟩) (Nat.le_refl _) (.int .i64 D)).drew
            have P5 : Hid (PS (W4.setCell ⟨w.heap.size, S.id.toNat, none⟩ (.int .i64 D)).drew b G S) := HP.out.later hb5
            obtain ⟨W5, hW5⟩ : ∃ W5, (W4.setCell ⟨w.heap.size, S.id.toNat, none⟩ (.int .i64 D)).drew = W5 := ⟨_, rfl⟩
            rw [hW5] at RD5 RT5 RS5 hb5 P5 ⊢
            obtain ⟨e0, he0⟩ : ∃ x, setV0 S.id D d0 = x := ⟨_, rfl⟩
            obtain ⟨e1, he1⟩ : ∃ x, setV1 S.id D d1 = x := ⟨_, rfl⟩
            obtain ⟨e2, he2⟩ : ∃ x, setV2 S.id D d2 = x := ⟨_, rfl⟩
            obtain ⟨e3, he3⟩ : ∃ x, setV3 S.id D d3 = x := ⟨_, rfl⟩
            rw [he0, he1, he2, he3] at RD5 HCT0
            have HCT : Hid (commitT S now d0 d1 d2 d3 ws = ⟨S.id, D + 1, nw, nc, e0, e1, e2, e3, ws⟩) := HCT0
            have M5 : Hid (PMem W5 b lv bm F S log waits) := by
              have hbb : Below W4.heap.size W4 W4 := Below.refl _ _
              have := M4.out.kept (w' := W5) (fun k hk => by
                rw [← hW5]
                have hkk : k < w.heap.size := HGS.out k ((HPM.out.2.2 k).2 hk)
                exact Below.heap_setCell _ _ _ _ (by simp only; omega)) (by rw [← hW5]; simp [World.setCell, World.drew])
              exact this
            clear hW5 he0 he1 he2 he3 HCT0 RD RT RS hb M4 k0 ks v1 v2
            have k0 := M5.out.box.cell 0 _ rfl
            have ks := M5.out.box.cell _ _ (app_at hi0 hi3)
            rw [HD.out] at ks
            have y0 := RS5.cell 0 _ rfl
            have y1 := RS5.cell 1 _ rfl
            have v0 := RD5.c0
            have v1 := RD5.c1
            have v2 := RD5.c2
            have v3 := RD5.c3
            have l1 := M5.out.box.lt
            have l2 := RS5.lt
            have l3 := RD5.lt
            have Y0 := fun (w' : World) (h : Below W5.heap.size W5 w') => cell_later h k0
            have Y1 := fun (w' : World) (h : Below W5.heap.size W5 w') => cell_later h ks
            have Y2 := fun (w' : World) (h : Below W5.heap.size W5 w') => cell_later h y0
            have Y3 := fun (w' : World) (h : Below W5.heap.size W5 w') => cell_later h y1
            have Y4 := fun (w' : World) (h : Below W5.heap.size W5 w') => cell_later h v0
            have Y5 := fun (w' : World) (h : Below W5.heap.size W5 w') => cell_later h v1
            have Y6 := fun (w' : World) (h : Below W5.heap.size W5 w') => cell_later h v2
            have Y7 := fun (w' : World) (h : Below W5.heap.size W5 w') => cell_later h v3
            have hb50 := (Below.refl W5.heap.size W5).drew
            clear k0 ks y0 y1 v0 v1 v2 v3
            go_wp2_with fail
            go_region_held3 (fun w' => Below W5.heap.size W5 w') (repeat (first | (with_reducible assumption) | (with_reducible exact Below.refl _ _) | (with_reducible refine boxed ?_ _) | (with_reducible refine Below.drew ?_) | (refine Below.setCell ?_ (Nat.le_refl _) _))) (fail)
            have hw2 : IntKind.i64.wrap (D + 1) = D + 1 := by rw [← wrap_next hd]; unfold wrap64 IntKind.wrap; simp [IntKind.signed, IntKind.bits]; omega
            all_goals
              rw [hw2]
              clear hw2
              have hx6 := boxed (Below.refl _ W5) (.cells #[.int .i64 S.id, .int .i64 (D + 1), .int .i64 nw, .int .i64 nc, .int .i64 e0, .int .i64 e1, .int .i64 e2, .int .i64 e3, .slice a ws.length cap] 102)
              have RX6 := (RowL.new (w := W5) (T := 102) [.int .i64 S.id, .int .i64 (D + 1), .int .i64 nw, .int .i64 nc, .int .i64 e0, .int .i64 e1, .int .i64 e2, .int .i64 e3, .slice a ws.length cap] rfl).drew
              change RowL (W5.alloc (.cells #[.int .i64 S.id, .int .i64 (D + 1), .int .i64 nw, .int .i64 nc, .int .i64 e0, .int .i64 e1, .int .i64 e2, .int .i64 e3, .slice a ws.length cap] 102)).drew W5.heap.size [.int .i64 S.id, .int .i64 (D + 1), .int .i64 nw, .int .i64 nc, .int .i64 e0, .int .i64 e1, .int .i64 e2, .int .i64 e3, .slice a ws.length cap] at RX6
              have RT6 := (RT5.later hx6).drew
              have hb6 := (behind hb5 hx6).drew
              have M6 : Hid (PMem (W5.alloc (.cells #[.int .i64 S.id, .int .i64 (D + 1), .int .i64 nw, .int .i64 nc, .int .i64 e0, .int .i64 e1, .int .i64 e2, .int .i64 e3, .slice a ws.length cap] 102)).drew b lv bm F S log waits) := (M5.out.later hx6).later (Below.refl _ _).drew
              have HS6 : Hid (w.heap.size + 1 < W5.heap.size ∧ W5.heap.size < (W5.alloc (.cells #[.int .i64 S.id, .int .i64 (D + 1), .int .i64 nw, .int .i64 nc, .int .i64 e0, .int .i64 e1, .int .i64 e2, .int .i64 e3, .slice a ws.length cap] 102)).drew.heap.size) := ⟨RT5.lt, RX6.lt⟩
              obtain ⟨W6, hW6⟩ : ∃ W6, (W5.alloc (.cells #[.int .i64 S.id, .int .i64 (D + 1), .int .i64 nw, .int .i64 nc, .int .i64 e0, .int .i64 e1, .int .i64 e2, .int .i64 e3, .slice a ws.length cap] 102)).drew = W6 := ⟨_, rfl⟩
              rw [hW6] at RX6 RT6 hb6 M6 HS6 ⊢
              clear hW6 hx6 Y0 Y1 Y2 Y3 Y4 Y5 Y6 Y7 hb50 l1 l2 l3 RS5 RD5 RT5 hb5 M5 P5
              have x0 := RX6.cell 0 _ rfl
              have x1 := RX6.cell 1 _ rfl
              have x2 := RX6.cell 2 _ rfl
              have x3 := RX6.cell 3 _ rfl
              have x4 := RX6.cell 4 _ rfl
              have x5 := RX6.cell 5 _ rfl
              have x6 := RX6.cell 6 _ rfl
              have x7 := RX6.cell 7 _ rfl
              have x8 := RX6.cell 8 _ rfl
              have CP := copyOf_any ⟨⟨S.id, D + 1, nw, nc, e0, e1, e2, e3, ws⟩, a, cap⟩ W6 (HW.out.later hb6) HL5.out.1 (by have := HL5.out; simp only; omega)
              simp only [txV] at CP
              have HLL : Hid (log.length = S.log.length) := by show _ = _; rw [← HPM.out.1]; simp
              go_wp2_with fail
              refine CP.mono ?_
              rintro e w7 ⟨m1, hm1, rfl, W71, hk1, hb7⟩
              have HM1 : Hid (m1.t = ⟨S.id, D + 1, nw, nc, e0, e1, e2, e3, ws⟩ ∧ WrIn w7 m1.wa m1.wc m1.t.ws ∧ ∀ k, m1.blk k → W6.heap.size ≤ k) := ⟨hm1, W71, hk1⟩
              have AP := apply_any m1 w7 (M6.out.later hb7) ⟨W71, fun k e hf => by
                have q1 := hk1 k e
                have q2 := M6.out.lt k hf
                omega⟩ (by rw [hm1]; exact hi0) (by rw [hm1]; exact hi3) (by rw [hm1]; have q1 := HI.out.len; have q2 := HF.out; have q3 := HL5.out; show S.l.length + ws.length ≤ 1000; omega) (by have q1 := HLL.out; have q2 := HF.out; omega)
              have RX7 := RX6.later hb7
              have RT7 := RT6.later hb7
              have HB7 : Hid (Below w.heap.size w w7 ∧ W6.heap.size ≤ w7.heap.size) := ⟨behind hb6 hb7, hb7.size⟩
              clear W71 hk1 hb7 RX6 RT6 x0 x1 x2 x3 x4 x5 x6 x7 x8 CP
              obtain ⟨t1, wa1, wc1⟩ := m1
              simp only at hm1
              subst hm1
              go_wp2_with fail
              refine AP.mono ?_
              rintro e w8 ⟨rfl, lv', F', PM8, nf8, tt8⟩
              have nfx : ∀ k, w.heap.size ≤ k → ¬ footQ b lv bm F k := fun k hk hf => by
                have := HGS.out k ((HPM.out.2.2 k).2 (.inl hf))
                omega
              have RX8 := RX7.kept (tt8.block _ RX7.lt (nfx _ (by have := HS6.out; omega))) tt8.size
              have RT8 := RT7.kept (tt8.block _ RT7.lt (nfx _ (by omega))) tt8.size
              have W8 : WrIn w8 a cap ws := WrIn.kept (m := ⟨⟨S.id, D + 1, nw, nc, e0, e1, e2, e3, ws⟩, a, cap⟩) (w := w7) (HW.out.later HB7.out.1) (fun k e => tt8.block k (WrIn.blk_lt (m := ⟨⟨S.id, D + 1, nw, nc, e0, e1, e2, e3, ws⟩, a, cap⟩) (HW.out.later HB7.out.1) k e) (fun hf => by
                obtain ⟨e1, off, e2⟩ := e
                exact HX.out k off e1 e2 ((HPM.out.2.2 k).2 (.inl hf))))
              have HQ8 : Hid (PMem w8 b lv' bm F' (applyS S ⟨S.id, D + 1, nw, nc, e0, e1, e2, e3, ws⟩) (log ++ [⟨⟨S.id, D + 1, nw, nc, e0, e1, e2, e3, ws⟩, wa1, wc1⟩]) waits ∧ (∀ k, footQ b lv' bm F' k → footQ b lv bm F k ∨ w7.heap.size ≤ k) ∧ Touch (footQ b lv bm F) w7 w8) := ⟨PM8, nf8, tt8⟩
              have CP2 := copyOf_any ⟨⟨S.id, D + 1, nw, nc, e0, e1, e2, e3, ws⟩, a, cap⟩ w8 W8 HL5.out.1 (by have := HL5.out; simp only; omega)
              simp only [txV] at CP2
              clear PM8 nf8 tt8 nfx W8 RX7 RT7 AP
              have x0 := RX8.cell 0 _ rfl
              have x1 := RX8.cell 1 _ rfl
              have x2 := RX8.cell 2 _ rfl
              have x3 := RX8.cell 3 _ rfl
              have x4 := RX8.cell 4 _ rfl
              have x5 := RX8.cell 5 _ rfl
              have x6 := RX8.cell 6 _ rfl
              have x7 := RX8.cell 7 _ rfl
              have x8 := RX8.cell 8 _ rfl
              go_wp2_with fail
              refine CP2.mono ?_
              rintro e w9 ⟨m2, hm2, rfl, W92, hk2, hb9⟩
              obtain ⟨t2, wa2, wc2⟩ := m2
              simp only at hm2 W92
              subst hm2
              have RT9 := RT8.later hb9
              have FIN := commit_fin (wa2 := wa2) (wc2 := wc2) HP.out HB7.out.1 (by have := HS6.out; have := HB7.out.2; omega) HQ8.out.1 HQ8.out.2.1 HQ8.out.2.2 (fun k e => by have := HM1.out.2.2 k e; have := HS6.out; omega) HPM.out.1 HPM.out.2.1 HPM.out.2.2 hb9 W92 (fun k e => ⟨by have := hk2 k e; have := HS6.out; have := HB7.out.2; have := HQ8.out.2.2.size; omega, hk2 k e⟩) (by rw [HCT.out]) HN.out
              clear hk2 hb9 W92 RX8 RT8 x0 x1 x2 x3 x4 x5 x6 x7 x8 CP2 HQ8 HM1
              simp only [txV]
              have r0 := RT9.cell 0 _ rfl
              have p0 := RT9.free 0 (by simp [txZ])
              have r1 := RT9.cell 1 _ rfl
              have p1 := RT9.free 1 (by simp [txZ])
              have r2 := RT9.cell 2 _ rfl
              have p2 := RT9.free 2 (by simp [txZ])
              have r3 := RT9.cell 3 _ rfl
              have p3 := RT9.free 3 (by simp [txZ])
              have r4 := RT9.cell 4 _ rfl
              have p4 := RT9.free 4 (by simp [txZ])
              have r5 := RT9.cell 5 _ rfl
              have p5 := RT9.free 5 (by simp [txZ])
              have r6 := RT9.cell 6 _ rfl
              have p6 := RT9.free 6 (by simp [txZ])
              have r7 := RT9.cell 7 _ rfl
              have p7 := RT9.free 7 (by simp [txZ])
              have r8 := RT9.cell 8 _ rfl
              have p8 := RT9.free 8 (by simp [txZ])
              have RZ := tx_set RT9 rfl S.id (D + 1) nw nc e0 e1 e2 e3 (.slice wa2 ws.length wc2)
              go_wp2_with fail
              exact bodyPost_ret (pCommit_results (m := ⟨⟨S.id, D + 1, nw, nc, e0, e1, e2, e3, ws⟩, wa2, wc2⟩) RZ rfl rfl) rfl FIN.out
end Go.Proofs.YtoanjdndmlffdaaGreatDoor
