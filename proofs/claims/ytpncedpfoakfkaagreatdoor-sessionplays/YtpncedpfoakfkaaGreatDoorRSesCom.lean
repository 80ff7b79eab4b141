/-
  A Commit of a session of the document, as the model runs it (copseref.Session.Commit).
-/
import Derived.Test.YtpncedpfoakfkaaGreatDoorSiteI
namespace Go.Proofs.YtpncedpfoakfkaaGreatDoor
open Go.RowKit

theorem scommit_results {tmps : Array Value} {w : World} {b : Nat} {x0 x1 x2 x3 x4 x5 x6 x7 ev : Int} {a : Option Addr} {n c : Nat} (h : RowL w b [.int .i64 x0, .int .i64 x1, .int .i64 x2, .int .i64 x3, .int .i64 x4, .int .i64 x5, .int .i64 x6, .int .i64 x7, .slice a n c]) (h2 : tmps[6]? = some (.pointer (some ⟨b, 0, none⟩))) (h3 : tmps[7]? = some (.int .i64 ev)) :
    (results Tryz.f38 tmps).run Tryz.prog w = .ok (.tuple #[.agg #[.int .i64 x0, .int .i64 x1, .int .i64 x2, .int .i64 x3, .int .i64 x4, .int .i64 x5, .int .i64 x6, .int .i64 x7, .slice a n c], .int .i64 ev]) w := by
  have z0 := h.cell 0 _ rfl
  have z1 := h.cell 1 _ rfl
  have z2 := h.cell 2 _ rfl
  have z3 := h.cell 3 _ rfl
  have z4 := h.cell 4 _ rfl
  have z5 := h.cell 5 _ rfl
  have z6 := h.cell 6 _ rfl
  have z7 := h.cell 7 _ rfl
  have z8 := h.cell 8 _ rfl
  simp [results, Tryz.results38, go_sem, h2, h3, z0, z1, z2, z3, z4, z5, z6, z7, z8]

set_option maxRecDepth 100000 in
set_option maxHeartbeats 16000000 in
theorem refSesCommit_any {b bx : Nat} {G Gx : Nat → Prop} {s : SesS} {S : SiteS} (now : Int) (w : World) (h : RSe w b G s) (hS : RS w bx Gx S) (hI : InvS S) (hd : ∀ k, G k → ¬ Gx k) (hp : 0 ≤ s.p0) :
    Calls Tryz.prog 38 #[.pointer (some ⟨b, 0, none⟩), .pointer (some ⟨bx, 0, none⟩), .int .i64 now] w (RSCommit w b bx G Gx S s now) := by
  have HH : Hid (RSe w b G s ∧ RS w bx Gx S ∧ InvS S ∧ (∀ k, G k → ¬ Gx k) ∧ 0 ≤ s.p0 ∧ (∀ k, G k → k < w.heap.size) ∧ ∀ k, Gx k → k < w.heap.size) := ⟨h, hS, hI, hd, hp, h.lt, hS.lt⟩
  obtain ⟨wv, h0, hG⟩ := h
  have HG : Hid (∀ k, G k ↔ (k = b ∨ wv.ownBlock = some k)) := hG
  have HS : Hid (RSes w b wv s) := h0
  have hb1 := boxed (Below.refl _ w) (.cells #[.int .i64 0, .int .i64 0, .int .i64 0, .int .i64 0, .int .i64 0, .int .i64 0, .int .i64 0, .int .i64 0, .slice none 0 0] 44)
  have RT := RowL.new (w := w) (T := 44) [.int .i64 0, .int .i64 0, .int .i64 0, .int .i64 0, .int .i64 0, .int .i64 0, .int .i64 0, .int .i64 0, .slice none 0 0] rfl
  change RowL (w.alloc (.cells #[.int .i64 0, .int .i64 0, .int .i64 0, .int .i64 0, .int .i64 0, .int .i64 0, .int .i64 0, .int .i64 0, .slice none 0 0] 44)) w.heap.size [.int .i64 0, .int .i64 0, .int .i64 0, .int .i64 0, .int .i64 0, .int .i64 0, .int .i64 0, .int .i64 0, .slice none 0 0] at RT
  have B1 := h0.box.later hb1
  have k8 := B1.cell 8 _ rfl
  cases ho : s.opn
  · rw [ho] at k8
    have HE : Hid (scomE S s now = 6 ∧ scomT S s now = tx0.t ∧ scomS S s now = S ∧ scomSes S s now = s) := scom_shut ho
    clear hS hI hd hp h0 hG B1 ho
    go_enter Tryz.func38, Tryz.ntmps38
    go_wp2_with fail
    refine bodyPost_ret (scommit_results RT rfl rfl) rfl ⟨tx0, by rw [HE.out.1]; rfl, HE.out.2.1.symm, tx0_in _, ?_⟩
    rw [HE.out.2.2.1, HE.out.2.2.2]
    exact left2_same (p := sesR b s) (q := siteR bx S) HH.out.1 HH.out.2.1 HH.out.2.2.2.1 hb1 _ tx0_blk
  · rw [ho] at k8
    have HO : Hid (s.opn = true) := ho
    have hb2 := boxed hb1 (.cells #[.int .i64 0, .int .i64 0, .int .i64 0, .int .i64 0, .int .i64 0, .int .i64 0, .int .i64 0, .int .i64 0, .slice none 0 0] 44)
    have AL := refAll_any ((w.alloc (.cells #[.int .i64 0, .int .i64 0, .int .i64 0, .int .i64 0, .int .i64 0, .int .i64 0, .int .i64 0, .int .i64 0, .slice none 0 0] 44)).alloc (.cells #[.int .i64 0, .int .i64 0, .int .i64 0, .int .i64 0, .int .i64 0, .int .i64 0, .int .i64 0, .int .i64 0, .slice none 0 0] 44)) (h0.later hb2)
    have RT2 := RT.boxed (.cells #[.int .i64 0, .int .i64 0, .int .i64 0, .int .i64 0, .int .i64 0, .int .i64 0, .int .i64 0, .int .i64 0, .slice none 0 0] 44)
    have RX2 := RowL.new (w := (w.alloc (.cells #[.int .i64 0, .int .i64 0, .int .i64 0, .int .i64 0, .int .i64 0, .int .i64 0, .int .i64 0, .int .i64 0, .slice none 0 0] 44))) (T := 44) (n := w.heap.size + 1) [.int .i64 0, .int .i64 0, .int .i64 0, .int .i64 0, .int .i64 0, .int .i64 0, .int .i64 0, .int .i64 0, .slice none 0 0] (by simp)
    change RowL ((w.alloc (.cells #[.int .i64 0, .int .i64 0, .int .i64 0, .int .i64 0, .int .i64 0, .int .i64 0, .int .i64 0, .int .i64 0, .slice none 0 0] 44)).alloc (.cells #[.int .i64 0, .int .i64 0, .int .i64 0, .int .i64 0, .int .i64 0, .int .i64 0, .int .i64 0, .int .i64 0, .slice none 0 0] 44)) (w.heap.size + 1) [.int .i64 0, .int .i64 0, .int .i64 0, .int .i64 0, .int .i64 0, .int .i64 0, .int .i64 0, .int .i64 0, .slice none 0 0] at RX2
    clear hS hI hd hp h0 hG B1 ho RT
    go_enter Tryz.func38, Tryz.ntmps38
    go_wp2_with fail
    refine AL.mono ?_
    rintro e wA ⟨v, rfl, ownv, hbv⟩
    obtain ⟨va, vc, rfl, hWv⟩ := wrIn_own ownv
    have HNA : Hid (∀ k off, (allW s.ws) ≠ [] → va = some ⟨k, off, none⟩ → w.heap.size + 2 ≤ k) := fun k off hne e => by
      have := ownv.form (List.length_pos_iff.2 hne)
      obtain ⟨g, cc, e1, e2, e3⟩ := this
      injection e1 with e1
      rw [e1] at e
      injection e with e
      injection e with e
      simp at e2
      omega
    have hbA := behind hb2 hbv
    have RTA := RT2.later hbv
    have RXA := RX2.later hbv
    have HSZ : Hid (w.heap.size + 2 ≤ wA.heap.size) := by have := hbv.size; simp at this; exact this
    have HWV : Hid (WrIn wA va vc (allW s.ws)) := hWv
    have hcl := hWv.len
    have hcc := hWv.cap
    have HN2 : Hid (∀ k, (k = w.heap.size ∨ k = w.heap.size + 1) → w.heap.size ≤ k ∧ k < wA.heap.size) := fun k e => by
      have := HSZ.out
      rcases e with e | e <;> omega
    clear AL k8 RT2 RX2 hb1 hb2 hbv ownv hWv
    by_cases hl : (allW s.ws).length = 0
    · have HE : Hid (scomE S s now = 0 ∧ scomT S s now = tx0.t ∧ scomS S s now = S ∧ scomSes S s now = endS s) := scom_none HO.out hl
      have l0 : ¬ (0 : Int) < ((allW s.ws).length : Int) := by omega
      have AB := refAbort_any wA (HS.out.later hbA)
      clear hl
      go_wp2_with fail
      refine AB.mono ?_
      rintro e wD ⟨rfl, hpo⟩
      rw [show aboS s = endS s by unfold aboS; rw [if_neg (by rw [HO.out]; decide)]] at hpo
      rw [show aboE s = 0 by unfold aboE; rw [if_neg (by rw [HO.out]; decide)]]
      have HPO : Hid (RSPo wA b wv (endS s) wD) := hpo
      obtain ⟨wv', hs', _, tD⟩ := hpo
      have nG : ∀ k, w.heap.size ≤ k → ¬ (k = b ∨ wv.ownBlock = some k) := fun k hk e => by have := HH.out.2.2.2.2.2.1 k ((HG.out k).2 e); omega
      have RTD := RTA.kept (tD.block _ RTA.lt (nG _ (Nat.le_refl _))) tD.size
      have RXD := RXA.kept (tD.block _ RXA.lt (nG _ (Nat.le_succ _))) tD.size
      have x0 := Later.cell (RXD.cell 0 _ rfl)
      have x1 := Later.cell (RXD.cell 1 _ rfl)
      have y0 : ∀ x : Later wD, x.val.cell? ⟨b, 0, none⟩ = some (.int .i64 (maxZ s.p0 s.s0)) := Later.cell (hs'.box.cell 0 _ rfl)
      have hne := Later.one
      have g0 : decide (maxZ s.p0 s.s0 < 0) = false := decide_eq_false (by have := HH.out.2.2.2.2.1; unfold maxZ; split <;> omega)
      clear AB tD nG
      go_wp2_with fail
      refine wp_region_later (by kernel_rfl) (by kernel_rfl) ?_
      repeat (go_big_quiet_step (first | rfl | fail))
      refine wpQuiet_nil ?_
      rintro w3 ⟨⟨_, hb3⟩, rfl⟩
      have RTF := RTD.later hb3
      have RXF := RXD.later hb3
      clear x0 x1 y0 hs' RTD RXD
      have x0 := RXF.cell 0 _ rfl
      have x1 := RXF.cell 1 _ rfl
      have x2 := RXF.cell 2 _ rfl
      have x3 := RXF.cell 3 _ rfl
      have x4 := RXF.cell 4 _ rfl
      have x5 := RXF.cell 5 _ rfl
      have x6 := RXF.cell 6 _ rfl
      have x7 := RXF.cell 7 _ rfl
      have x8 := RXF.cell 8 _ rfl
      have r0 := RTF.cell 0 _ rfl
      have r1 := RTF.cell 1 _ rfl
      have r2 := RTF.cell 2 _ rfl
      have r3 := RTF.cell 3 _ rfl
      have r4 := RTF.cell 4 _ rfl
      have r5 := RTF.cell 5 _ rfl
      have r6 := RTF.cell 6 _ rfl
      have r7 := RTF.cell 7 _ rfl
      have r8 := RTF.cell 8 _ rfl
      have p0 := RTF.free 0 (by simp)
      have p1 := RTF.free 1 (by simp)
      have p2 := RTF.free 2 (by simp)
      have p3 := RTF.free 3 (by simp)
      have p4 := RTF.free 4 (by simp)
      have p5 := RTF.free 5 (by simp)
      have p6 := RTF.free 6 (by simp)
      have p7 := RTF.free 7 (by simp)
      have p8 := RTF.free 8 (by simp)
      have RZ := tx_set RTF rfl 0 0 0 0 0 0 0 0 (.slice none 0 0)
      have FIN := com_fin (p := sesR b (endS s)) (q := siteR bx S) (Y := tx0.blk) HH.out.2.2.2.2.2.1 HH.out.2.2.2.2.2.2 HH.out.2.2.2.1 hbA HN2.out (RPo.same (HH.out.2.1.later hbA) (Below.refl _ _)) (fun k hk => absurd hk (tx0_blk k)) (Touch.ofBelow (Below.refl _ _)) ((HPO.out.after hb3).left HG.out) (touch_tx' (b := w.heap.size) (Touch.ofBelow (Below.refl _ w3)) (.inl rfl) 0 0 0 0 0 0 0 0 (.slice none 0 0))
      clear RTF RXF HPO
      go_wp2_with fail
      refine bodyPost_ret (scommit_results RZ rfl rfl) rfl ⟨tx0, by rw [HE.out.1]; rfl, HE.out.2.1.symm, tx0_in _, ?_⟩
      rw [HE.out.2.2.1, HE.out.2.2.2]
      exact FIN.1
    · have HY : Hid (scomE S s now = comE S now s.s0 s.s1 s.s2 s.s3 (allW s.ws) ∧ scomT S s now = comT S now s.s0 s.s1 s.s2 s.s3 (allW s.ws) ∧ scomS S s now = comS S now s.s0 s.s1 s.s2 s.s3 (allW s.ws)) := scom_yes HO.out hl
      have HLN : Hid ((allW s.ws).length ≠ 0) := hl
      have l0 : (0 : Int) < ((allW s.ws).length : Int) := by omega
      have CM := rcommit_any now s.s0 s.s1 s.s2 s.s3 wA (HH.out.2.1.later hbA) HH.out.2.2.1 HWV.out (fun k off e1 e2 hg => by have := HNA.out k off e1 e2; have := HH.out.2.2.2.2.2.2 k hg; omega)
      have BA := HS.out.box.later hbA
      have c4 := BA.cell 4 _ rfl
      have c5 := BA.cell 5 _ rfl
      have c6 := BA.cell 6 _ rfl
      have c7 := BA.cell 7 _ rfl
      have HBA : Hid (Below w.heap.size w wA) := hbA
      obtain ⟨⟨m0, m1, m2, m3, m4, m5, m6, m7, mws⟩, hct⟩ : ∃ t, comT S now s.s0 s.s1 s.s2 s.s3 (allW s.ws) = t := ⟨_, rfl⟩
      obtain ⟨ce, hce⟩ : ∃ ce, comE S now s.s0 s.s1 s.s2 s.s3 (allW s.ws) = ce := ⟨_, rfl⟩
      clear hl hbA
      go_wp2_with fail
      refine CM.mono ?_
      rintro e wB ⟨⟨mt, ma, mc⟩, rfl, hmt, hh, hnew⟩
      rw [hct] at hmt
      simp only at hmt
      subst hmt
      rw [hce, show txV ⟨⟨m0, m1, m2, m3, m4, m5, m6, m7, mws⟩, ma, mc⟩ = .agg #[.int .i64 m0, .int .i64 m1, .int .i64 m2, .int .i64 m3, .int .i64 m4, .int .i64 m5, .int .i64 m6, .int .i64 m7, .slice ma mws.length mc] from rfl]
      obtain ⟨hWB, hPB⟩ := hh.out
      have HPB : Hid (RPo wA bx Gx (comS S now s.s0 s.s1 s.s2 s.s3 (allW s.ws)) wB ∧ WrIn wB ma mc mws ∧ (∀ k, (⟨⟨m0, m1, m2, m3, m4, m5, m6, m7, mws⟩, ma, mc⟩ : TxM).blk k → wA.heap.size ≤ k)) := ⟨hPB, hWB, hnew⟩
      obtain ⟨H1, _, _, tB⟩ := hPB
      have nX : ∀ k, w.heap.size ≤ k → ¬ Gx k := fun k hk e => by have := HH.out.2.2.2.2.2.2 k e; omega
      have RTB := RTA.kept (tB.block _ RTA.lt (nX _ (Nat.le_refl _))) tB.size
      have RXB := RXA.kept (tB.block _ RXA.lt (nX _ (Nat.le_succ _))) tB.size
      clear c4 c5 c6 c7 BA CM RTA RXA tB nX hh hWB hnew
      have x0 := RXB.cell 0 _ rfl
      have x1 := RXB.cell 1 _ rfl
      have x2 := RXB.cell 2 _ rfl
      have x3 := RXB.cell 3 _ rfl
      have x4 := RXB.cell 4 _ rfl
      have x5 := RXB.cell 5 _ rfl
      have x6 := RXB.cell 6 _ rfl
      have x7 := RXB.cell 7 _ rfl
      have x8 := RXB.cell 8 _ rfl
      have q0 := RXB.free 0 (by simp)
      have q1 := RXB.free 1 (by simp)
      have q2 := RXB.free 2 (by simp)
      have q3 := RXB.free 3 (by simp)
      have q4 := RXB.free 4 (by simp)
      have q5 := RXB.free 5 (by simp)
      have q6 := RXB.free 6 (by simp)
      have q7 := RXB.free 7 (by simp)
      have q8 := RXB.free 8 (by simp)
      have RXC := tx_set RXB rfl m0 m1 m2 m3 m4 m5 m6 m7 (.slice ma mws.length mc)
      have RTC := tx_keep RTB (by omega : w.heap.size ≠ w.heap.size + 1) m0 m1 m2 m3 m4 m5 m6 m7 (.slice ma mws.length mc)
      have TC : Touch (fun k => k = w.heap.size ∨ k = w.heap.size + 1) wB (setTx wB (w.heap.size + 1) m0 m1 m2 m3 m4 m5 m6 m7 (.slice ma mws.length mc)) := touch_tx' (Touch.ofBelow (Below.refl _ wB)) (.inr rfl) m0 m1 m2 m3 m4 m5 m6 m7 (.slice ma mws.length mc)
      obtain ⟨WC, hWC⟩ : ∃ WC, setTx wB (w.heap.size + 1) m0 m1 m2 m3 m4 m5 m6 m7 (.slice ma mws.length mc) = WC := ⟨_, rfl⟩
      rw [hWC] at RXC RTC TC
      simp only [setTx] at hWC
      clear RXB RTB
      have hsC : RSes WC b wv s := by
        have mid := com_mid (q := siteR bx (comS S now s.s0 s.s1 s.s2 s.s3 (allW s.ws))) HH.out.2.2.2.2.2.1 HH.out.2.2.2.1 HBA.out HN2.out HPB.out.1 TC
        exact HS.out.keptB (fun k e => mid.1 k ((HG.out k).2 e)) mid.2
      have nG : ∀ k, w.heap.size ≤ k → ¬ (k = b ∨ wv.ownBlock = some k) := fun k hk e => by have := HH.out.2.2.2.2.2.1 k ((HG.out k).2 e); omega
      by_cases hE : ce = 0
      · subst hE
        have HE : Hid (scomSes S s now = atLeast m0 m1 (endS s) ∧ m0 = S.id) := by
          have := scom_good (S := S) (s := s) (now := now) HO.out HLN.out hce
          rw [hct] at this
          exact this
        have HCE : Hid (scomE S s now = 0 ∧ scomT S s now = ⟨m0, m1, m2, m3, m4, m5, m6, m7, mws⟩) := ⟨HY.out.1.trans hce, HY.out.2.1.trans hct⟩
        have i0 : 0 ≤ m0 := by rw [HE.out.2]; exact HH.out.2.2.1.id0
        have i3 : m0 ≤ 3 := by rw [HE.out.2]; exact HH.out.2.2.1.id3
        have i4 : m0 < 4 := by omega
        have AB := refAbort_any WC hsC
        go_wp2_with (rw [hWC])
        refine AB.mono ?_
        rintro e wD ⟨rfl, hpo⟩
        rw [show aboS s = endS s by unfold aboS; rw [if_neg (by rw [HO.out]; decide)]] at hpo
        rw [show aboE s = 0 by unfold aboE; rw [if_neg (by rw [HO.out]; decide)]]
        have HPO : Hid (RSPo WC b wv (endS s) wD) := hpo
        obtain ⟨wv', hs', _, tD⟩ := hpo
        have RTD := RTC.kept (tD.block _ RTC.lt (nG _ (Nat.le_refl _))) tD.size
        have RXD := RXC.kept (tD.block _ RXC.lt (nG _ (Nat.le_succ _))) tD.size
        obtain ⟨D, hD⟩ : ∃ D, depOf m0 (endS s).p0 (endS s).p1 (endS s).p2 (endS s).p3 = D := ⟨_, rfl⟩
        have HB' : Hid (RowL wD b (rsesC (endS s) wv')) := hs'.box
        have HPA : Hid ((rsesC (endS s) wv')[m0.toNat]? = some (.int .i64 D)) := by show _ = _; rw [past_at i0 i3, hD]
        have HD : Hid (depOf m0 (endS s).p0 (endS s).p1 (endS s).p2 (endS s).p3 = D) := hD
        clear q0 q1 q2 q3 q4 q5 q6 q7 q8 x0 x1 x2 x3 x4 x5 x6 x7 x8 hct hce tD hs' hD AB
        have x0 := Later.cell (RXD.cell 0 _ rfl)
        have x1 := Later.cell (RXD.cell 1 _ rfl)
        have y0 := Later.cell (HB'.out.cell _ _ HPA.out)
        have hne := Later.one
        by_cases hlt : D < m1
        · have HS2 : Hid (scomSes S s now = pastN m0.toNat m1 (endS s)) := by show _ = _; rw [HE.out.1, atLeast_eq i0 i3, HD.out, maxZ_pos hlt]
          go_wp2_with fail
          refine wp_region_later (by kernel_rfl) (by kernel_rfl) ?_
          repeat (go_big_quiet_step (first | rfl | fail))
          refine wpQuiet_nil ?_
          rintro w3 ⟨⟨_, hb3⟩, rfl⟩
          clear x0 x1 y0
          have B3 := HB'.out.later hb3
          have RT3 := RTD.later hb3
          have RX3 := RXD.later hb3
          have x0 := RX3.cell 0 _ rfl
          have x1 := RX3.cell 1 _ rfl
          have y0 := B3.cell _ _ HPA.out
          have g0 := B3.free m0.toNat (by simp [rsesC]; omega)
          go_wp2_with fail
          go_region
          all_goals
            have P4 := ((HPO.out.after hb3).past (n := m0.toNat) (by omega) m1).after ((Below.refl _ (w3.setCell ⟨b, m0.toNat, none⟩ (.int .i64 m1))).drew)
            have bne : b ≠ w.heap.size := fun e => nG b (by omega) (.inl rfl)
            have bne1 : b ≠ w.heap.size + 1 := fun e => nG b (by omega) (.inl rfl)
            have RT4 := (RT3.far ⟨b, m0.toNat, none⟩ (.int .i64 m1) bne).drew
            have RX4 := (RX3.far ⟨b, m0.toNat, none⟩ (.int .i64 m1) bne1).drew
            obtain ⟨W4, hW4⟩ : ∃ W4, (w3.setCell ⟨b, m0.toNat, none⟩ (.int .i64 m1)).drew = W4 := ⟨_, rfl⟩
            rw [hW4] at P4 RT4 RX4
            (try rw [hW4])
            clear x0 x1 y0 g0 B3 RT3 RX3 RTD RXD RTC RXC
            have x0 := RX4.cell 0 _ rfl
            have x1 := RX4.cell 1 _ rfl
            have x2 := RX4.cell 2 _ rfl
            have x3 := RX4.cell 3 _ rfl
            have x4 := RX4.cell 4 _ rfl
            have x5 := RX4.cell 5 _ rfl
            have x6 := RX4.cell 6 _ rfl
            have x7 := RX4.cell 7 _ rfl
            have x8 := RX4.cell 8 _ rfl
            have r0 := RT4.cell 0 _ rfl
            have r1 := RT4.cell 1 _ rfl
            have r2 := RT4.cell 2 _ rfl
            have r3 := RT4.cell 3 _ rfl
            have r4 := RT4.cell 4 _ rfl
            have r5 := RT4.cell 5 _ rfl
            have r6 := RT4.cell 6 _ rfl
            have r7 := RT4.cell 7 _ rfl
            have r8 := RT4.cell 8 _ rfl
            have p0 := RT4.free 0 (by simp)
            have p1 := RT4.free 1 (by simp)
            have p2 := RT4.free 2 (by simp)
            have p3 := RT4.free 3 (by simp)
            have p4 := RT4.free 4 (by simp)
            have p5 := RT4.free 5 (by simp)
            have p6 := RT4.free 6 (by simp)
            have p7 := RT4.free 7 (by simp)
            have p8 := RT4.free 8 (by simp)
            have RZ := tx_set RT4 rfl m0 m1 m2 m3 m4 m5 m6 m7 (.slice ma mws.length mc)
            have FIN := com_fin (p := sesR b (pastN m0.toNat m1 (endS s))) (q := siteR bx (comS S now s.s0 s.s1 s.s2 s.s3 (allW s.ws))) (Y := (⟨⟨m0, m1, m2, m3, m4, m5, m6, m7, mws⟩, ma, mc⟩ : TxM).blk) HH.out.2.2.2.2.2.1 HH.out.2.2.2.2.2.2 HH.out.2.2.2.1 HBA.out HN2.out HPB.out.1 (fun k hk => ⟨HPB.out.2.2 k hk, WrIn.blk_lt (m := (⟨⟨m0, m1, m2, m3, m4, m5, m6, m7, mws⟩, ma, mc⟩ : TxM)) HPB.out.2.1 k hk⟩) TC (P4.left HG.out) (touch_tx' (b := w.heap.size) (Touch.ofBelow (Below.refl _ W4)) (.inl rfl) m0 m1 m2 m3 m4 m5 m6 m7 (.slice ma mws.length mc))
            have WF := WrIn.kept (m := (⟨⟨m0, m1, m2, m3, m4, m5, m6, m7, mws⟩, ma, mc⟩ : TxM)) HPB.out.2.1 (fun k hk => FIN.2 k hk)
            clear RT4 RX4
            go_wp2_with (rw [hW4])
            refine bodyPost_ret (scommit_results RZ rfl rfl) rfl ⟨(⟨⟨m0, m1, m2, m3, m4, m5, m6, m7, mws⟩, ma, mc⟩ : TxM), by rw [HCE.out.1]; rfl, HCE.out.2.symm, WF, ?_⟩
            rw [HY.out.2.2, HS2.out]
            exact FIN.1
        · have HS2 : Hid (scomSes S s now = endS s) := by show _ = _; rw [HE.out.1, atLeast_no i0 i3 (by rw [HD.out]; exact hlt)]
          go_wp2_with fail
          refine wp_region_later (by kernel_rfl) (by kernel_rfl) ?_
          repeat (go_big_quiet_step (first | rfl | fail))
          refine wpQuiet_nil ?_
          rintro w3 ⟨⟨_, hb3⟩, rfl⟩
          clear x0 x1 y0
          have P4 := HPO.out.after hb3
          have RT4 := RTD.later hb3
          have RX4 := RXD.later hb3
          have x0 := RX4.cell 0 _ rfl
          have x1 := RX4.cell 1 _ rfl
          have x2 := RX4.cell 2 _ rfl
          have x3 := RX4.cell 3 _ rfl
          have x4 := RX4.cell 4 _ rfl
          have x5 := RX4.cell 5 _ rfl
          have x6 := RX4.cell 6 _ rfl
          have x7 := RX4.cell 7 _ rfl
          have x8 := RX4.cell 8 _ rfl
          have r0 := RT4.cell 0 _ rfl
          have r1 := RT4.cell 1 _ rfl
          have r2 := RT4.cell 2 _ rfl
          have r3 := RT4.cell 3 _ rfl
          have r4 := RT4.cell 4 _ rfl
          have r5 := RT4.cell 5 _ rfl
          have r6 := RT4.cell 6 _ rfl
          have r7 := RT4.cell 7 _ rfl
          have r8 := RT4.cell 8 _ rfl
          have p0 := RT4.free 0 (by simp)
          have p1 := RT4.free 1 (by simp)
          have p2 := RT4.free 2 (by simp)
          have p3 := RT4.free 3 (by simp)
          have p4 := RT4.free 4 (by simp)
          have p5 := RT4.free 5 (by simp)
          have p6 := RT4.free 6 (by simp)
          have p7 := RT4.free 7 (by simp)
          have p8 := RT4.free 8 (by simp)
          have RZ := tx_set RT4 rfl m0 m1 m2 m3 m4 m5 m6 m7 (.slice ma mws.length mc)
          have FIN := com_fin (p := sesR b (endS s)) (q := siteR bx (comS S now s.s0 s.s1 s.s2 s.s3 (allW s.ws))) (Y := (⟨⟨m0, m1, m2, m3, m4, m5, m6, m7, mws⟩, ma, mc⟩ : TxM).blk) HH.out.2.2.2.2.2.1 HH.out.2.2.2.2.2.2 HH.out.2.2.2.1 HBA.out HN2.out HPB.out.1 (fun k hk => ⟨HPB.out.2.2 k hk, WrIn.blk_lt (m := (⟨⟨m0, m1, m2, m3, m4, m5, m6, m7, mws⟩, ma, mc⟩ : TxM)) HPB.out.2.1 k hk⟩) TC (P4.left HG.out) (touch_tx' (b := w.heap.size) (Touch.ofBelow (Below.refl _ w3)) (.inl rfl) m0 m1 m2 m3 m4 m5 m6 m7 (.slice ma mws.length mc))
          have WF := WrIn.kept (m := (⟨⟨m0, m1, m2, m3, m4, m5, m6, m7, mws⟩, ma, mc⟩ : TxM)) HPB.out.2.1 (fun k hk => FIN.2 k hk)
          clear RT4 RX4 RTD RXD RTC RXC
          go_wp2_with fail
          refine bodyPost_ret (scommit_results RZ rfl rfl) rfl ⟨(⟨⟨m0, m1, m2, m3, m4, m5, m6, m7, mws⟩, ma, mc⟩ : TxM), by rw [HCE.out.1]; rfl, HCE.out.2.symm, WF, ?_⟩
          rw [HY.out.2.2, HS2.out]
          exact FIN.1
      · have HE : Hid (scomSes S s now = s ∧ comS S now s.s0 s.s1 s.s2 s.s3 (allW s.ws) = S ∧ comT S now s.s0 s.s1 s.s2 s.s3 (allW s.ws) = tx0.t) := scom_bad HO.out HLN.out (by rw [hce]; exact hE)
        have HCE : Hid (scomE S s now = ce ∧ scomT S s now = tx0.t ∧ scomS S s now = S) := ⟨HY.out.1.trans hce, HY.out.2.1.trans HE.out.2.2, HY.out.2.2.trans HE.out.2.1⟩
        have HPS : Hid (RPo wA bx Gx S wB) := by have := HPB.out.1; rw [HE.out.2.1] at this; exact this
        have RZ := tx_set RTC rfl 0 0 0 0 0 0 0 0 (.slice none 0 0)
        have FIN := com_fin (p := sesR b s) (q := siteR bx S) (Y := tx0.blk) HH.out.2.2.2.2.2.1 HH.out.2.2.2.2.2.2 HH.out.2.2.2.1 HBA.out HN2.out HPS.out (fun k hk => absurd hk (tx0_blk k)) TC ((RSPo.same hsC (Below.refl _ _)).left HG.out) (touch_tx' (b := w.heap.size) (Touch.ofBelow (Below.refl _ WC)) (.inl rfl) 0 0 0 0 0 0 0 0 (.slice none 0 0))
        clear hct hce
        have r0 := RTC.cell 0 _ rfl
        have r1 := RTC.cell 1 _ rfl
        have r2 := RTC.cell 2 _ rfl
        have r3 := RTC.cell 3 _ rfl
        have r4 := RTC.cell 4 _ rfl
        have r5 := RTC.cell 5 _ rfl
        have r6 := RTC.cell 6 _ rfl
        have r7 := RTC.cell 7 _ rfl
        have r8 := RTC.cell 8 _ rfl
        have p0 := RTC.free 0 (by simp)
        have p1 := RTC.free 1 (by simp)
        have p2 := RTC.free 2 (by simp)
        have p3 := RTC.free 3 (by simp)
        have p4 := RTC.free 4 (by simp)
        have p5 := RTC.free 5 (by simp)
        have p6 := RTC.free 6 (by simp)
        have p7 := RTC.free 7 (by simp)
        have p8 := RTC.free 8 (by simp)
        clear RTC RXC
        go_wp2_with (rw [hWC])
        refine bodyPost_ret (scommit_results RZ rfl rfl) rfl ⟨tx0, by rw [HCE.out.1]; rfl, HCE.out.2.1.symm, tx0_in _, ?_⟩
        rw [HE.out.1, HCE.out.2.2]
        exact FIN.1

end Go.Proofs.YtpncedpfoakfkaaGreatDoor
