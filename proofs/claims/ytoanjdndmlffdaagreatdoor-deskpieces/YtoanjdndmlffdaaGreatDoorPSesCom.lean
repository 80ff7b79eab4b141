import Derived.Test.YtoanjdndmlffdaaGreatDoorSiteH
import Derived.Test.YtoanjdndmlffdaaGreatDoorPSesW
namespace Go.Proofs.YtoanjdndmlffdaaGreatDoor
open Go.RowKit
theorem pscommit_results {tmps : Array Value} {w : World} {b : Nat} {x0 x1 x2 x3 x4 x5 x6 x7 : Int} {ev : Value} {a : Option Addr} {n c : Nat} (h : RowL w b [.int .i64 x0, .int .i64 x1, .int .i64 x2, .int .i64 x3, .int .i64 x4, .int .i64 x5, .int .i64 x6, .int .i64 x7, .slice a n c]) (h2 : tmps[6]? = some (.pointer (some ⟨b, 0, none⟩))) (h3 : tmps[7]? = some ev) :
    (results Tryz.f150 tmps).run Tryz.prog w = .ok (.tuple #[.agg #[.int .i64 x0, .int .i64 x1, .int .i64 x2, .int .i64 x3, .int .i64 x4, .int .i64 x5, .int .i64 x6, .int .i64 x7, .slice a n c], ev]) w := by
  have z0 := h.cell 0 _ rfl
  have z1 := h.cell 1 _ rfl
  have z2 := h.cell 2 _ rfl
  have z3 := h.cell 3 _ rfl
  have z4 := h.cell 4 _ rfl
  have z5 := h.cell 5 _ rfl
  have z6 := h.cell 6 _ rfl
  have z7 := h.cell 7 _ rfl
  have z8 := h.cell 8 _ rfl
  simp [results, Tryz.results150, go_sem, h2, h3, z0, z1, z2, z3, z4, z5, z6, z7, z8]
theorem PSPo.left {w w' : World} {b : Nat} {G : Nat → Prop} {s' : SesS} (h : PSPo w b G s' w') : Left (sesP b s') w G w' := h

set_option maxRecDepth 100000 in
set_option maxHeartbeats 16000000 in
theorem pscommit_apart {b bx : Nat} {G Gx : Nat → Prop} {s : SesS} {S : SiteS} (now : Int) (w : World) (h : PSe w b G s) (hS : PS w bx Gx S) (hI : InvS S) (hd : ∀ k, G k → ¬ Gx k) :
    Calls Tryz.prog 150 #[.pointer (some ⟨b, 0, none⟩), .pointer (some ⟨bx, 0, none⟩), .int .i64 now] w (PSCommitA w b bx G Gx S s now) := by
  have HH : Hid (PSe w b G s ∧ PS w bx Gx S ∧ InvS S ∧ (∀ k, G k → ¬ Gx k) ∧ G b ∧ (∀ k, G k → k < w.heap.size) ∧ ∀ k, Gx k → k < w.heap.size) := ⟨h, hS, hI, hd, h.own, h.lt, hS.lt⟩
  obtain ⟨mv, h0, hm⟩ := h
  have hb1 := boxed (Below.refl _ w) (.cells #[.int .i64 0, .int .i64 0, .int .i64 0, .int .i64 0, .int .i64 0, .int .i64 0, .int .i64 0, .int .i64 0, .slice none 0 0] 102)
  have RT := RowL.new (w := w) (T := 102) [.int .i64 0, .int .i64 0, .int .i64 0, .int .i64 0, .int .i64 0, .int .i64 0, .int .i64 0, .int .i64 0, .slice none 0 0] rfl
  change RowL (w.alloc (.cells #[.int .i64 0, .int .i64 0, .int .i64 0, .int .i64 0, .int .i64 0, .int .i64 0, .int .i64 0, .int .i64 0, .slice none 0 0] 102)) w.heap.size [.int .i64 0, .int .i64 0, .int .i64 0, .int .i64 0, .int .i64 0, .int .i64 0, .int .i64 0, .int .i64 0, .slice none 0 0] at RT
  have HN2 : Hid (∀ (wA : World), w.heap.size < wA.heap.size → ∀ k, k = w.heap.size → w.heap.size ≤ k ∧ k < wA.heap.size) := fun wA hA k e => by omega
  have B1 := h0.later hb1
  have k4 := B1.cell 4 _ rfl
  rcases hm with ⟨ho, rfl, _, _⟩ | ⟨ho, bm, rfl, hne, hM, hG⟩
  · rw [ho] at k4
    have HE : Hid (scomE S s now = 6 ∧ scomT S s now = tx0.t ∧ scomS S s now = S ∧ scomSes S s now = s) := scom_shut ho
    clear hS hI hd h0 B1 ho
    go_enter Tryz.func150, Tryz.ntmps150
    go_wp2_with fail
    refine bodyPost_ret (pscommit_results RT rfl rfl) rfl ⟨tx0, by rw [HE.out.1]; rfl, HE.out.2.1.symm, ⟨tx0_in _, left2_x (Z := NoY) ?_ tx0_blk⟩⟩
    rw [HE.out.2.2.1, HE.out.2.2.2]
    exact left2_same (p := sesP b s) (q := siteP bx S) HH.out.1 HH.out.2.1 HH.out.2.2.2.1 hb1 _ (fun _ hk => hk)
  · rw [ho] at k4
    have HO : Hid (s.opn = true) := ho
    have M1 := hM.later hb1
    have LEN := M1.len
    have k9 := B1.cell 9 _ rfl
    by_cases hl : (allW s.ws).length = 0
    · have HE : Hid (scomE S s now = 0 ∧ scomT S s now = tx0.t ∧ scomS S s now = S ∧ scomSes S s now = endS s) := scom_none HO.out hl
      rw [hl] at LEN
      have EN := pend_any (w.alloc (.cells #[.int .i64 0, .int .i64 0, .int .i64 0, .int .i64 0, .int .i64 0, .int .i64 0, .int .i64 0, .int .i64 0, .slice none 0 0] 102)) (HH.out.1.later hb1)
      clear hS hI hd h0 B1 ho M1 hM hl
      go_enter Tryz.func150, Tryz.ntmps150
      go_wp2_with fail
      refine EN.mono ?_
      rintro e wD ⟨rfl, hpo⟩
      have HPO : Hid (PSPo (w.alloc (.cells #[.int .i64 0, .int .i64 0, .int .i64 0, .int .i64 0, .int .i64 0, .int .i64 0, .int .i64 0, .int .i64 0, .slice none 0 0] 102)) b G (endS s) wD) := hpo
      obtain ⟨G', _, _, tD⟩ := hpo
      have RTD := RT.kept (tD.block _ RT.lt (fun e => by have := HH.out.2.2.2.2.2.1 _ e; omega)) tD.size
      clear tD EN k4 k9 LEN
      have r0 := RTD.cell 0 _ rfl
      have r1 := RTD.cell 1 _ rfl
      have r2 := RTD.cell 2 _ rfl
      have r3 := RTD.cell 3 _ rfl
      have r4 := RTD.cell 4 _ rfl
      have r5 := RTD.cell 5 _ rfl
      have r6 := RTD.cell 6 _ rfl
      have r7 := RTD.cell 7 _ rfl
      have r8 := RTD.cell 8 _ rfl
      have p0 := RTD.free 0 (by simp)
      have p1 := RTD.free 1 (by simp)
      have p2 := RTD.free 2 (by simp)
      have p3 := RTD.free 3 (by simp)
      have p4 := RTD.free 4 (by simp)
      have p5 := RTD.free 5 (by simp)
      have p6 := RTD.free 6 (by simp)
      have p7 := RTD.free 7 (by simp)
      have p8 := RTD.free 8 (by simp)
      have RZ := tx_set RTD rfl 0 0 0 0 0 0 0 0 (.slice none 0 0)
      have FIN := com_fin (p := sesP b (endS s)) (q := siteP bx S) (Y := NoY) (N := fun k => k = w.heap.size) HH.out.2.2.2.2.2.1 HH.out.2.2.2.2.2.2 HH.out.2.2.2.1 hb1 (HN2.out _ (by simp)) (PPo.same (HH.out.2.1.later hb1) (Below.refl _ _)) (fun k hk => hk.elim) (Touch.ofBelow (Below.refl _ _)) HPO.out.left (touch_tx' (b := w.heap.size) (F := fun k => k = w.heap.size) (Touch.ofBelow (Below.refl _ wD)) rfl 0 0 0 0 0 0 0 0 (.slice none 0 0))
      clear RTD RT HPO
      go_wp2_with fail
      refine bodyPost_ret (pscommit_results RZ rfl rfl) rfl ⟨tx0, by rw [HE.out.1]; rfl, HE.out.2.1.symm, ⟨tx0_in _, left2_x (Z := NoY) ?_ tx0_blk⟩⟩
      rw [HE.out.2.2.1, HE.out.2.2.2]
      exact FIN.1
    · have HY : Hid (scomE S s now = comE S now s.s0 s.s1 s.s2 s.s3 (allW s.ws) ∧ scomT S s now = comT S now s.s0 s.s1 s.s2 s.s3 (allW s.ws) ∧ scomS S s now = comS S now s.s0 s.s1 s.s2 s.s3 (allW s.ws)) := scom_yes HO.out hl
      have HLN : Hid ((allW s.ws).length ≠ 0) := hl
      have l0 : ¬ (((allW s.ws).length : Int) = 0) := by omega
      have l1 : ((((allW s.ws).length : Int)) == 0) = false := by simpa using l0
      obtain ⟨⟨m0, m1, m2, m3, m4, m5, m6, m7, mws⟩, hct⟩ : ∃ t, comT S now s.s0 s.s1 s.s2 s.s3 (allW s.ws) = t := ⟨_, rfl⟩
      obtain ⟨ce, hce⟩ : ∃ ce, comE S now s.s0 s.s1 s.s2 s.s3 (allW s.ws) = ce := ⟨_, rfl⟩
      have HB0 : Hid (RowL w b (psesC s (.map (some bm))) ∧ WMap w bm s.ws) := ⟨h0, hM⟩
      have HW1 : Hid ((w.alloc (.cells #[.int .i64 0, .int .i64 0, .int .i64 0, .int .i64 0, .int .i64 0, .int .i64 0, .int .i64 0, .int .i64 0, .slice none 0 0] 102)).heap.size = w.heap.size + 1) := by show _ = _; simp
      have hbR := (Below.refl (w.alloc (.cells #[.int .i64 0, .int .i64 0, .int .i64 0, .int .i64 0, .int .i64 0, .int .i64 0, .int .i64 0, .int .i64 0, .slice none 0 0] 102)).heap.size (w.alloc (.cells #[.int .i64 0, .int .i64 0, .int .i64 0, .int .i64 0, .int .i64 0, .int .i64 0, .int .i64 0, .int .i64 0, .slice none 0 0] 102))).drew
      have hbS := boxed hbR (.cells #[.int .i64 0, .int .i64 0, .int .i64 0, .int .i64 0, .int .i64 0, .int .i64 0, .int .i64 0, .int .i64 0, .slice none 0 0] 102)
      have RXS := RowL.new (w := (w.alloc (.cells #[.int .i64 0, .int .i64 0, .int .i64 0, .int .i64 0, .int .i64 0, .int .i64 0, .int .i64 0, .int .i64 0, .slice none 0 0] 102)).drew) (T := 102) (n := w.heap.size + 1) [.int .i64 0, .int .i64 0, .int .i64 0, .int .i64 0, .int .i64 0, .int .i64 0, .int .i64 0, .int .i64 0, .slice none 0 0] (by show (w.alloc (.cells #[.int .i64 0, .int .i64 0, .int .i64 0, .int .i64 0, .int .i64 0, .int .i64 0, .int .i64 0, .int .i64 0, .slice none 0 0] 102)).heap.size = _; simp)
      change RowL ((w.alloc (.cells #[.int .i64 0, .int .i64 0, .int .i64 0, .int .i64 0, .int .i64 0, .int .i64 0, .int .i64 0, .int .i64 0, .slice none 0 0] 102)).drew.alloc (.cells #[.int .i64 0, .int .i64 0, .int .i64 0, .int .i64 0, .int .i64 0, .int .i64 0, .int .i64 0, .int .i64 0, .slice none 0 0] 102)) (w.heap.size + 1) [.int .i64 0, .int .i64 0, .int .i64 0, .int .i64 0, .int .i64 0, .int .i64 0, .int .i64 0, .int .i64 0, .slice none 0 0] at RXS
      have RTR := RT.drew
      have RTS := RTR.boxed (.cells #[.int .i64 0, .int .i64 0, .int .i64 0, .int .i64 0, .int .i64 0, .int .i64 0, .int .i64 0, .int .i64 0, .slice none 0 0] 102)
      have RI : Hid (∀ wx, Below (w.alloc (.cells #[.int .i64 0, .int .i64 0, .int .i64 0, .int .i64 0, .int .i64 0, .int .i64 0, .int .i64 0, .int .i64 0, .slice none 0 0] 102)).heap.size (w.alloc (.cells #[.int .i64 0, .int .i64 0, .int .i64 0, .int .i64 0, .int .i64 0, .int .i64 0, .int .i64 0, .int .i64 0, .slice none 0 0] 102)) wx → Calls Tryz.prog 207 #[.pointer (some ⟨b, 0, none⟩)] wx fun e w' => ∃ va vc, e = .returned (.slice va (allW s.ws).length vc) ∧ w'.ownsRow wx.heap.size 100 3 (.slice va (allW s.ws).length vc) (allW s.ws).length (wrsC (allW s.ws)) ∧ Below wx.heap.size wx w' ∧ Below w.heap.size w w' ∧ RowL w' b (psesC s (.map (some bm))) ∧ w.heap.size + 1 ≤ wx.heap.size) := fun wx hx => by
        have hbx := behind hb1 hx
        refine (rising_any wx (HB0.out.1.later hbx) (HB0.out.2.later hbx)).mono ?_
        rintro e w' ⟨v, rfl, ownv, hbv⟩
        obtain ⟨va, vc, rfl, _⟩ := wrIn_own ownv
        have := hx.size
        have e1 := HW1.out
        exact ⟨va, vc, rfl, ownv, hbv, behind hbx hbv, HB0.out.1.later (behind hbx hbv), by omega⟩
      have CM : Hid (∀ (Bs : Nat) (wA : World) (va : Option Addr) (vc : Nat), Below w.heap.size w wA → w.heap.size + 1 ≤ Bs → wA.ownsRow Bs 100 3 (.slice va (allW s.ws).length vc) (allW s.ws).length (wrsC (allW s.ws)) → Calls Tryz.prog 206 #[.pointer (some ⟨bx, 0, none⟩), .int .i64 now, .agg #[.int .i64 s.s0, .int .i64 s.s1, .int .i64 s.s2, .int .i64 s.s3], .slice va (allW s.ws).length vc] wA fun e wB => ∃ (ma : Option Addr) (mc : Nat), e = .returned (.tuple #[.agg #[.int .i64 m0, .int .i64 m1, .int .i64 m2, .int .i64 m3, .int .i64 m4, .int .i64 m5, .int .i64 m6, .int .i64 m7, .slice ma mws.length mc], errV ce]) ∧ Hid (WrIn wB ma mc mws ∧ Left (siteX bx (comS S now s.s0 s.s1 s.s2 s.s3 (allW s.ws)) (⟨⟨m0, m1, m2, m3, m4, m5, m6, m7, mws⟩, ma, mc⟩ : TxM).blk) wA Gx wB ∧ ∀ k, (⟨⟨m0, m1, m2, m3, m4, m5, m6, m7, mws⟩, ma, mc⟩ : TxM).blk k → wA.heap.size ≤ k) ∧ (∀ k, w.heap.size ≤ k → k < wA.heap.size → wB.heap[k]? = wA.heap[k]?) ∧ wA.heap.size ≤ wB.heap.size) := fun Bs wA va vc hba hle own => by
        obtain ⟨a2, c2, e2, hWv⟩ := wrIn_own own
        injection e2 with e2 _ e3
        subst e2 e3
        refine (commit_apart now s.s0 s.s1 s.s2 s.s3 wA (HH.out.2.1.later hba) HH.out.2.2.1 hWv (fun k off hne e hg => ?_)).mono ?_
        · obtain ⟨g, cc, e1, e2, e3⟩ := own.form (List.length_pos_iff.2 hne)
          injection e1 with e1
          rw [e1] at e
          injection e with e
          injection e with e
          have := HH.out.2.2.2.2.2.2 k hg
          omega
        · rintro e wB ⟨⟨mt, ma, mc⟩, G', rfl, hmt, hh⟩
          rw [hct] at hmt
          simp only at hmt
          subst hmt
          rw [hce]
          have tB := hh.out.2.2.2.1
          exact ⟨ma, mc, rfl, ⟨hh.out.1, ⟨G', ⟨hh.out.2.1, fun k hk => (hh.out.2.2.2.2 k hk).2⟩, hh.out.2.2.1, tB⟩, fun k hk => (hh.out.2.2.2.2 k hk).1⟩, fun k h1 h2 => tB.block k h2 (fun e => by have := HH.out.2.2.2.2.2.2 _ e; omega), tB.size⟩
      have k5 := B1.cell 5 _ rfl
      have k6 := B1.cell 6 _ rfl
      have k7 := B1.cell 7 _ rfl
      have k8 := B1.cell 8 _ rfl
      have HBL : Hid (b < w.heap.size) := h0.lt
      have hbl1 : b < w.heap.size + 1 := by have := HBL.out; omega
      clear hS hI hd h0 ho M1 hM hl
      go_enter Tryz.func150, Tryz.ntmps150
      go_wp2_with fail
      go_region_law (first
        | (refine step_call rfl 207 #[.pointer (some ⟨b, 0, none⟩)] (by go_simp) (RI.out _ hbR) ?_
           rintro e wa ⟨va, vc, rfl, ownv, hbv, hba, Ba, hle⟩
           refine ⟨_, rfl, ?_⟩
           have RTa := RTR.later hbv
           have hla : b < wa.heap.size := Ba.lt
           have z5 := Ba.cell 5 _ rfl
           have z6 := Ba.cell 6 _ rfl
           have z7 := Ba.cell 7 _ rfl
           have z8 := Ba.cell 8 _ rfl)
        | (refine step_call rfl 207 #[.pointer (some ⟨b, 0, none⟩)] (by go_simp) (RI.out _ hbS) ?_
           rintro e wa ⟨va, vc, rfl, ownv, hbv, hba, Ba, hle⟩
           refine ⟨_, rfl, ?_⟩
           have RTa := RTS.later hbv
           have RXa := RXS.later hbv
           have hla : b < wa.heap.size := Ba.lt
           have z5 := Ba.cell 5 _ rfl
           have z6 := Ba.cell 6 _ rfl
           have z7 := Ba.cell 7 _ rfl
           have z8 := Ba.cell 8 _ rfl)
        | (refine step_call rfl 206 #[.pointer (some ⟨bx, 0, none⟩), .int .i64 now, .agg #[.int .i64 s.s0, .int .i64 s.s1, .int .i64 s.s2, .int .i64 s.s3], .slice va (allW s.ws).length vc] (by go_simp) (CM.out _ (wa.alloc (.cells #[.int .i64 0, .int .i64 0, .int .i64 0, .int .i64 0, .int .i64 0, .int .i64 0, .int .i64 0, .int .i64 0, .slice none 0 0] 102)) va vc (boxed hba _) hle (ownv.alloc _)) ?_
           rintro e wB ⟨ma, mc, rfl, hh, hkB, hsB⟩
           refine ⟨_, rfl, ?_⟩
           have hla2 := RTa.lt
           have RTB := (RTa.boxed (.cells #[.int .i64 0, .int .i64 0, .int .i64 0, .int .i64 0, .int .i64 0, .int .i64 0, .int .i64 0, .int .i64 0, .slice none 0 0] 102)).kept (hkB _ (Nat.le_refl _) (by simp; omega)) hsB
           have RXb := (RowL.new (w := wa) (T := 102) [.int .i64 0, .int .i64 0, .int .i64 0, .int .i64 0, .int .i64 0, .int .i64 0, .int .i64 0, .int .i64 0, .slice none 0 0] rfl).kept (hkB _ (by omega) (by simp)) hsB
           have x0 := RXb.cell 0 _ rfl
           have x1 := RXb.cell 1 _ rfl
           have x2 := RXb.cell 2 _ rfl
           have x3 := RXb.cell 3 _ rfl
           have x4 := RXb.cell 4 _ rfl
           have x5 := RXb.cell 5 _ rfl
           have x6 := RXb.cell 6 _ rfl
           have x7 := RXb.cell 7 _ rfl
           have x8 := RXb.cell 8 _ rfl
           have q0 := RXb.free 0 (by simp)
           have q1 := RXb.free 1 (by simp)
           have q2 := RXb.free 2 (by simp)
           have q3 := RXb.free 3 (by simp)
           have q4 := RXb.free 4 (by simp)
           have q5 := RXb.free 5 (by simp)
           have q6 := RXb.free 6 (by simp)
           have q7 := RXb.free 7 (by simp)
           have q8 := RXb.free 8 (by simp))
        | (refine step_call rfl 206 #[.pointer (some ⟨bx, 0, none⟩), .int .i64 now, .agg #[.int .i64 s.s0, .int .i64 s.s1, .int .i64 s.s2, .int .i64 s.s3], .slice va (allW s.ws).length vc] (by go_simp) (CM.out _ wa va vc hba hle ownv) ?_
           rintro e wB ⟨ma, mc, rfl, hh, hkB, hsB⟩
           refine ⟨_, rfl, ?_⟩
           have RTB := RTa.kept (hkB _ (Nat.le_refl _) RTa.lt) hsB
           have RXc := RXa.kept (hkB _ (by omega) RXa.lt) hsB
           have x0 := RXc.cell 0 _ rfl
           have x1 := RXc.cell 1 _ rfl
           have x2 := RXc.cell 2 _ rfl
           have x3 := RXc.cell 3 _ rfl
           have x4 := RXc.cell 4 _ rfl
           have x5 := RXc.cell 5 _ rfl
           have x6 := RXc.cell 6 _ rfl
           have x7 := RXc.cell 7 _ rfl
           have x8 := RXc.cell 8 _ rfl
           have q0 := RXc.free 0 (by simp)
           have q1 := RXc.free 1 (by simp)
           have q2 := RXc.free 2 (by simp)
           have q3 := RXc.free 3 (by simp)
           have q4 := RXc.free 4 (by simp)
           have q5 := RXc.free 5 (by simp)
           have q6 := RXc.free 6 (by simp)
           have q7 := RXc.free 7 (by simp)
           have q8 := RXc.free 8 (by simp))
        | (refine step_call rfl 206 #[.pointer (some ⟨bx, 0, none⟩), .int .i64 now, .agg #[.int .i64 s.s0, .int .i64 s.s1, .int .i64 s.s2, .int .i64 s.s3], .slice va (allW s.ws).length vc] (by go_simp) (CM.out _ wa va vc hba hle ownv) ?_
           rintro e wB ⟨ma, mc, rfl, hh, hkB, hsB⟩
           refine ⟨_, rfl, ?_⟩
           have RTB := RTa.kept (hkB _ (Nat.le_refl _) RTa.lt) hsB))
      all_goals
        have hlT := RTB.lt
        have hlTa := RTa.lt
        first
          | (have RXC := tx_set RXb rfl m0 m1 m2 m3 m4 m5 m6 m7 (.slice ma mws.length mc)
             have RTC := tx_keep RTB (by omega : w.heap.size ≠ wa.heap.size) m0 m1 m2 m3 m4 m5 m6 m7 (.slice ma mws.length mc)
             have bneX : b ≠ wa.heap.size := by have := HBL.out; omega
             have hxge : w.heap.size ≤ wa.heap.size := by omega
             have PK : Hid (∃ wA N, Below w.heap.size w wA ∧ (∀ k, N k → w.heap.size ≤ k ∧ k < wA.heap.size) ∧ N w.heap.size ∧ Left (siteX bx (comS S now s.s0 s.s1 s.s2 s.s3 (allW s.ws)) (⟨⟨m0, m1, m2, m3, m4, m5, m6, m7, mws⟩, ma, mc⟩ : TxM).blk) wA Gx wB ∧ WrIn wB ma mc mws ∧ (∀ k, (⟨⟨m0, m1, m2, m3, m4, m5, m6, m7, mws⟩, ma, mc⟩ : TxM).blk k → wA.heap.size ≤ k) ∧ Touch N wB (setTx wB wa.heap.size m0 m1 m2 m3 m4 m5 m6 m7 (.slice ma mws.length mc))) := ⟨wa.alloc (.cells #[.int .i64 0, .int .i64 0, .int .i64 0, .int .i64 0, .int .i64 0, .int .i64 0, .int .i64 0, .int .i64 0, .slice none 0 0] 102), fun k => k = w.heap.size ∨ k = wa.heap.size, boxed hba _, fun k e => by simp; omega, .inl rfl, hh.out.2.1, hh.out.1, hh.out.2.2, touch_tx' (Touch.ofBelow (Below.refl _ wB)) (.inr rfl) m0 m1 m2 m3 m4 m5 m6 m7 (.slice ma mws.length mc)⟩
             obtain ⟨WC, hWC⟩ : ∃ WC, setTx wB wa.heap.size m0 m1 m2 m3 m4 m5 m6 m7 (.slice ma mws.length mc) = WC := ⟨_, rfl⟩
             rw [hWC] at RXC RTC PK
             simp only [setTx] at hWC
             clear RXb RTB)
          | (have RXC := tx_set RXc rfl m0 m1 m2 m3 m4 m5 m6 m7 (.slice ma mws.length mc)
             have RTC := tx_keep RTB (by omega : w.heap.size ≠ w.heap.size + 1) m0 m1 m2 m3 m4 m5 m6 m7 (.slice ma mws.length mc)
             have bneX : b ≠ w.heap.size + 1 := by have := HBL.out; omega
             have hxge : w.heap.size ≤ w.heap.size + 1 := by omega
             have hlX := RXa.lt
             have PK : Hid (∃ wA N, Below w.heap.size w wA ∧ (∀ k, N k → w.heap.size ≤ k ∧ k < wA.heap.size) ∧ N w.heap.size ∧ Left (siteX bx (comS S now s.s0 s.s1 s.s2 s.s3 (allW s.ws)) (⟨⟨m0, m1, m2, m3, m4, m5, m6, m7, mws⟩, ma, mc⟩ : TxM).blk) wA Gx wB ∧ WrIn wB ma mc mws ∧ (∀ k, (⟨⟨m0, m1, m2, m3, m4, m5, m6, m7, mws⟩, ma, mc⟩ : TxM).blk k → wA.heap.size ≤ k) ∧ Touch N wB (setTx wB (w.heap.size + 1) m0 m1 m2 m3 m4 m5 m6 m7 (.slice ma mws.length mc))) := ⟨wa, fun k => k = w.heap.size ∨ k = w.heap.size + 1, hba, fun k e => by omega, .inl rfl, hh.out.2.1, hh.out.1, hh.out.2.2, touch_tx' (Touch.ofBelow (Below.refl _ wB)) (.inr rfl) m0 m1 m2 m3 m4 m5 m6 m7 (.slice ma mws.length mc)⟩
             obtain ⟨WC, hWC⟩ : ∃ WC, setTx wB (w.heap.size + 1) m0 m1 m2 m3 m4 m5 m6 m7 (.slice ma mws.length mc) = WC := ⟨_, rfl⟩
             rw [hWC] at RXC RTC PK
             simp only [setTx] at hWC
             clear RXc RXa hlX RTB)
          | (have RXC := RowL.new (w := wB) (T := 102) [.int .i64 m0, .int .i64 m1, .int .i64 m2, .int .i64 m3, .int .i64 m4, .int .i64 m5, .int .i64 m6, .int .i64 m7, .slice ma mws.length mc] rfl
             change RowL (wB.alloc (.cells #[.int .i64 m0, .int .i64 m1, .int .i64 m2, .int .i64 m3, .int .i64 m4, .int .i64 m5, .int .i64 m6, .int .i64 m7, .slice ma mws.length mc] 102)) wB.heap.size [.int .i64 m0, .int .i64 m1, .int .i64 m2, .int .i64 m3, .int .i64 m4, .int .i64 m5, .int .i64 m6, .int .i64 m7, .slice ma mws.length mc] at RXC
             have RTC := RTB.boxed (.cells #[.int .i64 m0, .int .i64 m1, .int .i64 m2, .int .i64 m3, .int .i64 m4, .int .i64 m5, .int .i64 m6, .int .i64 m7, .slice ma mws.length mc] 102)
             have bneX : b ≠ wB.heap.size := by have := HBL.out; omega
             have hxge : w.heap.size ≤ wB.heap.size := by omega
             have PK : Hid (∃ wA N, Below w.heap.size w wA ∧ (∀ k, N k → w.heap.size ≤ k ∧ k < wA.heap.size) ∧ N w.heap.size ∧ Left (siteX bx (comS S now s.s0 s.s1 s.s2 s.s3 (allW s.ws)) (⟨⟨m0, m1, m2, m3, m4, m5, m6, m7, mws⟩, ma, mc⟩ : TxM).blk) wA Gx wB ∧ WrIn wB ma mc mws ∧ (∀ k, (⟨⟨m0, m1, m2, m3, m4, m5, m6, m7, mws⟩, ma, mc⟩ : TxM).blk k → wA.heap.size ≤ k) ∧ Touch N wB (wB.alloc (.cells #[.int .i64 m0, .int .i64 m1, .int .i64 m2, .int .i64 m3, .int .i64 m4, .int .i64 m5, .int .i64 m6, .int .i64 m7, .slice ma mws.length mc] 102))) := ⟨wa, fun k => k = w.heap.size, hba, fun k e => by omega, rfl, hh.out.2.1, hh.out.1, hh.out.2.2, Touch.ofBelow (boxed (Below.refl _ wB) _)⟩
             obtain ⟨WC, hWC⟩ : ∃ WC, wB.alloc (.cells #[.int .i64 m0, .int .i64 m1, .int .i64 m2, .int .i64 m3, .int .i64 m4, .int .i64 m5, .int .i64 m6, .int .i64 m7, .slice ma mws.length mc] 102) = WC := ⟨_, rfl⟩
             rw [hWC] at RXC RTC PK
             clear RTB)
        (try clear x0 x1 x2 x3 x4 x5 x6 x7 x8 q0 q1 q2 q3 q4 q5 q6 q7 q8)
        clear k4 k5 k6 k7 k8 k9 z5 z6 z7 z8 LEN RI CM B1 RT RTR RTS RXS hbR hbS hh ownv hbv Ba RTa hlT hlTa hkB hsB
        have PSC : PSe WC b G s := by
          obtain ⟨wA, N, hA, hN, hNw, hPB, hWB, hnb, TC⟩ := PK.out
          have mid := com_mid (q := siteX bx (comS S now s.s0 s.s1 s.s2 s.s3 (allW s.ws)) (⟨⟨m0, m1, m2, m3, m4, m5, m6, m7, mws⟩, ma, mc⟩ : TxM).blk) HH.out.2.2.2.2.2.1 HH.out.2.2.2.1 hA hN hPB TC
          exact HH.out.1.kept mid.1 mid.2
        by_cases hE : ce = 0
        · subst hE
          have HE : Hid (scomSes S s now = atLeast m0 m1 (endS s) ∧ m0 = S.id) := by
            have := scom_good (S := S) (s := s) (now := now) HO.out HLN.out hce
            rw [hct] at this
            exact this
          have HCE : Hid (scomE S s now = 0 ∧ scomT S s now = ⟨m0, m1, m2, m3, m4, m5, m6, m7, mws⟩) := ⟨HY.out.1.trans hce, HY.out.2.1.trans hct⟩
          have i0 : 0 ≤ m0 := by rw [HE.out.2]; exact HH.out.2.2.1.id0
          have i3 : m0 ≤ 3 := by rw [HE.out.2]; exact HH.out.2.2.1.id3
          have i4 : m0 < 4 := by omega
          have EN := pend_any WC PSC
          rw [show errV 0 = .nilIface from rfl]
          clear hct hce
          go_wp2_with (rw [hWC])
          refine EN.mono ?_
          rintro e wD ⟨rfl, hpo⟩
          have HPO : Hid (PSPo WC b G (endS s) wD) := hpo
          obtain ⟨G', ⟨mv', B', _⟩, _, tD⟩ := hpo
          have RTD := RTC.kept (tD.block _ RTC.lt (fun e => by have := HH.out.2.2.2.2.2.1 _ e; omega)) tD.size
          have RXD := RXC.kept (tD.block _ RXC.lt (fun e => by have := HH.out.2.2.2.2.2.1 _ e; omega)) tD.size
          obtain ⟨D, hD⟩ : ∃ D, depOf m0 (endS s).p0 (endS s).p1 (endS s).p2 (endS s).p3 = D := ⟨_, rfl⟩
          have HPA : Hid ((psesC (endS s) mv')[m0.toNat]? = some (.int .i64 D)) := by show _ = _; rw [ppast_at i0 i3, hD]
          have HS2 : Hid (scomSes S s now = pastN m0.toNat (maxZ D m1) (endS s)) := by show _ = _; rw [HE.out.1, atLeast_eq i0 i3, hD]
          clear hD tD EN RTC RXC hxge
          have x0 := RXD.cell 0 _ rfl
          have x1 := RXD.cell 1 _ rfl
          have y0 := B'.cell _ _ HPA.out
          have g0 := B'.free m0.toNat (by simp [psesC]; omega)
          have bne : b ≠ w.heap.size := fun e => by have := HBL.out; omega
          go_wp2_with fail
          go_region
          all_goals
            obtain ⟨mx, hmx⟩ : ∃ mx, (if D < m1 then m1 else D) = mx := ⟨_, rfl⟩
            rw [hmx]
            have HMX : Hid (maxZ D m1 = mx) := hmx
            have P4 := (PSPo.past HH.out.2.2.2.2.1 HPO.out (n := m0.toNat) (by omega) mx).after ((Below.refl _ (wD.setCell ⟨b, m0.toNat, none⟩ (.int .i64 mx))).drew)
            have RT4 := (RTD.far ⟨b, m0.toNat, none⟩ (.int .i64 mx) bne).drew
            have RX4 := (RXD.far ⟨b, m0.toNat, none⟩ (.int .i64 mx) bneX).drew
            obtain ⟨W4, hW4⟩ : ∃ W4, (wD.setCell ⟨b, m0.toNat, none⟩ (.int .i64 mx)).drew = W4 := ⟨_, rfl⟩
            rw [hW4] at P4 RT4 RX4
            (try rw [hW4])
            clear x0 x1 y0 g0 B' RTD RXD hmx
            have x0 := RX4.cell 0 _ rfl
            have x1 := RX4.cell 1 _ rfl
            have x2 := RX4.cell 2 _ rfl
            have x3 := RX4.cell 3 _ rfl
            have x4 := RX4.cell 4 _ rfl
            have x5 := RX4.cell 5 _ rfl
            have x6 := RX4.cell 6 _ rfl
            have x7 := RX4.cell 7 _ rfl
            have x8 := RX4.cell 8 _ rfl
            have r0 := RT4.cell 0 _ rfl
            have r1 := RT4.cell 1 _ rfl
            have r2 := RT4.cell 2 _ rfl
            have r3 := RT4.cell 3 _ rfl
            have r4 := RT4.cell 4 _ rfl
            have r5 := RT4.cell 5 _ rfl
            have r6 := RT4.cell 6 _ rfl
            have r7 := RT4.cell 7 _ rfl
            have r8 := RT4.cell 8 _ rfl
            have p0 := RT4.free 0 (by simp)
            have p1 := RT4.free 1 (by simp)
            have p2 := RT4.free 2 (by simp)
            have p3 := RT4.free 3 (by simp)
            have p4 := RT4.free 4 (by simp)
            have p5 := RT4.free 5 (by simp)
            have p6 := RT4.free 6 (by simp)
            have p7 := RT4.free 7 (by simp)
            have p8 := RT4.free 8 (by simp)
            have RZ := tx_set RT4 rfl m0 m1 m2 m3 m4 m5 m6 m7 (.slice ma mws.length mc)
            have FIN : WrIn (setTx W4 w.heap.size m0 m1 m2 m3 m4 m5 m6 m7 (.slice ma mws.length mc)) ma mc mws ∧ Left2 (sesP b (pastN m0.toNat mx (endS s))) (siteX bx (comS S now s.s0 s.s1 s.s2 s.s3 (allW s.ws)) (⟨⟨m0, m1, m2, m3, m4, m5, m6, m7, mws⟩, ma, mc⟩ : TxM).blk) w G Gx (⟨⟨m0, m1, m2, m3, m4, m5, m6, m7, mws⟩, ma, mc⟩ : TxM).blk (setTx W4 w.heap.size m0 m1 m2 m3 m4 m5 m6 m7 (.slice ma mws.length mc)) := by
              obtain ⟨wA, N, hA, hN, hNw, hPB, hWB, hnb, TC⟩ := PK.out
              obtain ⟨r1, r2⟩ := com_fin (p := sesP b (pastN m0.toNat mx (endS s))) (q := siteX bx (comS S now s.s0 s.s1 s.s2 s.s3 (allW s.ws)) (⟨⟨m0, m1, m2, m3, m4, m5, m6, m7, mws⟩, ma, mc⟩ : TxM).blk) (Y := (⟨⟨m0, m1, m2, m3, m4, m5, m6, m7, mws⟩, ma, mc⟩ : TxM).blk) HH.out.2.2.2.2.2.1 HH.out.2.2.2.2.2.2 HH.out.2.2.2.1 hA hN hPB (fun k hk => ⟨hnb k hk, WrIn.blk_lt (m := (⟨⟨m0, m1, m2, m3, m4, m5, m6, m7, mws⟩, ma, mc⟩ : TxM)) hWB k hk⟩) TC P4.left (touch_tx' (b := w.heap.size) (Touch.ofBelow (Below.refl _ W4)) hNw m0 m1 m2 m3 m4 m5 m6 m7 (.slice ma mws.length mc))
              exact ⟨WrIn.kept (m := (⟨⟨m0, m1, m2, m3, m4, m5, m6, m7, mws⟩, ma, mc⟩ : TxM)) hWB (fun k hk => r2 k hk), r1⟩
            clear RT4 RX4
            go_wp2_with (rw [hW4])
            refine bodyPost_ret (pscommit_results RZ rfl rfl) rfl ⟨(⟨⟨m0, m1, m2, m3, m4, m5, m6, m7, mws⟩, ma, mc⟩ : TxM), by rw [HCE.out.1]; rfl, HCE.out.2.symm, ⟨FIN.1, ?_⟩⟩
            rw [HY.out.2.2, HS2.out, HMX.out]
            exact FIN.2
        · have HE : Hid (scomSes S s now = s ∧ comS S now s.s0 s.s1 s.s2 s.s3 (allW s.ws) = S ∧ comT S now s.s0 s.s1 s.s2 s.s3 (allW s.ws) = tx0.t) := scom_bad HO.out HLN.out (by rw [hce]; exact hE)
          have HCE : Hid (scomE S s now = ce ∧ scomT S s now = tx0.t ∧ scomS S s now = S) := ⟨HY.out.1.trans hce, HY.out.2.1.trans HE.out.2.2, HY.out.2.2.trans HE.out.2.1⟩
          have RZ := tx_set RTC rfl 0 0 0 0 0 0 0 0 (.slice none 0 0)
          have FIN : Left2 (sesP b s) (siteP bx S) w G Gx NoY (setTx WC w.heap.size 0 0 0 0 0 0 0 0 (.slice none 0 0)) := by
            obtain ⟨wA, N, hA, hN, hNw, hPB, hWB, hnb, TC⟩ := PK.out
            rw [HE.out.2.1] at hPB
            exact left2_s (com_fin (p := sesP b s) (q := siteX bx S (⟨⟨m0, m1, m2, m3, m4, m5, m6, m7, mws⟩, ma, mc⟩ : TxM).blk) (Y := NoY) HH.out.2.2.2.2.2.1 HH.out.2.2.2.2.2.2 HH.out.2.2.2.1 hA hN hPB (fun k hk => hk.elim) TC (PSPo.same PSC (Below.refl _ _)).left (touch_tx' (b := w.heap.size) (Touch.ofBelow (Below.refl _ WC)) hNw 0 0 0 0 0 0 0 0 (.slice none 0 0))).1
          rw [show errV ce = .iface 26 (.int .i64 ce) by unfold errV; rw [if_neg hE]]
          clear hct hce
          have r0 := RTC.cell 0 _ rfl
          have r1 := RTC.cell 1 _ rfl
          have r2 := RTC.cell 2 _ rfl
          have r3 := RTC.cell 3 _ rfl
          have r4 := RTC.cell 4 _ rfl
          have r5 := RTC.cell 5 _ rfl
          have r6 := RTC.cell 6 _ rfl
          have r7 := RTC.cell 7 _ rfl
          have r8 := RTC.cell 8 _ rfl
          have p0 := RTC.free 0 (by simp)
          have p1 := RTC.free 1 (by simp)
          have p2 := RTC.free 2 (by simp)
          have p3 := RTC.free 3 (by simp)
          have p4 := RTC.free 4 (by simp)
          have p5 := RTC.free 5 (by simp)
          have p6 := RTC.free 6 (by simp)
          have p7 := RTC.free 7 (by simp)
          have p8 := RTC.free 8 (by simp)
          clear RTC RXC
          go_wp2_with (rw [hWC])
          refine bodyPost_ret (pscommit_results RZ rfl rfl) rfl ⟨tx0, by rw [HCE.out.1]; unfold errV; rw [if_neg hE]; rfl, HCE.out.2.1.symm, ⟨tx0_in _, left2_x (Z := NoY) ?_ tx0_blk⟩⟩
          rw [HE.out.1, HCE.out.2.2]
          exact FIN
end Go.Proofs.YtoanjdndmlffdaaGreatDoor
