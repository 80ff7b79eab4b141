import Derived.Test.YtoanjdndmlffdaaGreatDoorSiteI
import Derived.Test.YtoanjdndmlffdaaGreatDoorPSesCom
namespace Go.Proofs.YtoanjdndmlffdaaGreatDoor
open Go.RowKit
theorem wcommit_results {tmps : Array Value} {w : World} {b : Nat} {x0 x1 x2 x3 x4 x5 x6 x7 : Int} {ev : Value} {a : Option Addr} {n c : Nat} (h : RowL w b [.int .i64 x0, .int .i64 x1, .int .i64 x2, .int .i64 x3, .int .i64 x4, .int .i64 x5, .int .i64 x6, .int .i64 x7, .slice a n c]) (h2 : tmps[4]? = some (.pointer (some ⟨b, 0, none⟩))) (h3 : tmps[5]? = some ev) :
    (results Tryz.f103 tmps).run Tryz.prog w = .ok (.tuple #[.agg #[.int .i64 x0, .int .i64 x1, .int .i64 x2, .int .i64 x3, .int .i64 x4, .int .i64 x5, .int .i64 x6, .int .i64 x7, .slice a n c], ev]) w := by
  have z0 := h.cell 0 _ rfl
  have z1 := h.cell 1 _ rfl
  have z2 := h.cell 2 _ rfl
  have z3 := h.cell 3 _ rfl
  have z4 := h.cell 4 _ rfl
  have z5 := h.cell 5 _ rfl
  have z6 := h.cell 6 _ rfl
  have z7 := h.cell 7 _ rfl
  have z8 := h.cell 8 _ rfl
  simp [results, Tryz.results103, go_sem, h2, h3, z0, z1, z2, z3, z4, z5, z6, z7, z8]
set_option maxRecDepth 100000 in
set_option maxHeartbeats 8000000 in
theorem pw_commit {b : Nat} {G : Nat → Prop} {W : WoS} (w : World) (h : PW w b G W) (hw : WfW W) {i : Nat} (hi : i < W.c) (hok : 0 < (wcT W i).seq → okT (wcT W i) = true) :
    Calls Tryz.prog 103 #[.pointer (some ⟨b, 0, none⟩), .int .i64 i] w (WCommit w b G W i) := by
  obtain ⟨M, Gs, h, hG⟩ := h
  have ha := hw.at_ i hi
  have HH : Hid (PWo w b M W Gs ∧ (∀ k, G k ↔ allG b M (W.n + W.c) Gs k) ∧ i < W.c ∧ W.at_ i < W.n ∧ W.n ≤ 4 ∧ (0 < (wcT W i).seq → okT (wcT W i) = true)) := ⟨h, hG, hi, ha, hw.n4, hok⟩
  have hb0 := boxed (Below.refl _ w) (.cells #[.int .i64 0, .int .i64 0, .int .i64 0, .int .i64 0, .int .i64 0, .int .i64 0, .int .i64 0, .int .i64 0, .slice none 0 0] 102)
  have RT := RowL.new (w := w) (T := 102) [.int .i64 0, .int .i64 0, .int .i64 0, .int .i64 0, .int .i64 0, .int .i64 0, .int .i64 0, .int .i64 0, .slice none 0 0] rfl
  change RowL (w.alloc (.cells #[.int .i64 0, .int .i64 0, .int .i64 0, .int .i64 0, .int .i64 0, .int .i64 0, .int .i64 0, .int .i64 0, .slice none 0 0] 102)) w.heap.size [.int .i64 0, .int .i64 0, .int .i64 0, .int .i64 0, .int .i64 0, .int .i64 0, .int .i64 0, .int .i64 0, .slice none 0 0] at RT
  obtain ⟨cb, cc, c1, hcc, hcb, x0, x1⟩ := h.client hi
  obtain ⟨pb, pc, c0, hpc, hpb, y0, y1⟩ := h.place ha
  have hlt := h.box.lt
  have IC := isClient_is (k := i) (v := true) _ (cell_later hb0 c1) (by simp; omega)
  have BG : Hid (∀ w' : World, Below w.heap.size w w' → Calls Tryz.prog 150 #[.pointer (some ⟨M.bs i, 0, none⟩), .pointer (some ⟨M.bp (W.at_ i), 0, none⟩), .int .i64 (W.wall (W.at_ i))] w' fun e wB => ∃ (m0 m1 m2 m3 m4 m5 m6 m7 : Int) (mws : List Wr) (ma : Option Addr) (mc : Nat), e = .returned (.tuple #[.agg #[.int .i64 m0, .int .i64 m1, .int .i64 m2, .int .i64 m3, .int .i64 m4, .int .i64 m5, .int .i64 m6, .int .i64 m7, .slice ma mws.length mc], errV (wcE W i)]) ∧ Hid (⟨m0, m1, m2, m3, m4, m5, m6, m7, mws⟩ = wcT W i ∧ WrIn wB ma mc mws ∧ Below w.heap.size w w' ∧ Left2 (sesP (M.bs i) (scomSes (W.S (W.at_ i)) (W.ses i) (W.wall (W.at_ i)))) (siteX (M.bp (W.at_ i)) (scomS (W.S (W.at_ i)) (W.ses i) (W.wall (W.at_ i))) (⟨⟨m0, m1, m2, m3, m4, m5, m6, m7, mws⟩, ma, mc⟩ : TxM).blk) w' (Gs (W.n + i)) (Gs (W.at_ i)) (⟨⟨m0, m1, m2, m3, m4, m5, m6, m7, mws⟩, ma, mc⟩ : TxM).blk wB) ∧ (∀ k, w.heap.size ≤ k → k < w'.heap.size → wB.heap[k]? = w'.heap[k]?) ∧ w'.heap.size ≤ wB.heap.size) := fun w' hb => by
    refine (pscommit_apart (W.wall (W.at_ i)) w' ((h.sess hi).later hb) ((h.site ha).later hb) (hw.inv _ ha) (fun k h1 h2 => h.fam.apart _ _ k (by omega) (by omega) (by omega) h1 h2)).mono ?_
    rintro e wB ⟨⟨⟨m0, m1, m2, m3, m4, m5, m6, m7, mws⟩, ma, mc⟩, rfl, hm, hh⟩
    have h2 := hh.out.2
    obtain ⟨_, _, _, _, _, _, _, _, tt⟩ := h2
    exact ⟨m0, m1, m2, m3, m4, m5, m6, m7, mws, ma, mc, rfl, ⟨hm, hh.out.1, hb, hh.out.2⟩, fun k h1 h2 => tt.block k h2 (fun e => by
      rcases e with e | e
      · have : k < w.heap.size := h.ltG (by omega) e
        omega
      · have : k < w.heap.size := h.ltG (by omega) e
        omega), tt.size⟩
  have q1 : (i : Int) < (W.c : Int) := by omega
  have q2 : (W.at_ i : Int) < (W.n : Int) := by omega
  have hbc := boxed hb0 (.cells #[.pointer (some ⟨M.bs i, 0, none⟩), .int .i64 (W.at_ i)] 171)
  have RC := RowL.new (w := w.alloc (.cells #[.int .i64 0, .int .i64 0, .int .i64 0, .int .i64 0, .int .i64 0, .int .i64 0, .int .i64 0, .int .i64 0, .slice none 0 0] 102)) (T := 171) (n := w.heap.size + 1) [.pointer (some ⟨M.bs i, 0, none⟩), .int .i64 (W.at_ i)] (by simp)
  have RT1 := RT.boxed (.cells #[.pointer (some ⟨M.bs i, 0, none⟩), .int .i64 (W.at_ i)] 171)
  obtain ⟨w1, hw1⟩ : ∃ w1, (w.alloc (.cells #[.int .i64 0, .int .i64 0, .int .i64 0, .int .i64 0, .int .i64 0, .int .i64 0, .int .i64 0, .int .i64 0, .slice none 0 0] 102)).alloc (.cells #[.pointer (some ⟨M.bs i, 0, none⟩), .int .i64 (W.at_ i)] 171) = w1 := ⟨_, rfl⟩
  have sz1 : w1.heap.size = w.heap.size + 2 := by rw [← hw1]; simp
  have RC1 : RowL w1 (w.heap.size + 1) [.pointer (some ⟨M.bs i, 0, none⟩), .int .i64 (W.at_ i)] := by rw [← hw1]; exact RC
  have HR : Hid (RowL w1 w.heap.size [.int .i64 0, .int .i64 0, .int .i64 0, .int .i64 0, .int .i64 0, .int .i64 0, .int .i64 0, .int .i64 0, .slice none 0 0] ∧ Below w.heap.size w w1 ∧ w1.heap.size = w.heap.size + 2) := by
    rw [hw1] at RT1 hbc
    exact ⟨RT1, hbc, sz1⟩
  have d0 := cell_later HR.out.2.1 c0
  have e0 := cell_later HR.out.2.1 y0
  have e1 := cell_later HR.out.2.1 y1
  have f0 := RC1.cell 0 _ rfl
  have f1 := RC1.cell 1 _ rfl
  have hlt1 : b < w1.heap.size := by omega
  have hpb1 : pb < w1.heap.size := by omega
  have hc1 : w.heap.size + 1 < w1.heap.size := by omega
  clear RT RC RT1 sz1 RC1 hbc
  clear h hG hw hok
  go_enter Tryz.func103, Tryz.ntmps103
  go_wp2_with fail
  refine IC.mono ?_
  rintro e w2 ⟨rfl, hw2⟩
  have hw3 := hw2.symm
  clear hw2 IC
  subst hw3
  go_wp2_with fail
  try rw [hw1]
  clear hw1 c0 c1 x0 x1 y0 y1 hcb hpb hlt hb0
  go_region
  have hbp := (boxed (Below.refl _ w1) (.cells #[.pointer (some ⟨M.bp (W.at_ i), 0, none⟩), .int .i64 (W.wall (W.at_ i))] 167)).drew
  have RP := (RowL.new (w := w1) (T := 167) [.pointer (some ⟨M.bp (W.at_ i), 0, none⟩), .int .i64 (W.wall (W.at_ i))] rfl).drew
  change RowL (w1.alloc (.cells #[.pointer (some ⟨M.bp (W.at_ i), 0, none⟩), .int .i64 (W.wall (W.at_ i))] 167)).drew w1.heap.size [.pointer (some ⟨M.bp (W.at_ i), 0, none⟩), .int .i64 (W.wall (W.at_ i))] at RP
  have g0 := RP.cell 0 _ rfl
  have g1 := RP.cell 1 _ rfl
  have f0 := cell_later hbp f0
  have f1 := cell_later hbp f1
  have hb2 := behind HR.out.2.1 hbp
  have RT2 := HR.out.1.later hbp
  have CM := BG.out _ hb2
  clear BG RP
  go_wp2_with fail
  refine CM.mono ?_
  rintro e wB ⟨m0, m1, m2, m3, m4, m5, m6, m7, mws, ma, mc, rfl, hh, hkB, hsB⟩
  have HRB : Hid (RowL wB w.heap.size [.int .i64 0, .int .i64 0, .int .i64 0, .int .i64 0, .int .i64 0, .int .i64 0, .int .i64 0, .int .i64 0, .slice none 0 0]) := RT2.kept (hkB _ (Nat.le_refl _) RT2.lt) hsB
  have HM : Hid (⟨m0, m1, m2, m3, m4, m5, m6, m7, mws⟩ = wcT W i) := hh.out.1
  have HX : Hid (∃ w', w.heap.size < w'.heap.size ∧ WrIn wB ma mc mws ∧ Below w.heap.size w w' ∧ Left2 (sesP (M.bs i) (scomSes (W.S (W.at_ i)) (W.ses i) (W.wall (W.at_ i)))) (siteX (M.bp (W.at_ i)) (scomS (W.S (W.at_ i)) (W.ses i) (W.wall (W.at_ i))) (⟨⟨m0, m1, m2, m3, m4, m5, m6, m7, mws⟩, ma, mc⟩ : TxM).blk) w' (Gs (W.n + i)) (Gs (W.at_ i)) (⟨⟨m0, m1, m2, m3, m4, m5, m6, m7, mws⟩, ma, mc⟩ : TxM).blk wB) := ⟨_, RT2.lt, hh.out.2⟩
  clear CM hh hkB hsB RT2 hb2 hbp f0 f1 g0 g1 d0 e0 e1 HR hlt1 hpb1 hc1
  obtain ⟨ce, hce⟩ : ∃ ce, wcE W i = ce := ⟨_, rfl⟩
  rw [hce]
  have hbC := boxed (Below.refl _ wB) (.cells #[.int .i64 m0, .int .i64 m1, .int .i64 m2, .int .i64 m3, .int .i64 m4, .int .i64 m5, .int .i64 m6, .int .i64 m7, .slice ma mws.length mc] 102)
  have RXC := RowL.new (w := wB) (T := 102) [.int .i64 m0, .int .i64 m1, .int .i64 m2, .int .i64 m3, .int .i64 m4, .int .i64 m5, .int .i64 m6, .int .i64 m7, .slice ma mws.length mc] rfl
  change RowL (wB.alloc (.cells #[.int .i64 m0, .int .i64 m1, .int .i64 m2, .int .i64 m3, .int .i64 m4, .int .i64 m5, .int .i64 m6, .int .i64 m7, .slice ma mws.length mc] 102)) wB.heap.size [.int .i64 m0, .int .i64 m1, .int .i64 m2, .int .i64 m3, .int .i64 m4, .int .i64 m5, .int .i64 m6, .int .i64 m7, .slice ma mws.length mc] at RXC
  have RTC := HRB.out.later hbC
  have htl : w.heap.size < wB.heap.size := HRB.out.lt
  obtain ⟨WC, hWC⟩ : ∃ WC, wB.alloc (.cells #[.int .i64 m0, .int .i64 m1, .int .i64 m2, .int .i64 m3, .int .i64 m4, .int .i64 m5, .int .i64 m6, .int .i64 m7, .slice ma mws.length mc] 102) = WC := ⟨_, rfl⟩
  have HWX : Hid (∃ B Gs', w.heap.size < B ∧ B ≤ WC.heap.size ∧ PWo WC b M (wcW0 W i) Gs' ∧ (∀ m k, Gs' m k → Gs m k ∨ B ≤ k) ∧ Touch (fun k => Gs (W.n + i) k ∨ Gs (W.at_ i) k) w WC ∧ (∀ m k, m < W.n + W.c → (⟨⟨m0, m1, m2, m3, m4, m5, m6, m7, mws⟩, ma, mc⟩ : TxM).blk k → B ≤ k ∧ k < wB.heap.size ∧ ¬ Gs' m k) ∧ WrIn WC ma mc mws ∧ wB.heap.size < WC.heap.size) := by
    obtain ⟨w', hlw, hwi, hbw, hl2⟩ := HX.out
    have hl3 := hl2
    obtain ⟨_, _, _, _, _, _, _, _, tt⟩ := hl3
    have ts := tt.size
    have hs4 : wB.heap.size < WC.heap.size := by rw [← hWC]; simp
    rw [hWC] at hbC
    obtain ⟨Gs', r1, r2, r3, r4⟩ := HH.out.1.com HH.out.2.2.1 HH.out.2.2.2.1 hbw hl2 hbC
    exact ⟨w'.heap.size, Gs', hlw, by omega, r1, r2, r3, r4, hwi.later hbC, hs4⟩
  rw [hWC] at RXC RTC
  clear hbC HX HRB
  by_cases hE : ce = 0
  · subst hE
    rw [show errV 0 = .nilIface from rfl]
    have x0 := RXC.cell 0 _ rfl
    have x1 := RXC.cell 1 _ rfl
    have x2 := RXC.cell 2 _ rfl
    have x3 := RXC.cell 3 _ rfl
    have x4 := RXC.cell 4 _ rfl
    have x5 := RXC.cell 5 _ rfl
    have x6 := RXC.cell 6 _ rfl
    have x7 := RXC.cell 7 _ rfl
    have x8 := RXC.cell 8 _ rfl
    by_cases hsq : 0 < m1
    · have HT : Hid (∀ Gs', PWo WC b M (wcW0 W i) Gs' → (∀ k, (⟨⟨m0, m1, m2, m3, m4, m5, m6, m7, mws⟩, ma, mc⟩ : TxM).blk k → w.heap.size ≤ k) → WrIn WC ma mc mws → Calls Tryz.prog 151 #[.pointer (some ⟨b, 0, none⟩), .agg #[.int .i64 m0, .int .i64 m1, .int .i64 m2, .int .i64 m3, .int .i64 m4, .int .i64 m5, .int .i64 m6, .int .i64 m7, .slice ma mws.length mc]] WC fun e w' => e = .returned (.tuple #[]) ∧ Sent WC b M Gs' (fun k => WC.heap.size ≤ k) (tellW ⟨m0, m1, m2, m3, m4, m5, m6, m7, mws⟩ W.n (wcW0 W i)) w') := fun Gs' h1 h3 h4 =>
        pwo_tell m0 m1 m2 m3 m4 m5 m6 m7 mws ma mc WC h1 HH.out.2.2.2.2.1 h4 (fun k off e1 e2 => by
          have := h3 k ⟨e1, off, e2⟩
          refine ⟨fun e => ?_, fun e => ?_⟩
          · have : k < w.heap.size := HH.out.1.ltF k (.inl e)
            omega
          · have : k < w.heap.size := HH.out.1.ltF k (.inr (.inr (.inr (.inl e))))
            omega) (by
          have := HH.out.2.2.2.2.2
          rw [← HM.out] at this
          exact this hsq)
      obtain ⟨B, Gs', rB, rC, r1, r2, r3, r4, r5, r6⟩ := HWX.out
      have TL := HT.out Gs' r1 (fun k hk => by have := (r4 (W.at_ i) k (by omega) hk).1; omega) r5
      have HF : Hid (∀ wD, Sent WC b M Gs' (fun k => WC.heap.size ≤ k) (tellW ⟨m0, m1, m2, m3, m4, m5, m6, m7, mws⟩ W.n (wcW0 W i)) wD → ∃ G', PW wD b G' (wcW W i) ∧ (∀ k, G' k → G k ∨ B ≤ k) ∧ Touch G w wD ∧ ∀ k, (⟨⟨m0, m1, m2, m3, m4, m5, m6, m7, mws⟩, ma, mc⟩ : TxM).blk k → B ≤ k ∧ ¬ G' k) := fun wD hs => by
        have e : wcW W i = tellW ⟨m0, m1, m2, m3, m4, m5, m6, m7, mws⟩ W.n (wcW0 W i) := by
          unfold wcW
          rw [← HM.out, if_pos hsq]
        rw [e]
        have sm := tellW_same ⟨m0, m1, m2, m3, m4, m5, m6, m7, mws⟩ W.n (wcW0 W i)
        exact HH.out.1.told HH.out.2.1 HH.out.2.2.1 HH.out.2.2.2.1 sm.n sm.c (by omega) rC r2 r3 (fun m k hm hk => ⟨(r4 m k hm hk).1, by have := (r4 m k hm hk).2.1; omega, (r4 m k hm hk).2.2⟩) hs
      have HY : Hid (WrIn WC ma mc mws ∧ (∀ k, (⟨⟨m0, m1, m2, m3, m4, m5, m6, m7, mws⟩, ma, mc⟩ : TxM).blk k → w.heap.size ≤ k ∧ k < wB.heap.size) ∧ wB.heap.size < WC.heap.size) := ⟨r5, fun k hk => ⟨by have := (r4 (W.at_ i) k (by omega) hk).1; omega, (r4 (W.at_ i) k (by omega) hk).2.1⟩, r6⟩
      have HNO : Hid (∀ k, w.heap.size ≤ k → k ≠ b ∧ M.nv.ownBlock ≠ some k) := fun k hk => ⟨fun e => by have : k < w.heap.size := HH.out.1.ltF k (.inl e); omega, fun e => by have : k < w.heap.size := HH.out.1.ltF k (.inr (.inr (.inr (.inl e)))); omega⟩
      have HBB : Hid (w.heap.size < B ∧ ∀ k, G k → k < w.heap.size) := ⟨rB, PW.lt ⟨M, Gs, HH.out.1, HH.out.2.1⟩⟩
      clear HT r1 r2 r3 r4 r5 r6 HWX rB rC
      go_wp2_with (rw [hWC])
      refine TL.mono ?_
      rintro e wD ⟨rfl, hS⟩
      have XD := RXC.kept (hS.block (by have := HY.out.2.2; omega) (HNO.out _ (by omega)).1 (HNO.out _ (by omega)).2) hS.size
      have TD := RTC.kept (hS.block (by have := HY.out.2.2; omega) (HNO.out _ (Nat.le_refl _)).1 (HNO.out _ (Nat.le_refl _)).2) hS.size
      have FIN := HF.out wD hS
      have WD : WrIn wD ma mc mws := WrIn.kept (m := (⟨⟨m0, m1, m2, m3, m4, m5, m6, m7, mws⟩, ma, mc⟩ : TxM)) HY.out.1 (fun k hk => hS.block (by have := HY.out.2.1 k hk; have := HY.out.2.2; omega) (HNO.out k (HY.out.2.1 k hk).1).1 (HNO.out k (HY.out.2.1 k hk).1).2)
      have HFN : Hid (WrIn wD ma mc mws ∧ ∃ G', PW wD b G' (wcW W i) ∧ (∀ k, G' k → G k ∨ B ≤ k) ∧ Touch G w wD ∧ ∀ k, (⟨⟨m0, m1, m2, m3, m4, m5, m6, m7, mws⟩, ma, mc⟩ : TxM).blk k → B ≤ k ∧ ¬ G' k) := ⟨WD, FIN⟩
      clear x0 x1 x2 x3 x4 x5 x6 x7 x8 TL HF hS FIN WD RXC RTC
      have x0 := XD.cell 0 _ rfl
      have x1 := XD.cell 1 _ rfl
      have x2 := XD.cell 2 _ rfl
      have x3 := XD.cell 3 _ rfl
      have x4 := XD.cell 4 _ rfl
      have x5 := XD.cell 5 _ rfl
      have x6 := XD.cell 6 _ rfl
      have x7 := XD.cell 7 _ rfl
      have x8 := XD.cell 8 _ rfl
      have r0 := TD.cell 0 _ rfl
      have r1 := TD.cell 1 _ rfl
      have r2 := TD.cell 2 _ rfl
      have r3 := TD.cell 3 _ rfl
      have r4 := TD.cell 4 _ rfl
      have r5 := TD.cell 5 _ rfl
      have r6 := TD.cell 6 _ rfl
      have r7 := TD.cell 7 _ rfl
      have r8 := TD.cell 8 _ rfl
      have p0 := TD.free 0 (by simp)
      have p1 := TD.free 1 (by simp)
      have p2 := TD.free 2 (by simp)
      have p3 := TD.free 3 (by simp)
      have p4 := TD.free 4 (by simp)
      have p5 := TD.free 5 (by simp)
      have p6 := TD.free 6 (by simp)
      have p7 := TD.free 7 (by simp)
      have p8 := TD.free 8 (by simp)
      have RZ := tx_set TD rfl m0 m1 m2 m3 m4 m5 m6 m7 (.slice ma mws.length mc)
      have END := wc_end (m := (⟨⟨m0, m1, m2, m3, m4, m5, m6, m7, mws⟩, ma, mc⟩ : TxM)) HFN.out HBB.out.2 HBB.out.1 m0 m1 m2 m3 m4 m5 m6 m7 (.slice ma mws.length mc)
      clear HFN XD TD
      go_wp2_with fail
      exact bodyPost_ret (wcommit_results RZ rfl rfl) rfl ⟨(⟨⟨m0, m1, m2, m3, m4, m5, m6, m7, mws⟩, ma, mc⟩ : TxM), by rw [hce]; rfl, HM.out, END⟩
    · have HFN : Hid (∃ B, w.heap.size < B ∧ (∀ k, G k → k < w.heap.size) ∧ WrIn WC ma mc mws ∧ ∃ G', PW WC b G' (wcW W i) ∧ (∀ k, G' k → G k ∨ B ≤ k) ∧ Touch G w WC ∧ ∀ k, (⟨⟨m0, m1, m2, m3, m4, m5, m6, m7, mws⟩, ma, mc⟩ : TxM).blk k → B ≤ k ∧ ¬ G' k) := by
        obtain ⟨B, Gs', rB, rC, r1, r2, r3, r4, r5, r6⟩ := HWX.out
        have e : wcW W i = wcW0 W i := by
          unfold wcW
          rw [← HM.out, if_neg hsq]
        rw [e]
        exact ⟨B, rB, PW.lt ⟨M, Gs, HH.out.1, HH.out.2.1⟩, r5, HH.out.1.told (W1 := wcW0 W i) HH.out.2.1 HH.out.2.2.1 HH.out.2.2.2.1 rfl rfl (by omega) rC r2 r3 (fun m k hm hk => ⟨(r4 m k hm hk).1, by have := (r4 m k hm hk).2.1; omega, (r4 m k hm hk).2.2⟩) (Sent.none r1 (Below.refl _ _) _)⟩
      have r0 := RTC.cell 0 _ rfl
      have r1 := RTC.cell 1 _ rfl
      have r2 := RTC.cell 2 _ rfl
      have r3 := RTC.cell 3 _ rfl
      have r4 := RTC.cell 4 _ rfl
      have r5 := RTC.cell 5 _ rfl
      have r6 := RTC.cell 6 _ rfl
      have r7 := RTC.cell 7 _ rfl
      have r8 := RTC.cell 8 _ rfl
      have p0 := RTC.free 0 (by simp)
      have p1 := RTC.free 1 (by simp)
      have p2 := RTC.free 2 (by simp)
      have p3 := RTC.free 3 (by simp)
      have p4 := RTC.free 4 (by simp)
      have p5 := RTC.free 5 (by simp)
      have p6 := RTC.free 6 (by simp)
      have p7 := RTC.free 7 (by simp)
      have p8 := RTC.free 8 (by simp)
      have RZ := tx_set RTC rfl m0 m1 m2 m3 m4 m5 m6 m7 (.slice ma mws.length mc)
      obtain ⟨B, hB, hGl, hF⟩ := HFN.out
      have END := wc_end (m := (⟨⟨m0, m1, m2, m3, m4, m5, m6, m7, mws⟩, ma, mc⟩ : TxM)) hF hGl hB m0 m1 m2 m3 m4 m5 m6 m7 (.slice ma mws.length mc)
      clear HFN HWX RXC RTC hF hGl
      go_wp2_with (rw [hWC])
      exact bodyPost_ret (wcommit_results RZ rfl rfl) rfl ⟨(⟨⟨m0, m1, m2, m3, m4, m5, m6, m7, mws⟩, ma, mc⟩ : TxM), by rw [hce]; rfl, HM.out, END⟩
  · have HFN : Hid (∃ B, w.heap.size < B ∧ (∀ k, G k → k < w.heap.size) ∧ wcT W i = tx0.t ∧ WrIn WC tx0.wa tx0.wc tx0.t.ws ∧ ∃ G', PW WC b G' (wcW W i) ∧ (∀ k, G' k → G k ∨ B ≤ k) ∧ Touch G w WC ∧ ∀ k, tx0.blk k → B ≤ k ∧ ¬ G' k) := by
      obtain ⟨B, Gs', rB, rC, r1, r2, r3, r4, r5, r6⟩ := HWX.out
      have e0 : wcT W i = tx0.t := (scom_err (by have := hce; unfold wcE at this; rw [this]; exact hE)).1
      have e : wcW W i = wcW0 W i := by
        unfold wcW
        rw [e0, if_neg (by decide)]
      rw [e]
      exact ⟨B, rB, PW.lt ⟨M, Gs, HH.out.1, HH.out.2.1⟩, e0, tx0_in _, HH.out.1.told (W1 := wcW0 W i) (Y := tx0.blk) HH.out.2.1 HH.out.2.2.1 HH.out.2.2.2.1 rfl rfl (by omega) rC r2 r3 (fun m k hm hk => absurd hk (tx0_blk k)) (Sent.none r1 (Below.refl _ _) _)⟩
    rw [show errV ce = .iface 26 (.int .i64 ce) by unfold errV; rw [if_neg hE]]
    have r0 := RTC.cell 0 _ rfl
    have r1 := RTC.cell 1 _ rfl
    have r2 := RTC.cell 2 _ rfl
    have r3 := RTC.cell 3 _ rfl
    have r4 := RTC.cell 4 _ rfl
    have r5 := RTC.cell 5 _ rfl
    have r6 := RTC.cell 6 _ rfl
    have r7 := RTC.cell 7 _ rfl
    have r8 := RTC.cell 8 _ rfl
    have p0 := RTC.free 0 (by simp)
    have p1 := RTC.free 1 (by simp)
    have p2 := RTC.free 2 (by simp)
    have p3 := RTC.free 3 (by simp)
    have p4 := RTC.free 4 (by simp)
    have p5 := RTC.free 5 (by simp)
    have p6 := RTC.free 6 (by simp)
    have p7 := RTC.free 7 (by simp)
    have p8 := RTC.free 8 (by simp)
    have RZ := tx_set RTC rfl 0 0 0 0 0 0 0 0 (.slice none 0 0)
    obtain ⟨B, hB, hGl, e0, hF⟩ := HFN.out
    have END := wc_end (m := tx0) hF hGl hB 0 0 0 0 0 0 0 0 (.slice none 0 0)
    clear HFN HWX RXC RTC hF hGl
    go_wp2_with (rw [hWC])
    exact bodyPost_ret (wcommit_results RZ rfl rfl) rfl ⟨tx0, by rw [hce]; unfold errV; rw [if_neg hE]; rfl, e0.symm, END⟩
end Go.Proofs.YtoanjdndmlffdaaGreatDoor
