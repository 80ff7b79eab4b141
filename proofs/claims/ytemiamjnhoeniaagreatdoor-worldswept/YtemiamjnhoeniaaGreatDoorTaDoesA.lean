/-
  A step of a tale: Begin, Read, Abort.
-/
import Derived.Test.YtemiamjnhoeniaaGreatDoorSiteK
namespace Go.Proofs.YtemiamjnhoeniaaGreatDoor
open Go.RowKit

set_option maxRecDepth 1000000 in
set_option maxHeartbeats 32000000 in
theorem doesA_any {b : Nat} {G : Nat → Prop} {base : Nat → V4} {Tg T : TaleS} {m : Nat} (w : World) (h : TA w b G T) (hI : TI base Tg T m) (hm : m < 120) (what ak an : Int) (ad : ByteArray) (ag sw : Bool) (hg : w.cell? ⟨0, 0, none⟩ = some (.iface 209 (.agg #[.pointer (some ⟨1, 25, none⟩)]))) (hw : what = 0 ∨ what = 1 ∨ what = 4) :
    Calls Tryz.prog 20 #[.pointer (some ⟨b, 0, none⟩), .agg #[.int .i64 what, .int .i64 ak, .int .i64 an, .string ad, .bool ag], .bool sw] w (DoesIs w b G T ⟨what, ak, an, ad, ag⟩ sw) := by
  have HW : Hid (what = 0 ∨ what = 1 ∨ what = 4) := hw
  have HW0 : Hid True := trivial
  clear hw
  have hne := Later.one
  obtain ⟨M, hT⟩ := h.start
  have RB := hT.box
  have hlb := RB.lt
  have hcn : T.W.c ≤ 6 := hI.wf.c6
  have hnn : T.W.n ≤ 4 := hI.wf.n4
  have hn1 : 1 ≤ T.W.n := hI.wf.n1
  have hc1 : 1 ≤ T.W.c := by rw [hI.sim.c]; exact hI.c1
  have hnet : T.W.net.length ≤ 300 := hI.wf.net
  have hkc := pickN_lt ak (n := T.W.c) hc1
  obtain ⟨kk, hkk⟩ : ∃ kk, pickN ak T.W.c = kk := ⟨_, rfl⟩
  have HKK : Hid (pickN ak T.W.c = kk ∧ kk < T.W.c ∧ kk < Tg.W.c) := ⟨hkk, by rw [← hkk]; exact hkc, by rw [← hI.sim.c, ← hkk]; exact hkc⟩
  have PK : Hid (∀ x : World, Calls Tryz.prog 64 #[.int .i64 ak, .int .i64 (T.W.c : Int)] x fun e w' => e = .returned (.int .i64 (kk : Int)) ∧ Below x.heap.size x w') := fun x => by
    have := pickN_any ak T.W.c hc1 (by omega) x
    rw [hkk] at this
    exact this.mono fun e w' ⟨h1, h2⟩ => ⟨h1, by rw [h2]; exact Below.refl _ _⟩
  have hb0 := boxed (Below.refl _ w) (.cells #[.int .i64 what, .int .i64 ak, .int .i64 an, .string ad, .bool ag] 74)
  have R0 : RowL (w.alloc (.cells #[.int .i64 what, .int .i64 ak, .int .i64 an, .string ad, .bool ag] 74)) w.heap.size [.int .i64 what, .int .i64 ak, .int .i64 an, .string ad, .bool ag] := RowL.new (w := w) (T := 74) [.int .i64 what, .int .i64 ak, .int .i64 an, .string ad, .bool ag] rfl
  have RB0 := RB.later hb0
  have t0 := Later.cell (RB0.cell 0 _ rfl)
  have t2 := Later.cell (RB0.cell 2 _ rfl)
  have a1 := Later.cell (R0.cell 1 _ rfl)
  have HI : Hid (TI base Tg T m ∧ m < 120 ∧ w.cell? ⟨0, 0, none⟩ = some (.iface 209 (.agg #[.pointer (some ⟨1, 25, none⟩)]))) := ⟨hI, hm, hg⟩
  have HN : Hid (T.W.c ≤ 6 ∧ T.W.n ≤ 4 ∧ 1 ≤ T.W.n ∧ 1 ≤ T.W.c ∧ T.W.net.length ≤ 300) := ⟨hcn, hnn, hn1, hc1, hnet⟩
  have HT : Hid (TaAt w G b M T NoY w) := hT
  have HR : Hid (RowL (w.alloc (.cells #[.int .i64 what, .int .i64 ak, .int .i64 an, .string ad, .bool ag] 74)) w.heap.size [.int .i64 what, .int .i64 ak, .int .i64 an, .string ad, .bool ag] ∧ Below w.heap.size w (w.alloc (.cells #[.int .i64 what, .int .i64 ak, .int .i64 an, .string ad, .bool ag] 74))) := ⟨R0, hb0⟩
  clear h hI hm hg hT RB RB0 R0 hb0 hcn hnn hn1 hc1 hnet hkc hkk
  go_enter Tryz.func20, Tryz.ntmps20
  go_wp2_with fail
  refine wp_region_later (by kernel_rfl) (by kernel_rfl) ?_
  repeat (go_big_quiet_step (first | rfl | (go_at_call 64; with_reducible exact calls_later (PK.out _))))
  refine wpQuiet_nil ?_
  rintro w2 ⟨⟨_, hb2⟩, rfl⟩
  have hb12 := behind HR.out.2 hb2
  have RA := HR.out.1.later hb2
  have H2 := HT.out.later hb12
  obtain ⟨Gw, PW2, _⟩ := H2.wo
  have MN := pw_many w2 PW2
  have HQ2 : Hid (RowL w2 w.heap.size [.int .i64 what, .int .i64 ak, .int .i64 an, .string ad, .bool ag] ∧ Below w.heap.size w w2 ∧ PW w2 M.wb Gw T.W ∧ TaAt w G b M T NoY w2) := ⟨RA, hb12, PW2, H2⟩
  have a2 := RA.cell 2 _ rfl
  clear t0 t2 a1 hb2 hb12 RA H2 PW2 HR PK
  go_wp2_with fail
  refine MN.mono ?_
  rintro e w3 ⟨rfl, hw3⟩
  have hw4 := hw3.symm
  clear hw3 MN
  subst hw4
  have CL := pw_client w2 HQ2.out.2.2.1 HKK.out.2.1
  obtain ⟨⟨p0, p1, p2, p3, opn, s0, s1, s2, s3, ws⟩, hses⟩ : ∃ s, T.W.ses kk = s := ⟨_, rfl⟩
  have HS : Hid (T.W.ses kk = ⟨p0, p1, p2, p3, opn, s0, s1, s2, s3, ws⟩) := hses
  rw [hses] at CL
  simp only at CL
  have HCL : Hid (Calls Tryz.prog 17 #[.pointer (some ⟨M.wb, 0, none⟩), .int .i64 (kk : Int)] w2 fun e w' => e = .returned (.tuple #[.int .i64 (T.W.at_ kk : Int), .agg #[.int .i64 p0, .int .i64 p1, .int .i64 p2, .int .i64 p3], .agg #[.int .i64 s0, .int .i64 s1, .int .i64 s2, .int .i64 s3], .bool opn, .nilIface]) ∧ Below w2.heap.size w2 w') := CL
  clear CL hses
  go_upto_if 47 with fail
  go_cut [9] from 47 to 51 (fun iv wc => iv = .int .i64 ((actI T ⟨what, ak, an, ad, ag⟩ : Nat) : Int) ∧ wc = w2)
  case first =>
    by_cases hl : 0 < (T.W.net.length : Int)
    · have PN := pickN_any an T.W.net.length (by omega) (by have := HN.out; omega) w2
      have ei : actI T ⟨what, ak, an, ad, ag⟩ = pickN an T.W.net.length := by unfold actI; rw [if_pos (by omega)]
      rw [← ei] at PN
      clear ei
      go_wp2_with fail
      refine PN.mono ?_
      rintro e w3 ⟨rfl, hw3⟩
      have hw4 := hw3.symm
      clear hw3 PN
      subst hw4
      go_wp2_with fail
      go_meet
      case rel => exact ⟨rfl, rfl⟩
    · have ei : actI T ⟨what, ak, an, ad, ag⟩ = 0 := by unfold actI; rw [if_neg (by omega)]
      have HEI : Hid (actI T ⟨what, ak, an, ad, ag⟩ = 0) := ei
      clear ei
      go_wp2_with fail
      go_meet
      case rel => exact ⟨by rw [HEI.out]; rfl, rfl⟩
  case rest =>
    obtain ⟨rfl, hwc⟩ := hcut
    have hwd := hwc.symm
    clear hwc
    subst hwd
    clear a2
    go_wp2_with fail
    refine HCL.out.mono ?_
    rintro e w3 ⟨rfl, hb3⟩
    have hb23 := behind HQ2.out.2.1 hb3
    have RA3 := HQ2.out.1.later hb3
    clear HCL
    obtain ⟨w4, hw4, hb4, RP, _, sz4⟩ := vecs2_is w3 p0 p1 p2 p3 s0 s1 s2 s3
    have hb24 := behind hb23 hb4
    have H4 : TaAt w G b M T (fun k => w.heap.size ≤ k ∧ k < w4.heap.size) w4 := (HT.out.more hb24).sub (fun k hk => .inr hk)
    have RA4 := RA3.later hb4
    have x0 := RA4.cell 0 _ rfl
    have HQ : Hid (TaAt w G b M T (fun k => w.heap.size ≤ k ∧ k < w4.heap.size) w4 ∧ RowL w4 w3.heap.size [.int .i64 p0, .int .i64 p1, .int .i64 p2, .int .i64 p3] ∧ RowL w4 w.heap.size [.int .i64 what, .int .i64 ak, .int .i64 an, .string ad, .bool ag] ∧ (w.heap.size ≤ w3.heap.size ∧ w3.heap.size < w4.heap.size) ∧ Below w.heap.size w w4) := ⟨H4, RP, RA4, ⟨hb23.size, RP.lt⟩, hb24⟩
    clear HQ2 hb3 hb23 RA3 hb4 RP sz4 hb24 H4 RA4
    go_upto_block 0 with fail
    clear x0 hw4
    go_cut [6, 9] from 65 to 266 (fun _ _ wc => DoneTo w G b M T ⟨what, ak, an, ad, ag⟩ sw w4 wc)
    case rest =>
      clear HT HN
      obtain ⟨M', T', HD', H5, hwb, K5⟩ := hcut.out
      have HD : Hid (DoesTo T ⟨what, ak, an, ad, ag⟩ sw T') := HD'
      have HT5 : Hid (TaAt w G b M' T' (fun k => w.heap.size ≤ k ∧ k < w4.heap.size) wc) := H5
      have RP5 := HQ.out.2.1.keeps K5 ⟨HQ.out.2.2.2.1.1, HQ.out.2.2.2.1.2⟩
      obtain ⟨Gz, PZ, _⟩ := H5.wo
      rw [hwb] at PZ
      have hkz : kk < T'.W.c := by rw [HD.out.many.2]; exact HKK.out.2.1
      have CZ := pw_client wc PZ hkz
      obtain ⟨⟨z0, z1, z2, z3, zo, y0, y1, y2, y3, zws⟩, hzs⟩ : ∃ s, T'.W.ses kk = s := ⟨_, rfl⟩
      rw [hzs] at CZ
      simp only at CZ
      have HCV : Hid (covB z0 z1 z2 z3 p0 p1 p2 p3 = true) := by
        have := (HD.out.past kk).cov
        rw [hzs, HS.out] at this
        exact this
      clear hzs H5 K5 PZ hkz HD' hcut hwb
      go_wp2_with fail
      refine CZ.mono ?_
      rintro e w6 ⟨rfl, hb6⟩
      have RP6 := RP5.later hb6
      have r0 := RP6.cell 0 _ rfl
      have r1 := RP6.cell 1 _ rfl
      have r2 := RP6.cell 2 _ rfl
      have r3 := RP6.cell 3 _ rfl
      have hr6 := RP6.lt
      clear CZ RP5
      go_wp2_with fail
      refine (covers_is HCV.out _).mono ?_
      rintro e w8 ⟨rfl, hb8⟩
      have hb68 := behind (behind hb6 (boxed (boxed (Below.refl _ w6) (.cells #[.int .i64 z0, .int .i64 z1, .int .i64 z2, .int .i64 z3] 47)) (.cells #[.int .i64 y0, .int .i64 y1, .int .i64 y2, .int .i64 y3] 47))) hb8
      clear r0 r1 r2 r3 hr6 RP6
      go_wp2_with fail
      go_ret
      exact ⟨rfl, T', HD.out, (HT5.out.later hb68).done⟩
    case first =>
      clear HW0
      rcases HW.out with rfl | rfl | rfl
      · have hmm := @run_makeMap Tryz.prog
        obtain ⟨be, hbe⟩ : ∃ be, begE (T.W.S (T.W.at_ kk)) (T.W.ses kk) = be := ⟨_, rfl⟩
        have HBE : Hid (begE (T.W.S (T.W.at_ kk)) (T.W.ses kk) = be) := hbe
        go_wp2_with fail
        obtain ⟨Gv, PV, step⟩ := HQ.out.1.wo
        have BG := pw_begin w4 PV HI.out.1.wf HKK.out.2.1
        rw [hbe] at BG
        clear hbe
        by_cases hb0 : be = 0
        · subst hb0
          rw [show errV 0 = .nilIface from rfl] at BG
          refine BG.mono ?_
          rintro e w5 ⟨rfl, hp5⟩
          obtain ⟨H5a, K5a⟩ := step _ _ hp5 rfl rfl
          obtain ⟨ob, oc, hov, hoc, hol, m0, _⟩ := H5a.maps (k := kk) HKK.out.2.1
          have RB5 := H5a.box
          have c4 := RB5.cell 4 _ rfl
          rw [hov] at c4
          rw [show (setW T (setSes T.W kk (begS (T.W.S (T.W.at_ kk)) (T.W.ses kk)))).W.c = T.W.c from rfl] at c4 hoc hov
          have lb5 := RB5.lt
          have fz := H5a.mapFree hov kk
          have q1 : (kk : Int) < (T.W.c : Int) := by have := HKK.out.2.1; omega
          obtain ⟨H5, K5b⟩ := H5a.fresh (k := kk) HKK.out.2.1 hov (boxed (Below.refl _ w5) (.map #[] 0)) (Nat.le_refl _) (WMap.made w5)
          obtain ⟨w6, hw6⟩ : ∃ w6, (w5.alloc (.map #[] 0)).setCell ⟨ob, kk, none⟩ (.map (some w5.heap.size)) = w6 := ⟨_, rfl⟩
          rw [hw6] at H5 K5b
          have HT6 : Hid (TaAt w G b { M with bm := setN M.bm kk w5.heap.size } (setOwn (setW T (setSes T.W kk (begS (T.W.S (T.W.at_ kk)) (T.W.ses kk)))) kk []) (fun k => w.heap.size ≤ k ∧ k < w4.heap.size) w6 ∧ Keeps (fun k => w.heap.size ≤ k ∧ k < w4.heap.size) w4 w6) := ⟨H5, K5a.trans K5b⟩
          obtain ⟨Gz, PZ, _⟩ := H5.wo
          have CZ := pw_client w6 PZ (i := kk) HKK.out.2.1
          obtain ⟨⟨z0, z1, z2, z3, zo, y0, y1, y2, y3, zws⟩, hzs⟩ : ∃ s, begS (T.W.S (T.W.at_ kk)) (T.W.ses kk) = s := ⟨_, rfl⟩
          have e6 : (setOwn (setW T (setSes T.W kk (begS (T.W.S (T.W.at_ kk)) (T.W.ses kk)))) kk []).W.ses kk = ⟨z0, z1, z2, z3, zo, y0, y1, y2, y3, zws⟩ := (setN_same _ _ _).trans hzs
          rw [e6] at CZ
          simp only at CZ
          have HCV : Hid (covB y0 y1 y2 y3 p0 p1 p2 p3 = true) := by
            have := beg_cov HBE.out
            rw [hzs, HS.out] at this
            exact this
          have RP6 := HQ.out.2.1.keeps (K5a.trans K5b) ⟨HQ.out.2.2.2.1.1, HQ.out.2.2.2.1.2⟩
          clear H5 K5a K5b H5a RB5 hov BG hp5 step PV PZ hzs e6
          go_wp2_with fail
          refine CZ.mono ?_
          rintro e w7 ⟨rfl, hb7⟩
          have RP7 := RP6.later hb7
          have r0 := RP7.cell 0 _ rfl
          have r1 := RP7.cell 1 _ rfl
          have r2 := RP7.cell 2 _ rfl
          have r3 := RP7.cell 3 _ rfl
          have hr7 := RP7.lt
          clear CZ RP6 c4 m0 fz hw6 lb5 hol hoc
          go_wp2_with fail
          refine (covers_is HCV.out _).mono ?_
          rintro e w8 ⟨rfl, hb8⟩
          have hb68 := behind (behind hb7 (boxed (boxed (Below.refl _ w7) (.cells #[.int .i64 z0, .int .i64 z1, .int .i64 z2, .int .i64 z3] 47)) (.cells #[.int .i64 y0, .int .i64 y1, .int .i64 y2, .int .i64 y3] 47))) hb8
          have H5 := HT6.out.1.later hb68
          have K5 := HT6.out.2.trans (Keeps.ofBelow (X := fun k => w.heap.size ≤ k ∧ k < w4.heap.size) hb68 (fun k hk => Nat.lt_of_lt_of_le hk.2 HT6.out.2.size))
          have FIN : DoneTo w G b M T ⟨0, ak, an, ad, ag⟩ sw w4 w8 := ⟨_, setOwn (setW T (setSes T.W kk (begS (T.W.S (T.W.at_ kk)) (T.W.ses kk)))) kk [], by
            have e : (setOwn (setW T (setSes T.W kk (begS (T.W.S (T.W.at_ kk)) (T.W.ses kk)))) kk []) = begT T (pickN ak T.W.c) := by rw [HKK.out.1]; unfold begT; rw [HBE.out, if_pos rfl]; rfl
            exact e, H5, rfl, K5⟩
          clear r0 r1 r2 r3 hr7 RP7 H5 K5 hb68 hb7 hb8
          go_wp2_with fail
          go_meet
          case rel => exact FIN
        · rw [errV_no hb0] at BG
          have HB0 : Hid (be ≠ 0) := hb0
          clear hb0
          refine BG.mono ?_
          rintro e w5 ⟨rfl, hp5⟩
          obtain ⟨H5, K5⟩ := step _ _ hp5 rfl rfl
          have FIN : DoneTo w G b M T ⟨0, ak, an, ad, ag⟩ sw w4 w5 := ⟨_, setW T (setSes T.W kk (begS (T.W.S (T.W.at_ kk)) (T.W.ses kk))), by
            have e : (setW T (setSes T.W kk (begS (T.W.S (T.W.at_ kk)) (T.W.ses kk)))) = begT T (pickN ak T.W.c) := by rw [HKK.out.1]; unfold begT; rw [HBE.out, if_neg HB0.out]; rfl
            exact e, H5, rfl, K5⟩
          clear hp5 step PV H5 K5 BG
          go_wp2_with fail
          go_meet
          case rel => exact FIN
      · have RAq := HQ.out.2.2.1
        have v2 := RAq.cell 2 _ rfl
        have PN := pickN_any an 8 (by decide) (by decide) w4
        have h8 := pickN_lt an (n := 8) (by decide)
        obtain ⟨key, hkey⟩ : ∃ q, pickN an 8 = q := ⟨_, rfl⟩
        rw [hkey] at PN h8
        clear hkey RAq
        go_wp2_with fail
        refine PN.mono ?_
        rintro e w5 ⟨rfl, hw5⟩
        have hw6 := hw5.symm
        clear hw5 PN v2
        subst hw6
        obtain ⟨G4, T4, sub4, t4⟩ := HQ.out.1.done
        have RD := tareads_any w4 T4 HI.out.1 HKK.out.2.1 h8 (cell_later HQ.out.2.2.2.2 HI.out.2.2)
        go_wp2_with fail
        refine RD.mono ?_
        rintro e w5 ⟨rfl, hb5⟩
        clear RD
        go_wp2_with fail
        go_ret
        have HD : DoesTo T ⟨1, ak, an, ad, ag⟩ sw T := by
          have e : T = T := rfl
          exact e
        exact ⟨rfl, T, HD, (HQ.out.1.later hb5).done⟩
      · go_wp2_with fail
        obtain ⟨Gv, PV, step⟩ := HQ.out.1.wo
        refine (pw_abort w4 PV HKK.out.2.1).mono ?_
        rintro e w5 ⟨rfl, hp5⟩
        obtain ⟨H5, K5⟩ := step _ _ hp5 rfl rfl
        have FIN : DoneTo w G b M T ⟨4, ak, an, ad, ag⟩ sw w4 w5 := ⟨_, setW T (setSes T.W kk (aboS (T.W.ses kk))), by
          have e : (setW T (setSes T.W kk (aboS (T.W.ses kk)))) = setW T (setSes T.W (pickN ak T.W.c) (aboS (T.W.ses (pickN ak T.W.c)))) := by rw [HKK.out.1]
          exact e, H5, rfl, K5⟩
        clear hp5 PV step H5 K5
        go_wp2_with fail
        go_meet
        case rel => exact FIN

end Go.Proofs.YtemiamjnhoeniaaGreatDoor

