/-
  A step of a tale: Write, Commit.
-/
import Derived.Test.YtemiamjnhoeniaaGreatDoorSiteK
import Derived.Deep.RegionHeld3
import Derived.Test.YtemiamjnhoeniaaGreatDoorWoQ
import Derived.Test.YtemiamjnhoeniaaGreatDoorSiteB
import Derived.Maps.AppendAt
namespace Go.Proofs.YtemiamjnhoeniaaGreatDoor
open Go.RowKit

set_option maxRecDepth 1000000 in
set_option maxHeartbeats 32000000 in
theorem doesB_any {b : Nat} {G : Nat → Prop} {base : Nat → V4} {Tg T : TaleS} {m : Nat} (w : World) (h : TA w b G T) (hI : TI base Tg T m) (hm : m < 120) (what ak an : Int) (ad : ByteArray) (ag sw : Bool) (hg : w.cell? ⟨0, 0, none⟩ = some (.iface 209 (.agg #[.pointer (some ⟨1, 25, none⟩)]))) (hw : what = 2 ∨ what = 3) :
    Calls Tryz.prog 20 #[.pointer (some ⟨b, 0, none⟩), .agg #[.int .i64 what, .int .i64 ak, .int .i64 an, .string ad, .bool ag], .bool sw] w (DoesIs w b G T ⟨what, ak, an, ad, ag⟩ sw) := by
  have HW : Hid (what = 2 ∨ what = 3) := hw
  have HW0 : Hid True := trivial
  clear hw
  have hne := Later.one
  obtain ⟨M, hT⟩ := h.start
  have RB := hT.box
  have hlb := RB.lt
  have hcn : T.W.c ≤ 6 := hI.wf.c6
  have hnn : T.W.n ≤ 4 := hI.wf.n4
  have hn1 : 1 ≤ T.W.n := hI.wf.n1
  have hc1 : 1 ≤ T.W.c := by rw [hI.sim.c]; exact hI.c1
  have hnet : T.W.net.length ≤ 300 := hI.wf.net
  have hkc := pickN_lt ak (n := T.W.c) hc1
  obtain ⟨kk, hkk⟩ : ∃ kk, pickN ak T.W.c = kk := ⟨_, rfl⟩
  have HKK : Hid (pickN ak T.W.c = kk ∧ kk < T.W.c ∧ kk < Tg.W.c) := ⟨hkk, by rw [← hkk]; exact hkc, by rw [← hI.sim.c, ← hkk]; exact hkc⟩
  have PK : Hid (∀ x : World, Calls Tryz.prog 64 #[.int .i64 ak, .int .i64 (T.W.c : Int)] x fun e w' => e = .returned (.int .i64 (kk : Int)) ∧ Below x.heap.size x w') := fun x => by
    have := pickN_any ak T.W.c hc1 (by omega) x
    rw [hkk] at this
    exact this.mono fun e w' ⟨h1, h2⟩ => ⟨h1, by rw [h2]; exact Below.refl _ _⟩
  have hb0 := boxed (Below.refl _ w) (.cells #[.int .i64 what, .int .i64 ak, .int .i64 an, .string ad, .bool ag] 74)
  have R0 : RowL (w.alloc (.cells #[.int .i64 what, .int .i64 ak, .int .i64 an, .string ad, .bool ag] 74)) w.heap.size [.int .i64 what, .int .i64 ak, .int .i64 an, .string ad, .bool ag] := RowL.new (w := w) (T := 74) [.int .i64 what, .int .i64 ak, .int .i64 an, .string ad, .bool ag] rfl
  have RB0 := RB.later hb0
  have t0 := Later.cell (RB0.cell 0 _ rfl)
  have t2 := Later.cell (RB0.cell 2 _ rfl)
  have a1 := Later.cell (R0.cell 1 _ rfl)
  have HI : Hid (TI base Tg T m ∧ m < 120 ∧ w.cell? ⟨0, 0, none⟩ = some (.iface 209 (.agg #[.pointer (some ⟨1, 25, none⟩)]))) := ⟨hI, hm, hg⟩
  have HN : Hid (T.W.c ≤ 6 ∧ T.W.n ≤ 4 ∧ 1 ≤ T.W.n ∧ 1 ≤ T.W.c ∧ T.W.net.length ≤ 300) := ⟨hcn, hnn, hn1, hc1, hnet⟩
  have HT : Hid (TaAt w G b M T NoY w) := hT
  have HR : Hid (RowL (w.alloc (.cells #[.int .i64 what, .int .i64 ak, .int .i64 an, .string ad, .bool ag] 74)) w.heap.size [.int .i64 what, .int .i64 ak, .int .i64 an, .string ad, .bool ag] ∧ Below w.heap.size w (w.alloc (.cells #[.int .i64 what, .int .i64 ak, .int .i64 an, .string ad, .bool ag] 74))) := ⟨R0, hb0⟩
  clear h hI hm hg hT RB RB0 R0 hb0 hcn hnn hn1 hc1 hnet hkc hkk
  go_enter Tryz.func20, Tryz.ntmps20
  go_wp2_with fail
  refine wp_region_later (by kernel_rfl) (by kernel_rfl) ?_
  repeat (go_big_quiet_step (first | rfl | (go_at_call 64; with_reducible exact calls_later (PK.out _))))
  refine wpQuiet_nil ?_
  rintro w2 ⟨⟨_, hb2⟩, rfl⟩
  have hb12 := behind HR.out.2 hb2
  have RA := HR.out.1.later hb2
  have H2 := HT.out.later hb12
  obtain ⟨Gw, PW2, _⟩ := H2.wo
  have MN := pw_many w2 PW2
  have HQ2 : Hid (RowL w2 w.heap.size [.int .i64 what, .int .i64 ak, .int .i64 an, .string ad, .bool ag] ∧ Below w.heap.size w w2 ∧ PW w2 M.wb Gw T.W ∧ TaAt w G b M T NoY w2) := ⟨RA, hb12, PW2, H2⟩
  have a2 := RA.cell 2 _ rfl
  clear t0 t2 a1 hb2 hb12 RA H2 PW2 HR PK
  go_wp2_with fail
  refine MN.mono ?_
  rintro e w3 ⟨rfl, hw3⟩
  have hw4 := hw3.symm
  clear hw3 MN
  subst hw4
  have CL := pw_client w2 HQ2.out.2.2.1 HKK.out.2.1
  obtain ⟨⟨p0, p1, p2, p3, opn, s0, s1, s2, s3, ws⟩, hses⟩ : ∃ s, T.W.ses kk = s := ⟨_, rfl⟩
  have HS : Hid (T.W.ses kk = ⟨p0, p1, p2, p3, opn, s0, s1, s2, s3, ws⟩) := hses
  rw [hses] at CL
  simp only at CL
  have HCL : Hid (Calls Tryz.prog 17 #[.pointer (some ⟨M.wb, 0, none⟩), .int .i64 (kk : Int)] w2 fun e w' => e = .returned (.tuple #[.int .i64 (T.W.at_ kk : Int), .agg #[.int .i64 p0, .int .i64 p1, .int .i64 p2, .int .i64 p3], .agg #[.int .i64 s0, .int .i64 s1, .int .i64 s2, .int .i64 s3], .bool opn, .nilIface]) ∧ Below w2.heap.size w2 w') := CL
  clear CL hses
  go_upto_if 47 with fail
  go_cut [9] from 47 to 51 (fun iv wc => iv = .int .i64 ((actI T ⟨what, ak, an, ad, ag⟩ : Nat) : Int) ∧ wc = w2)
  case first =>
    by_cases hl : 0 < (T.W.net.length : Int)
    · have PN := pickN_any an T.W.net.length (by omega) (by have := HN.out; omega) w2
      have ei : actI T ⟨what, ak, an, ad, ag⟩ = pickN an T.W.net.length := by unfold actI; rw [if_pos (by omega)]
      rw [← ei] at PN
      clear ei
      go_wp2_with fail
      refine PN.mono ?_
      rintro e w3 ⟨rfl, hw3⟩
      have hw4 := hw3.symm
      clear hw3 PN
      subst hw4
      go_wp2_with fail
      go_meet
      case rel => exact ⟨rfl, rfl⟩
    · have ei : actI T ⟨what, ak, an, ad, ag⟩ = 0 := by unfold actI; rw [if_neg (by omega)]
      have HEI : Hid (actI T ⟨what, ak, an, ad, ag⟩ = 0) := ei
      clear ei
      go_wp2_with fail
      go_meet
      case rel => exact ⟨by rw [HEI.out]; rfl, rfl⟩
  case rest =>
    obtain ⟨rfl, hwc⟩ := hcut
    have hwd := hwc.symm
    clear hwc
    subst hwd
    clear a2
    go_wp2_with fail
    refine HCL.out.mono ?_
    rintro e w3 ⟨rfl, hb3⟩
    have hb23 := behind HQ2.out.2.1 hb3
    have RA3 := HQ2.out.1.later hb3
    clear HCL
    obtain ⟨w4, hw4, hb4, RP, _, sz4⟩ := vecs2_is w3 p0 p1 p2 p3 s0 s1 s2 s3
    have hb24 := behind hb23 hb4
    have H4 : TaAt w G b M T (fun k => w.heap.size ≤ k ∧ k < w4.heap.size) w4 := (HT.out.more hb24).sub (fun k hk => .inr hk)
    have RA4 := RA3.later hb4
    have x0 := RA4.cell 0 _ rfl
    have HQ : Hid (TaAt w G b M T (fun k => w.heap.size ≤ k ∧ k < w4.heap.size) w4 ∧ RowL w4 w3.heap.size [.int .i64 p0, .int .i64 p1, .int .i64 p2, .int .i64 p3] ∧ RowL w4 w.heap.size [.int .i64 what, .int .i64 ak, .int .i64 an, .string ad, .bool ag] ∧ (w.heap.size ≤ w3.heap.size ∧ w3.heap.size < w4.heap.size) ∧ Below w.heap.size w w4) := ⟨H4, RP, RA4, ⟨hb23.size, RP.lt⟩, hb24⟩
    clear HQ2 hb3 hb23 RA3 hb4 RP sz4 hb24 H4 RA4
    go_upto_block 0 with fail
    clear x0 hw4
    go_cut [6, 9] from 65 to 266 (fun _ _ wc => DoneTo w G b M T ⟨what, ak, an, ad, ag⟩ sw w4 wc)
    case rest =>
      clear HT HN
      obtain ⟨M', T', HD', H5, hwb, K5⟩ := hcut.out
      have HD : Hid (DoesTo T ⟨what, ak, an, ad, ag⟩ sw T') := HD'
      have HT5 : Hid (TaAt w G b M' T' (fun k => w.heap.size ≤ k ∧ k < w4.heap.size) wc) := H5
      have RP5 := HQ.out.2.1.keeps K5 ⟨HQ.out.2.2.2.1.1, HQ.out.2.2.2.1.2⟩
      obtain ⟨Gz, PZ, _⟩ := H5.wo
      rw [hwb] at PZ
      have hkz : kk < T'.W.c := by rw [HD.out.many.2]; exact HKK.out.2.1
      have CZ := pw_client wc PZ hkz
      obtain ⟨⟨z0, z1, z2, z3, zo, y0, y1, y2, y3, zws⟩, hzs⟩ : ∃ s, T'.W.ses kk = s := ⟨_, rfl⟩
      rw [hzs] at CZ
      simp only at CZ
      have HCV : Hid (covB z0 z1 z2 z3 p0 p1 p2 p3 = true) := by
        have := (HD.out.past kk).cov
        rw [hzs, HS.out] at this
        exact this
      clear hzs H5 K5 PZ hkz HD' hcut hwb
      go_wp2_with fail
      refine CZ.mono ?_
      rintro e w6 ⟨rfl, hb6⟩
      have RP6 := RP5.later hb6
      have r0 := RP6.cell 0 _ rfl
      have r1 := RP6.cell 1 _ rfl
      have r2 := RP6.cell 2 _ rfl
      have r3 := RP6.cell 3 _ rfl
      have hr6 := RP6.lt
      clear CZ RP5
      go_wp2_with fail
      refine (covers_is HCV.out _).mono ?_
      rintro e w8 ⟨rfl, hb8⟩
      have hb68 := behind (behind hb6 (boxed (boxed (Below.refl _ w6) (.cells #[.int .i64 z0, .int .i64 z1, .int .i64 z2, .int .i64 z3] 47)) (.cells #[.int .i64 y0, .int .i64 y1, .int .i64 y2, .int .i64 y3] 47))) hb8
      clear r0 r1 r2 r3 hr6 RP6
      go_wp2_with fail
      go_ret
      exact ⟨rfl, T', HD.out, (HT5.out.later hb68).done⟩
    case first =>
      clear HW0
      rcases HW.out with rfl | rfl
      · obtain ⟨key, hkey⟩ : ∃ q, pickN an 8 = q := ⟨_, rfl⟩
        have Hkey : Hid (pickN an 8 = key ∧ key < 8) := ⟨hkey, by rw [← hkey]; exact pickN_lt an (by have := HN.out; omega)⟩
        have PT : Hid (∀ x : World, Calls Tryz.prog 64 #[.int .i64 an, .int .i64 ((8 : Nat) : Int)] x fun e w' => e = .returned (.int .i64 (key : Int)) ∧ w' = x) := fun x => by
          have := pickN_any an 8 (by have := HN.out; omega) (by have := HN.out; omega) x
          rw [hkey] at this
          exact this
        clear hkey
        have RAq := HQ.out.2.2.1
        have v2 := RAq.cell 2 _ rfl
        have v3 := RAq.cell 3 _ rfl
        have v4 := RAq.cell 4 _ rfl
        have laq := RAq.lt
        obtain ⟨we, hwe⟩ : ∃ we, wriE (T.W.ses kk) ⟨(key : Int), ad, ag⟩ = we := ⟨_, rfl⟩
        have HWE : Hid (wriE (T.W.ses kk) ⟨(key : Int), ad, ag⟩ = we) := hwe
        obtain ⟨V, hV⟩ : ∃ V, (w4.alloc (.cells #[.int .i64 (key : Int), .string ad, .bool ag] 34)).drew = V := ⟨_, rfl⟩
        have hb4V : Below w4.heap.size w4 V := by rw [← hV]; exact (boxed (Below.refl _ w4) _).drew
        have RXV : RowL V w4.heap.size [.int .i64 (key : Int), .string ad, .bool ag] := by rw [← hV]; exact (RowL.new (w := w4) (T := 34) [.int .i64 (key : Int), .string ad, .bool ag] rfl).drew
        have HV : Hid (TaAt w G b M T (fun k => w.heap.size ≤ k ∧ k < V.heap.size) V ∧ RowL V w4.heap.size [.int .i64 (key : Int), .string ad, .bool ag] ∧ Below w4.heap.size w4 V ∧ w.heap.size ≤ w4.heap.size) := ⟨(HT.out.more (behind HQ.out.2.2.2.2 hb4V)).sub (fun k hk => .inr hk), RXV, hb4V, HQ.out.2.2.2.2.size⟩
        obtain ⟨Gv, PV, step⟩ := HV.out.1.wo
        have WR : Hid (Calls Tryz.prog 36 #[.pointer (some ⟨M.wb, 0, none⟩), .int .i64 (kk : Int), .agg #[.int .i64 (key : Int), .string ad, .bool ag]] V fun e w' => e = .returned (errV we) ∧ PWPo V M.wb Gv (setSes T.W kk (wriS (T.W.ses kk) ⟨(key : Int), ad, ag⟩)) w') := by
          have := pw_write (i := kk) (key : Int) ad ag V PV HKK.out.2.1
          rw [hwe] at this
          exact this
        have HST : Hid (∀ W' w', PWPo V M.wb Gv W' w' → W'.n = T.W.n → W'.c = T.W.c → TaAt w G b M (setW T W') (fun k => w.heap.size ≤ k ∧ k < V.heap.size) w' ∧ Keeps (fun k => w.heap.size ≤ k ∧ k < V.heap.size) V w') := step
        have KEY : Hid (keyOf Tryz.prog 3 (.int .i64 (key : Int)) = some (.int .i64 (key : Int))) := intKeyW (WalkArith.wf_i64 ⟨by omega, by have := Hkey.out.2; omega⟩)
        have Y2 := fun (w' : World) (h : Below w4.heap.size w4 w') => cell_later h v2
        have Y3 := fun (w' : World) (h : Below w4.heap.size w4 w') => cell_later h v3
        have Y4 := fun (w' : World) (h : Below w4.heap.size w4 w') => cell_later h v4
        have hb40 := (Below.refl w4.heap.size w4).drew
        have P8 : Hid (∀ x : World, Calls Tryz.prog 64 #[.int .i64 an, .int .i64 8] x fun e w' => e = .returned (.int .i64 (key : Int)) ∧ w' = x) := PT.out
        have HEV : Hid ((w4.alloc (.cells #[.int .i64 (key : Int), .string ad, .bool ag] 34)).drew = V) := hV
        clear RAq hwe hb4V RXV PV step v2 v3 v4 hV
        go_wp2_with fail
        go_region_held3 (fun w' => Below w4.heap.size w4 w') (repeat (first | (with_reducible assumption) | (with_reducible exact Below.refl _ _) | (with_reducible refine boxed ?_ _) | (with_reducible refine Below.drew ?_) | (refine Below.setCell ?_ (Nat.le_refl _) _)))
          (first | (go_at_call 64; (with_reducible refine (P8.out _).mono ?_); rintro e wq ⟨rfl, hwq⟩; have hwr := hwq.symm; clear hwq; subst hwr))
        all_goals
          rw [HEV.out]
          clear laq Y2 Y3 Y4 hb40
          have x0 := HV.out.2.1.cell 0 _ rfl
          have x1 := HV.out.2.1.cell 1 _ rfl
          have x2 := HV.out.2.1.cell 2 _ rfl
          go_wp2_with fail
          refine WR.out.mono ?_
          rintro e w5 ⟨rfl, hp5⟩
          obtain ⟨H5a, K5a⟩ := HST.out _ _ hp5 rfl rfl
          clear x0 x1 x2 hp5
          by_cases hw0 : we = 0
          · subst hw0
            rw [show errV 0 = .nilIface from rfl]
            obtain ⟨ob, oc, hov, hoc, hol, m0, hM⟩ := H5a.maps (k := kk) HKK.out.2.1
            rw [show (setW T (setSes T.W kk (wriS (T.W.ses kk) ⟨(key : Int), ad, ag⟩))).W.c = T.W.c from rfl] at hoc hov
            have RB5 := H5a.box
            have c4 := RB5.cell 4 _ rfl
            rw [hov] at c4
            have RX5 := HV.out.2.1.keeps K5a ⟨HV.out.2.2.2, HV.out.2.1.lt⟩
            have HM : Hid (WMap w5 (M.bm kk) (T.own kk)) := hM
            have H5A : Hid (TaAt w G b M (setW T (setSes T.W kk (wriS (T.W.ses kk) ⟨(key : Int), ad, ag⟩))) (fun k => w.heap.size ≤ k ∧ k < V.heap.size) w5 ∧ Keeps (fun k => w.heap.size ≤ k ∧ k < V.heap.size) V w5) := ⟨H5a, K5a⟩
            have HL8 : Hid ((allW (T.own kk)).length ≤ 8) := allTo_len (T.own kk) 8
            obtain ⟨k1, D, own5, k4⟩ := hM
            have HMD : Hid ((∀ x ∈ T.own kk, 0 ≤ x.key ∧ x.key < 8) ∧ w5.ownsMap Tryz.prog 3 heldR (M.bm kk) (allW (T.own kk)).length D ∧ WMapIs D (T.own kk)) := ⟨k1, own5, k4⟩
            have own6 : w5.drew.ownsMap Tryz.prog 3 heldR (M.bm kk) (allW (T.own kk)).length D := own5
            obtain ⟨w7, hrun, own7, turn7⟩ := own6.store intLaw Tryz.underlying134 (by have := HL8.out; simp only [maxLen]; omega) KEY.out (val := .agg #[.int .i64 (key : Int), .string ad, .bool ag]) (d := .held (.agg #[.int .i64 (key : Int), .string ad, .bool ag])) (ps := []) rfl
            have q1 : (kk : Int) < (T.W.c : Int) := by have := HKK.out.2.1; omega
            clear k1 k4 own5 H5a K5a hov
            go_wp2_with fail
            have x0 := RX5.cell 0 _ rfl
            have x1 := RX5.cell 1 _ rfl
            have x2 := RX5.cell 2 _ rfl
            have lx5 := RX5.lt
            have lb5 := RB5.lt
            clear RX5 RB5
            go_region
            all_goals
              have M7 := WMap.put HMD.out.1 HMD.out.2.1 HMD.out.2.2 (x := ⟨(key : Int), ad, ag⟩) (by show (0 : Int) ≤ (key : Int); omega) (by show (key : Int) < 8; have := Hkey.out.2; omega) own7
              have g7 := turn7.grown
              have gr : w5.grownBy w7 (some (M.bm kk)) := ⟨g7.os, g7.tape, g7.output, g7.size, g7.block⟩
              obtain ⟨H7, K7⟩ := H5A.out.1.put (k := kk) HKK.out.2.1 M7 gr
              have H5 := H7.sub (X' := fun k => w.heap.size ≤ k ∧ k < w4.heap.size) (fun k hk => ⟨hk.1, Nat.lt_of_lt_of_le hk.2 HV.out.2.2.1.size⟩)
              have K5 := (Keeps.ofBelow (X := fun k => w.heap.size ≤ k ∧ k < w4.heap.size) HV.out.2.2.1 (fun k hk => hk.2)).trans ((H5A.out.2.trans K7).sub (fun k hk => ⟨hk.1, Nat.lt_of_lt_of_le hk.2 HV.out.2.2.1.size⟩))
              have FIN : DoneTo w G b M T ⟨2, ak, an, ad, ag⟩ sw w4 w7 := ⟨_, setOwn (setW T (setSes T.W kk (wriS (T.W.ses kk) ⟨(key : Int), ad, ag⟩))) kk (T.own kk ++ [⟨(key : Int), ad, ag⟩]), by
                have e : (setOwn (setW T (setSes T.W kk (wriS (T.W.ses kk) ⟨(key : Int), ad, ag⟩))) kk (T.own kk ++ [⟨(key : Int), ad, ag⟩])) = wriT T (pickN ak T.W.c) ⟨(pickN an 8 : Nat), ad, ag⟩ := by rw [HKK.out.1, Hkey.out.1]; unfold wriT; rw [HWE.out, if_pos rfl]; rfl
                exact e, H5, rfl, K5⟩

              clear x0 x1 x2 lx5 lb5 own6 own7 hrun c4 m0 hol hoc H7 K7 H5 K5 M7 g7 gr turn7
              go_wp2_with fail
              go_meet
              case rel => exact FIN

          · rw [errV_no hw0]
            have HW0 : Hid (we ≠ 0) := hw0
            clear hw0
            have H5 := H5a.sub (X' := fun k => w.heap.size ≤ k ∧ k < w4.heap.size) (fun k hk => ⟨hk.1, Nat.lt_of_lt_of_le hk.2 HV.out.2.2.1.size⟩)
            have K5 := (Keeps.ofBelow (X := fun k => w.heap.size ≤ k ∧ k < w4.heap.size) HV.out.2.2.1 (fun k hk => hk.2)).trans (K5a.sub (fun k hk => ⟨hk.1, Nat.lt_of_lt_of_le hk.2 HV.out.2.2.1.size⟩))
            have FIN : DoneTo w G b M T ⟨2, ak, an, ad, ag⟩ sw w4 w5 := ⟨_, setW T (setSes T.W kk (wriS (T.W.ses kk) ⟨(key : Int), ad, ag⟩)), by
              have e : (setW T (setSes T.W kk (wriS (T.W.ses kk) ⟨(key : Int), ad, ag⟩))) = wriT T (pickN ak T.W.c) ⟨(pickN an 8 : Nat), ad, ag⟩ := by rw [HKK.out.1, Hkey.out.1]; unfold wriT; rw [HWE.out, if_neg HW0.out]; rfl
              exact e, H5, rfl, K5⟩

            clear H5 K5 H5a K5a
            go_wp2_with fail
            go_meet
            case rel => exact FIN

      · obtain ⟨i0, hi, hz0, hz1, hz2⟩ := info_parts txInfo
        obtain ⟨Gv, PV, com⟩ := HQ.out.1.commit
        have CM := pw_commit w4 PV HI.out.1.wf HKK.out.2.1 (fun hq => (HI.out.1.tells HKK.out.2.2 HI.out.2.1 hq).1)
        have HCM : Hid (∀ i e w', WCommit w4 M.wb Gv T.W i e w' → ∃ m : TxM, e = .returned (.tuple #[txV m, errV (wcE T.W i)]) ∧ ComTa w G b M T (fun k => w.heap.size ≤ k ∧ k < w4.heap.size) w4 i m w') := com
        clear PV com
        go_wp2_with fail
        refine CM.mono ?_
        intro e w5 hcm
        obtain ⟨⟨⟨m0, m1, m2, m3, m4, m5, m6, m7, mws⟩, ma, mc⟩, rfl, HC⟩ := HCM.out kk e w5 hcm
        clear CM HCM hcm
        simp only [txV]
        obtain ⟨ce, hce⟩ : ∃ ce, wcE T.W kk = ce := ⟨_, rfl⟩
        rw [hce]
        obtain ⟨w6, hw6⟩ : ∃ w6, w5.alloc (.cells #[.int .i64 m0, .int .i64 m1, .int .i64 m2, .int .i64 m3, .int .i64 m4, .int .i64 m5, .int .i64 m6, .int .i64 m7, .slice ma mws.length mc] 80) = w6 := ⟨_, rfl⟩
        have hb56 : Below w5.heap.size w5 w6 := by rw [← hw6]; exact boxed (Below.refl _ w5) _
        have RX6 : RowL w6 w5.heap.size [.int .i64 m0, .int .i64 m1, .int .i64 m2, .int .i64 m3, .int .i64 m4, .int .i64 m5, .int .i64 m6, .int .i64 m7, .slice ma mws.length mc] := by rw [← hw6]; exact RowL.new (w := w5) (T := 80) [.int .i64 m0, .int .i64 m1, .int .i64 m2, .int .i64 m3, .int .i64 m4, .int .i64 m5, .int .i64 m6, .int .i64 m7, .slice ma mws.length mc] rfl
        have sz6 : w6.heap.size = w5.heap.size + 1 := by rw [← hw6]; simp
        by_cases hq : 0 < m1
        · have hq0 : 0 < (wcT T.W kk).seq := by rw [← HC.out.1]; exact hq
          obtain ⟨_, _, _, _, hw0⟩ := wc_yes hq0
          obtain ⟨_, hsi, hsq, hln⟩ := HI.out.1.tells HKK.out.2.2 HI.out.2.1 hq0
          have ehm := HC.out.1
          rw [← ehm] at hsi hsq hln
          simp only at hsi hsq hln ehm
          have ec : errV ce = .nilIface := by rw [← hce, hw0]; rfl
          rw [ec]
          have HQ0 : Hid (0 < (wcT T.W kk).seq ∧ (⟨m0, m1, m2, m3, m4, m5, m6, m7, mws⟩ : TxP) = wcT T.W kk) := ⟨hq0, ehm⟩
          have hm5 : ∀ k, (⟨⟨m0, m1, m2, m3, m4, m5, m6, m7, mws⟩, ma, mc⟩ : TxM).blk k → k < w5.heap.size := HC.out.2.1.blk_lt
          have H6 : TaAt w G b M (setW T (wcW T.W kk)) (fun k => (fun k => (w.heap.size ≤ k ∧ k < w4.heap.size) ∨ k = w5.heap.size) k ∨ (⟨⟨m0, m1, m2, m3, m4, m5, m6, m7, mws⟩, ma, mc⟩ : TxM).blk k) w6 := (HC.out.2.2.1.more hb56).sub (fun k hk => by
            rcases hk with (hk | hk) | hk
            · exact .inl (.inl hk)
            · exact .inr ⟨by omega, by omega⟩
            · exact .inl (.inr hk))
          have HX1 : Hid (∀ k, (fun k => (w.heap.size ≤ k ∧ k < w4.heap.size) ∨ k = w5.heap.size) k → ¬ (⟨⟨m0, m1, m2, m3, m4, m5, m6, m7, mws⟩, ma, mc⟩ : TxM).blk k) := fun k hk hm => by
            have h1 := HC.out.2.2.2.2 k hm
            have h2 := hm5 k hm
            rcases hk with hk | hk <;> omega
          obtain ⟨own6, hal, htb⟩ := H6.row
          obtain ⟨ta, tc, htv, _, _, _⟩ := H6.txs
          have HTV : Hid (M.tv = .slice ta M.all.length tc) := htv
          have HLN : Hid (M.all.length ≤ 120) := by
            have := HI.out.1.len
            rw [← HI.out.1.eH] at this
            show _ ≤ _
            rw [hal]
            show T.H.length ≤ 120
            have := HI.out.2.1
            omega
          have RB6 := H6.box
          have b3 := RB6.cell 3 _ rfl
          rw [htv] at b3 own6
          have lb6 := RB6.lt
          have x1 := RX6.cell 1 _ rfl
          have H6H : Hid (TaAt w G b M (setW T (wcW T.W kk)) (fun k => (fun k => (w.heap.size ≤ k ∧ k < w4.heap.size) ∨ k = w5.heap.size) k ∨ (⟨⟨m0, m1, m2, m3, m4, m5, m6, m7, mws⟩, ma, mc⟩ : TxM).blk k) w6 ∧ WrIn w6 ma mc mws ∧ RowL w6 w5.heap.size [.int .i64 m0, .int .i64 m1, .int .i64 m2, .int .i64 m3, .int .i64 m4, .int .i64 m5, .int .i64 m6, .int .i64 m7, .slice ma mws.length mc] ∧ RowL w6 b [.pointer (some ⟨M.wb, 0, none⟩), .int .i64 (setW T (wcW T.W kk)).W.n, .int .i64 (setW T (wcW T.W kk)).W.c, M.tv, M.ov] ∧ M.tv.ownBlock ≠ some b) := ⟨H6, HC.out.2.1.later hb56, RX6, RB6, htb⟩
          have HK6 : Hid (Keeps (fun k => w.heap.size ≤ k ∧ k < w4.heap.size) w4 w6 ∧ w4.heap.size ≤ w5.heap.size) := ⟨HC.out.2.2.2.1.trans (Keeps.ofBelow (X := (fun k => w.heap.size ≤ k ∧ k < w4.heap.size)) hb56 (fun k hk => Nat.lt_of_lt_of_le hk.2 HC.out.2.2.2.1.size)), HC.out.2.2.2.1.size⟩
          have HF : Hid ((0 ≤ m0 ∧ m0 ≤ 3) ∧ m1 ≤ depOf m0 ((wcW T.W kk).ses kk).p0 ((wcW T.W kk).ses kk).p1 ((wcW T.W kk).ses kk).p2 ((wcW T.W kk).ses kk).p3 ∧ mws.length = (allW (T.own kk)).length) := ⟨hsi, hsq, hln⟩
          have hlx := RX6.lt
          have Hsz : Hid (w6.heap.size = w5.heap.size + 1 ∧ w.heap.size ≤ w4.heap.size) := ⟨sz6, by have := HQ.out.2.2.2.1; omega⟩
          clear hq0 hw0 hsi hsq hln ehm ec hm5 H6 htv RB6 hal htb hce sz6 hb56 HC
          go_wp2_with fail
          have x0 := H6H.out.2.2.1.cell 0 _ rfl
          have x2 := H6H.out.2.2.1.cell 2 _ rfl
          have x3 := H6H.out.2.2.1.cell 3 _ rfl
          have x4 := H6H.out.2.2.1.cell 4 _ rfl
          have x5 := H6H.out.2.2.1.cell 5 _ rfl
          have x6 := H6H.out.2.2.1.cell 6 _ rfl
          have x7 := H6H.out.2.2.1.cell 7 _ rfl
          have x8 := H6H.out.2.2.1.cell 8 _ rfl
          have hb67 : Below w6.heap.size w6 (w6.drew.alloc (.cells #[.int .i64 m0, .int .i64 m1, .int .i64 m2, .int .i64 m3, .int .i64 m4, .int .i64 m5, .int .i64 m6, .int .i64 m7, .slice ma mws.length mc] 80)) := boxed (Below.refl _ w6).drew _
          have own6d : w6.drew.ownsRow 0 80 9 (.slice ta M.all.length tc) M.all.length (txsC M.all) := own6
          go_region_law (first
           | (refine step_append_lies _ rfl (.tmp 147) (.tmp 149) 53 rfl 0 80 i0 (.agg #[.int .i64 0, .int .i64 0, .int .i64 0, .int .i64 0, .int .i64 0, .int .i64 0, .int .i64 0, .int .i64 0, .slice none 0 0]) 9 88 Tryz.underlying53 hi hz0 hz1 hz2 rfl (by decide) (.slice ta M.all.length tc) M.all.length (txsC M.all) (by simp [Act.eval]) (own6d.alloc _) ⟨w6.heap.size, 0, none⟩ 1 1 (txC (⟨⟨m0, m1, m2, m3, m4, m5, m6, m7, mws⟩, ma, mc⟩ : TxM)) (by simp [Act.eval]) rfl (World.news_of_block (heap_alloc_new w6.drew (.cells #[.int .i64 m0, .int .i64 m1, .int .i64 m2, .int .i64 m3, .int .i64 m4, .int .i64 m5, .int .i64 m6, .int .i64 m7, .slice ma mws.length mc] 80))) (txC_one _) (by decide) (by have := HLN.out; simp only [maxLen]; omega) (by have := HLN.out; omega) (Nat.zero_le _) _ rfl ?_
              intro g9 cap9 wE ownE grE egE ltE
              have BE : RowL wE b _ := (H6H.out.2.2.2.1.later hb67).grown grE (fun e => H6H.out.2.2.2.2 (by rw [HTV.out]; exact e.symm))
              have e3 := BE.cell 3 _ rfl
              have f3 := BE.free 3 (by simp)))
          all_goals
            obtain ⟨H7, K7⟩ := H6H.out.1.push (m := (⟨⟨m0, m1, m2, m3, m4, m5, m6, m7, mws⟩, ma, mc⟩ : TxM)) (X := (fun k => (w.heap.size ≤ k ∧ k < w4.heap.size) ∨ k = w5.heap.size)) H6H.out.2.1 HX1.out hb67 ownE (by rw [HTV.out]; exact grE) (by rw [HTV.out]; exact egE) ltE
            obtain ⟨w7, hw7⟩ : ∃ w7, wE.setCell ⟨b, 3, none⟩ (.slice (some ⟨g9, 0, none⟩) (M.all.length + 1) cap9) = w7 := ⟨_, rfl⟩
            rw [hw7] at H7 K7
            have RX7 := H6H.out.2.2.1.keeps K7 (.inr rfl)
            have HT7 : Hid (TaAt w G b { M with tv := .slice (some ⟨g9, 0, none⟩) (M.all.length + 1) cap9, all := M.all ++ [(⟨⟨m0, m1, m2, m3, m4, m5, m6, m7, mws⟩, ma, mc⟩ : TxM)] } ⟨wcW T.W kk, T.H ++ [⟨m0, m1, m2, m3, m4, m5, m6, m7, mws⟩], T.own⟩ (fun k => (w.heap.size ≤ k ∧ k < w4.heap.size) ∨ k = w5.heap.size) w7 ∧ Keeps (fun k => (w.heap.size ≤ k ∧ k < w4.heap.size) ∨ k = w5.heap.size) w6 w7 ∧ RowL w7 w5.heap.size [.int .i64 m0, .int .i64 m1, .int .i64 m2, .int .i64 m3, .int .i64 m4, .int .i64 m5, .int .i64 m6, .int .i64 m7, .slice ma mws.length mc]) := ⟨H7, K7, RX7⟩
            obtain ⟨Gz, PZ, _⟩ := H7.wo
            have PZ' : PW w7 M.wb Gz (wcW T.W kk) := PZ
            have CZ := pw_client w7 PZ' (i := kk) (by rw [(wcW_n T.W kk).2]; exact HKK.out.2.1)
            obtain ⟨⟨z0, z1, z2, z3, zo, y0, y1, y2, y3, zws⟩, hzs⟩ : ∃ s, (wcW T.W kk).ses kk = s := ⟨_, rfl⟩
            rw [hzs] at CZ
            simp only at CZ
            have HSQ : Hid (m1 ≤ depOf m0 z0 z1 z2 z3) := by have := HF.out.2.1; rw [hzs] at this; exact this
            clear H7 K7 RX7 PZ PZ' hzs ownE grE egE ltE BE
            rw [hw7]
            clear x0 x1 x2 x3 x4 x5 x6 x7 x8 b3 lb6 hlx hw6 own6 own6d hb67 e3 f3 hw7
            go_wp2_with fail
            refine CZ.mono ?_
            rintro e w8 ⟨rfl, hb8⟩
            obtain ⟨w9, hw9, hb9, RN, _, _⟩ := vecs2_is w8 z0 z1 z2 z3 y0 y1 y2 y3
            have hb79 := behind hb8 hb9
            have RX9 := HT7.out.2.2.later hb79
            have H9 := HT7.out.1.later hb79
            have x0 := Later.cell (RX9.cell 0 _ rfl)
            have x1 := Later.cell (RX9.cell 1 _ rfl)
            have x8 := Later.cell (RX9.cell 8 _ rfl)
            have nv := Later.cell (vec_cell RN HF.out.1.1 HF.out.1.2)
            have g0 : 0 ≤ m0 := HF.out.1.1
            have g4 : m0 < 4 := by have := HF.out.1.2; omega
            have hkc9 : kk < (wcW T.W kk).c := by rw [(wcW_n T.W kk).2]; exact HKK.out.2.1
            obtain ⟨ob, oc, hov, hoc, hol, k0, hM⟩ := H9.maps (k := kk) hkc9
            have hov' : M.ov = .slice (some ⟨ob, 0, none⟩) (wcW T.W kk).c oc := hov
            have b4 := H9.box.cell 4 _ rfl
            rw [show ({ M with tv := .slice (some ⟨g9, 0, none⟩) (M.all.length + 1) cap9, all := M.all ++ [(⟨⟨m0, m1, m2, m3, m4, m5, m6, m7, mws⟩, ma, mc⟩ : TxM)] } : TaM).ov = M.ov from rfl, hov'] at b4
            have b4l := Later.cell b4
            have k0l := Later.cell k0
            have q1 : (kk : Int) < ((wcW T.W kk).c : Int) := by omega
            have hlen : ∀ (x : Later w9) (ty : TypeId), (Builtin.len_ #[134] ty #[.map (some (M.bm kk))]).run Tryz.prog x.val = .ok (.int .i64 ((allW (T.own kk)).length : Int)) x.val := fun x ty => (hM.later x.below).len ty
            have hls : ((mws.length : Int) != ((allW (T.own kk)).length : Int)) = false := by rw [HF.out.2.2]; simp
            have hds : decide (depOf m0 z0 z1 z2 z3 < m1) = false := decide_eq_false (by have := HSQ.out; omega)
            have H79 : Hid (Below w7.heap.size w7 w9) := hb79
            clear CZ hov hov' b4 k0 hM RX9 H9 hb8 hb9 hb79 RN hkc9
            go_wp2_with fail
            clear hw9
            refine wp_region_later (by kernel_rfl) (by kernel_rfl) ?_
            repeat (go_big_quiet_step (first | rfl | fail))
            refine wpQuiet_nil ?_
            rintro w10 ⟨⟨_, hb10⟩, rfl⟩
            have hb710 := behind H79.out hb10
            have H5 := (HT7.out.1.later hb710).sub (X' := (fun k => w.heap.size ≤ k ∧ k < w4.heap.size)) (fun k hk => .inl hk)
            have K5 := (HK6.out.1.trans (HT7.out.2.1.sub (X' := (fun k => w.heap.size ≤ k ∧ k < w4.heap.size)) (fun k hk => .inl hk))).trans (Keeps.ofBelow (X := (fun k => w.heap.size ≤ k ∧ k < w4.heap.size)) hb710 (fun k hk => by have h1 := HT7.out.2.1.size; have h2 := HK6.out.1.size; have h3 := hk.2; omega))
            have FIN : DoneTo w G b M T ⟨3, ak, an, ad, ag⟩ sw w4 w10 := ⟨{ M with tv := .slice (some ⟨g9, 0, none⟩) (M.all.length + 1) cap9, all := M.all ++ [(⟨⟨m0, m1, m2, m3, m4, m5, m6, m7, mws⟩, ma, mc⟩ : TxM)] }, ⟨wcW T.W kk, T.H ++ [⟨m0, m1, m2, m3, m4, m5, m6, m7, mws⟩], T.own⟩, by
              have e : (⟨wcW T.W kk, T.H ++ [⟨m0, m1, m2, m3, m4, m5, m6, m7, mws⟩], T.own⟩) = comTa T (pickN ak T.W.c) := by rw [HKK.out.1]; unfold comTa; rw [if_pos HQ0.out.1, ← HQ0.out.2]
              exact e, H5, rfl, K5⟩

            clear x0 x1 x8 nv b4l k0l hlen hls hds H5 K5 hb10 hb710 hol hoc g0 g4 q1
            go_wp2_with fail
            go_meet
            case rel => exact FIN

        · have hq0 : Hid (¬ 0 < (wcT T.W kk).seq) := by
            show ¬ _
            rw [← HC.out.1]
            exact hq
          have H5 : TaAt w G b M (setW T (wcW T.W kk)) (fun k => w.heap.size ≤ k ∧ k < w4.heap.size) w6 := (HC.out.2.2.1.sub (fun k hk => .inl hk)).later hb56
          have K5 := HC.out.2.2.2.1.trans (Keeps.ofBelow (X := (fun k => w.heap.size ≤ k ∧ k < w4.heap.size)) hb56 (fun k hk => Nat.lt_of_lt_of_le hk.2 HC.out.2.2.2.1.size))
          have FIN : DoneTo w G b M T ⟨3, ak, an, ad, ag⟩ sw w4 w6 := ⟨_, setW T (wcW T.W kk), by
            have e : (setW T (wcW T.W kk)) = comTa T (pickN ak T.W.c) := by rw [HKK.out.1]; unfold comTa; rw [if_neg hq0.out]; rfl
            exact e, H5, rfl, K5⟩
          have x1 := RX6.cell 1 _ rfl
          clear H5 K5 RX6 hb56 sz6
          by_cases hc0 : ce = 0
          · rw [errV_yes hc0]
            clear hc0 hce
            go_wp2_with fail
            go_meet
            case rel => exact FIN
          · rw [errV_no hc0]
            clear hc0 hce
            go_wp2_with fail
            go_meet
            case rel => exact FIN

end Go.Proofs.YtemiamjnhoeniaaGreatDoor

