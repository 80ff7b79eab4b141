/-
  A step of a tale: Move, Goes, Sweep.
-/
import Derived.Test.YtemiamjnhoeniaaGreatDoorSiteK
import Derived.Test.YtemiamjnhoeniaaGreatDoorSiteJ
namespace Go.Proofs.YtemiamjnhoeniaaGreatDoor
open Go.RowKit

set_option maxRecDepth 1000000 in
set_option maxHeartbeats 32000000 in
theorem doesC_any {b : Nat} {G : Nat → Prop} {base : Nat → V4} {Tg T : TaleS} {m : Nat} (w : World) (h : TA w b G T) (hI : TI base Tg T m) (hm : m < 120) (what ak an : Int) (ad : ByteArray) (ag sw : Bool) (hg : w.cell? ⟨0, 0, none⟩ = some (.iface 209 (.agg #[.pointer (some ⟨1, 25, none⟩)]))) (hw : what = 5 ∨ what = 6 ∨ what = 11) :
    Calls Tryz.prog 20 #[.pointer (some ⟨b, 0, none⟩), .agg #[.int .i64 what, .int .i64 ak, .int .i64 an, .string ad, .bool ag], .bool sw] w (DoesIs w b G T ⟨what, ak, an, ad, ag⟩ sw) := by
  have HW : Hid (what = 5 ∨ what = 6 ∨ what = 11) := hw
  have HW0 : Hid True := trivial
  clear hw
  have hne := Later.one
  obtain ⟨M, hT⟩ := h.start
  have RB := hT.box
  have hlb := RB.lt
  have hcn : T.W.c ≤ 6 := hI.wf.c6
  have hnn : T.W.n ≤ 4 := hI.wf.n4
  have hn1 : 1 ≤ T.W.n := hI.wf.n1
  have hc1 : 1 ≤ T.W.c := by rw [hI.sim.c]; exact hI.c1
  have hnet : T.W.net.length ≤ 300 := hI.wf.net
  have hkc := pickN_lt ak (n := T.W.c) hc1
  obtain ⟨kk, hkk⟩ : ∃ kk, pickN ak T.W.c = kk := ⟨_, rfl⟩
  have HKK : Hid (pickN ak T.W.c = kk ∧ kk < T.W.c ∧ kk < Tg.W.c) := ⟨hkk, by rw [← hkk]; exact hkc, by rw [← hI.sim.c, ← hkk]; exact hkc⟩
  have PK : Hid (∀ x : World, Calls Tryz.prog 64 #[.int .i64 ak, .int .i64 (T.W.c : Int)] x fun e w' => e = .returned (.int .i64 (kk : Int)) ∧ Below x.heap.size x w') := fun x => by
    have := pickN_any ak T.W.c hc1 (by omega) x
    rw [hkk] at this
    exact this.mono fun e w' ⟨h1, h2⟩ => ⟨h1, by rw [h2]; exact Below.refl _ _⟩
  have hb0 := boxed (Below.refl _ w) (.cells #[.int .i64 what, .int .i64 ak, .int .i64 an, .string ad, .bool ag] 74)
  have R0 : RowL (w.alloc (.cells #[.int .i64 what, .int .i64 ak, .int .i64 an, .string ad, .bool ag] 74)) w.heap.size [.int .i64 what, .int .i64 ak, .int .i64 an, .string ad, .bool ag] := RowL.new (w := w) (T := 74) [.int .i64 what, .int .i64 ak, .int .i64 an, .string ad, .bool ag] rfl
  have RB0 := RB.later hb0
  have t0 := Later.cell (RB0.cell 0 _ rfl)
  have t2 := Later.cell (RB0.cell 2 _ rfl)
  have a1 := Later.cell (R0.cell 1 _ rfl)
  have HI : Hid (TI base Tg T m ∧ m < 120 ∧ w.cell? ⟨0, 0, none⟩ = some (.iface 209 (.agg #[.pointer (some ⟨1, 25, none⟩)]))) := ⟨hI, hm, hg⟩
  have HN : Hid (T.W.c ≤ 6 ∧ T.W.n ≤ 4 ∧ 1 ≤ T.W.n ∧ 1 ≤ T.W.c ∧ T.W.net.length ≤ 300) := ⟨hcn, hnn, hn1, hc1, hnet⟩
  have HT : Hid (TaAt w G b M T NoY w) := hT
  have HR : Hid (RowL (w.alloc (.cells #[.int .i64 what, .int .i64 ak, .int .i64 an, .string ad, .bool ag] 74)) w.heap.size [.int .i64 what, .int .i64 ak, .int .i64 an, .string ad, .bool ag] ∧ Below w.heap.size w (w.alloc (.cells #[.int .i64 what, .int .i64 ak, .int .i64 an, .string ad, .bool ag] 74))) := ⟨R0, hb0⟩
  clear h hI hm hg hT RB RB0 R0 hb0 hcn hnn hn1 hc1 hnet hkc hkk
  go_enter Tryz.func20, Tryz.ntmps20
  go_wp2_with fail
  refine wp_region_later (by kernel_rfl) (by kernel_rfl) ?_
  repeat (go_big_quiet_step (first | rfl | (go_at_call 64; with_reducible exact calls_later (PK.out _))))
  refine wpQuiet_nil ?_
  rintro w2 ⟨⟨_, hb2⟩, rfl⟩
  have hb12 := behind HR.out.2 hb2
  have RA := HR.out.1.later hb2
  have H2 := HT.out.later hb12
  obtain ⟨Gw, PW2, _⟩ := H2.wo
  have MN := pw_many w2 PW2
  have HQ2 : Hid (RowL w2 w.heap.size [.int .i64 what, .int .i64 ak, .int .i64 an, .string ad, .bool ag] ∧ Below w.heap.size w w2 ∧ PW w2 M.wb Gw T.W ∧ TaAt w G b M T NoY w2) := ⟨RA, hb12, PW2, H2⟩
  have a2 := RA.cell 2 _ rfl
  clear t0 t2 a1 hb2 hb12 RA H2 PW2 HR PK
  go_wp2_with fail
  refine MN.mono ?_
  rintro e w3 ⟨rfl, hw3⟩
  have hw4 := hw3.symm
  clear hw3 MN
  subst hw4
  have CL := pw_client w2 HQ2.out.2.2.1 HKK.out.2.1
  obtain ⟨⟨p0, p1, p2, p3, opn, s0, s1, s2, s3, ws⟩, hses⟩ : ∃ s, T.W.ses kk = s := ⟨_, rfl⟩
  have HS : Hid (T.W.ses kk = ⟨p0, p1, p2, p3, opn, s0, s1, s2, s3, ws⟩) := hses
  rw [hses] at CL
  simp only at CL
  have HCL : Hid (Calls Tryz.prog 17 #[.pointer (some ⟨M.wb, 0, none⟩), .int .i64 (kk : Int)] w2 fun e w' => e = .returned (.tuple #[.int .i64 (T.W.at_ kk : Int), .agg #[.int .i64 p0, .int .i64 p1, .int .i64 p2, .int .i64 p3], .agg #[.int .i64 s0, .int .i64 s1, .int .i64 s2, .int .i64 s3], .bool opn, .nilIface]) ∧ Below w2.heap.size w2 w') := CL
  clear CL hses
  go_upto_if 47 with fail
  go_cut [9] from 47 to 51 (fun iv wc => iv = .int .i64 ((actI T ⟨what, ak, an, ad, ag⟩ : Nat) : Int) ∧ wc = w2)
  case first =>
    by_cases hl : 0 < (T.W.net.length : Int)
    · have PN := pickN_any an T.W.net.length (by omega) (by have := HN.out; omega) w2
      have ei : actI T ⟨what, ak, an, ad, ag⟩ = pickN an T.W.net.length := by unfold actI; rw [if_pos (by omega)]
      rw [← ei] at PN
      clear ei
      go_wp2_with fail
      refine PN.mono ?_
      rintro e w3 ⟨rfl, hw3⟩
      have hw4 := hw3.symm
      clear hw3 PN
      subst hw4
      go_wp2_with fail
      go_meet
      case rel => exact ⟨rfl, rfl⟩
    · have ei : actI T ⟨what, ak, an, ad, ag⟩ = 0 := by unfold actI; rw [if_neg (by omega)]
      have HEI : Hid (actI T ⟨what, ak, an, ad, ag⟩ = 0) := ei
      clear ei
      go_wp2_with fail
      go_meet
      case rel => exact ⟨by rw [HEI.out]; rfl, rfl⟩
  case rest =>
    obtain ⟨rfl, hwc⟩ := hcut
    have hwd := hwc.symm
    clear hwc
    subst hwd
    clear a2
    go_wp2_with fail
    refine HCL.out.mono ?_
    rintro e w3 ⟨rfl, hb3⟩
    have hb23 := behind HQ2.out.2.1 hb3
    have RA3 := HQ2.out.1.later hb3
    clear HCL
    obtain ⟨w4, hw4, hb4, RP, _, sz4⟩ := vecs2_is w3 p0 p1 p2 p3 s0 s1 s2 s3
    have hb24 := behind hb23 hb4
    have H4 : TaAt w G b M T (fun k => w.heap.size ≤ k ∧ k < w4.heap.size) w4 := (HT.out.more hb24).sub (fun k hk => .inr hk)
    have RA4 := RA3.later hb4
    have x0 := RA4.cell 0 _ rfl
    have HQ : Hid (TaAt w G b M T (fun k => w.heap.size ≤ k ∧ k < w4.heap.size) w4 ∧ RowL w4 w3.heap.size [.int .i64 p0, .int .i64 p1, .int .i64 p2, .int .i64 p3] ∧ RowL w4 w.heap.size [.int .i64 what, .int .i64 ak, .int .i64 an, .string ad, .bool ag] ∧ (w.heap.size ≤ w3.heap.size ∧ w3.heap.size < w4.heap.size) ∧ Below w.heap.size w w4) := ⟨H4, RP, RA4, ⟨hb23.size, RP.lt⟩, hb24⟩
    clear HQ2 hb3 hb23 RA3 hb4 RP sz4 hb24 H4 RA4
    go_upto_block 0 with fail
    clear x0 hw4
    go_cut [6, 9] from 65 to 266 (fun _ _ wc => DoneTo w G b M T ⟨what, ak, an, ad, ag⟩ sw w4 wc)
    case rest =>
      clear HT HN
      obtain ⟨M', T', HD', H5, hwb, K5⟩ := hcut.out
      have HD : Hid (DoesTo T ⟨what, ak, an, ad, ag⟩ sw T') := HD'
      have HT5 : Hid (TaAt w G b M' T' (fun k => w.heap.size ≤ k ∧ k < w4.heap.size) wc) := H5
      have RP5 := HQ.out.2.1.keeps K5 ⟨HQ.out.2.2.2.1.1, HQ.out.2.2.2.1.2⟩
      obtain ⟨Gz, PZ, _⟩ := H5.wo
      rw [hwb] at PZ
      have hkz : kk < T'.W.c := by rw [HD.out.many.2]; exact HKK.out.2.1
      have CZ := pw_client wc PZ hkz
      obtain ⟨⟨z0, z1, z2, z3, zo, y0, y1, y2, y3, zws⟩, hzs⟩ : ∃ s, T'.W.ses kk = s := ⟨_, rfl⟩
      rw [hzs] at CZ
      simp only at CZ
      have HCV : Hid (covB z0 z1 z2 z3 p0 p1 p2 p3 = true) := by
        have := (HD.out.past kk).cov
        rw [hzs, HS.out] at this
        exact this
      clear hzs H5 K5 PZ hkz HD' hcut hwb
      go_wp2_with fail
      refine CZ.mono ?_
      rintro e w6 ⟨rfl, hb6⟩
      have RP6 := RP5.later hb6
      have r0 := RP6.cell 0 _ rfl
      have r1 := RP6.cell 1 _ rfl
      have r2 := RP6.cell 2 _ rfl
      have r3 := RP6.cell 3 _ rfl
      have hr6 := RP6.lt
      clear CZ RP5
      go_wp2_with fail
      refine (covers_is HCV.out _).mono ?_
      rintro e w8 ⟨rfl, hb8⟩
      have hb68 := behind (behind hb6 (boxed (boxed (Below.refl _ w6) (.cells #[.int .i64 z0, .int .i64 z1, .int .i64 z2, .int .i64 z3] 47)) (.cells #[.int .i64 y0, .int .i64 y1, .int .i64 y2, .int .i64 y3] 47))) hb8
      clear r0 r1 r2 r3 hr6 RP6
      go_wp2_with fail
      go_ret
      exact ⟨rfl, T', HD.out, (HT5.out.later hb68).done⟩
    case first =>
      clear HW0
      rcases HW.out with rfl | rfl | rfl
      · obtain ⟨sj, hsj⟩ : ∃ q, pickN an T.W.n = q := ⟨_, rfl⟩
        have Hsj : Hid (pickN an T.W.n = sj ∧ sj < T.W.n) := ⟨hsj, by rw [← hsj]; exact pickN_lt an (by have := HN.out; omega)⟩
        have PT : Hid (∀ x : World, Calls Tryz.prog 64 #[.int .i64 an, .int .i64 ((T.W.n : Nat) : Int)] x fun e w' => e = .returned (.int .i64 (sj : Int)) ∧ w' = x) := fun x => by
          have := pickN_any an T.W.n (by have := HN.out; omega) (by have := HN.out; omega) x
          rw [hsj] at this
          exact this
        clear hsj
        have RBq := HQ.out.1.box
        have lbq := RBq.lt
        have laq := HQ.out.2.2.1.lt
        have S0 : RowL w4.drew w.heap.size [.int .i64 5, .int .i64 ak, .int .i64 an, .string ad, .bool ag] ∧ w4.drew.cell? ⟨b, 1, none⟩ = some (.int .i64 (T.W.n : Int)) := ⟨HQ.out.2.2.1.drew, RBq.drew.cell 1 _ rfl⟩
        have Y1 := fun (w' : World) (h : RowL w' w.heap.size [.int .i64 5, .int .i64 ak, .int .i64 an, .string ad, .bool ag] ∧ w'.cell? ⟨b, 1, none⟩ = some (.int .i64 (T.W.n : Int))) => h.1.cell 1 _ rfl
        have Y2 := fun (w' : World) (h : RowL w' w.heap.size [.int .i64 5, .int .i64 ak, .int .i64 an, .string ad, .bool ag] ∧ w'.cell? ⟨b, 1, none⟩ = some (.int .i64 (T.W.n : Int))) => h.1.cell 2 _ rfl
        have Y3 := fun (w' : World) (h : RowL w' w.heap.size [.int .i64 5, .int .i64 ak, .int .i64 an, .string ad, .bool ag] ∧ w'.cell? ⟨b, 1, none⟩ = some (.int .i64 (T.W.n : Int))) => h.2
        go_wp2_with fail
        obtain ⟨Gv, PV, step⟩ := (HQ.out.1.later (Below.refl _ w4).drew).wo
        have CA : Hid (Calls Tryz.prog 41 #[.pointer (some ⟨M.wb, 0, none⟩), .int .i64 (kk : Int), .int .i64 (sj : Int)] w4.drew fun e w' => (∃ ev, e = .returned (errV ev)) ∧ PWPo w4.drew M.wb Gv (moveW T.W kk sj) w') := (pw_move w4.drew PV HKK.out.2.1 Hsj.out.2).mono fun e w' ⟨h1, h2⟩ => ⟨⟨_, h1⟩, h2⟩
        have HST : Hid (∀ W' w', PWPo w4.drew M.wb Gv W' w' → W'.n = T.W.n → W'.c = T.W.c → TaAt w G b M (setW T W') (fun k => w.heap.size ≤ k ∧ k < w4.heap.size) w' ∧ Keeps (fun k => w.heap.size ≤ k ∧ k < w4.heap.size) w4.drew w') := step
        clear RBq PV step
        go_region_held3 (fun w' => RowL w' w.heap.size [.int .i64 5, .int .i64 ak, .int .i64 an, .string ad, .bool ag] ∧ w'.cell? ⟨b, 1, none⟩ = some (.int .i64 (T.W.n : Int))) (with_reducible assumption)
          (first
            | (go_at_call 64; (with_reducible refine (PT.out _).mono ?_); rintro e wq ⟨rfl, hwq⟩; have hwr := hwq.symm; clear hwq; subst hwr)
            | (go_at_call 41; (with_reducible refine CA.out.mono ?_); rintro e w5 ⟨⟨ev, rfl⟩, hp5⟩; have HH5 := HST.out _ _ hp5 (move_n _ _ _).1 (move_n _ _ _).2; have S5 : RowL w5 w.heap.size [.int .i64 5, .int .i64 ak, .int .i64 an, .string ad, .bool ag] ∧ w5.cell? ⟨b, 1, none⟩ = some (.int .i64 (T.W.n : Int)) := ⟨HQ.out.2.2.1.drew.keeps HH5.2 ⟨Nat.le_refl _, HQ.out.2.2.1.lt⟩, by have h5 := HH5.1.box.cell 1 _ rfl; rw [show (setW T (moveW T.W kk sj)).W.n = T.W.n from (move_n _ _ _).1] at h5; exact h5⟩))
        all_goals
          obtain ⟨H5, K5'⟩ := HH5
          have K5 : Keeps (fun k => w.heap.size ≤ k ∧ k < w4.heap.size) w4 w5 := ⟨K5'.os, K5'.tape, K5'.output, K5'.size, K5'.block⟩
          have FIN : DoneTo w G b M T ⟨5, ak, an, ad, ag⟩ sw w4 w5 := ⟨_, setW T (moveW T.W kk sj), by
            have e : (setW T (moveW T.W kk sj)) = setW T (moveW T.W (pickN ak T.W.c) (pickN an T.W.n)) := by rw [HKK.out.1, Hsj.out.1]
            exact e, H5, rfl, K5⟩
          clear hp5 H5 K5 K5' S0 S5 Y1 Y2 Y3 lbq laq
          go_wp2_with fail
          go_meet
          case rel => exact FIN
      · obtain ⟨sj, hsj⟩ : ∃ q, pickN ak T.W.n = q := ⟨_, rfl⟩
        have Hsj : Hid (pickN ak T.W.n = sj ∧ sj < T.W.n) := ⟨hsj, by rw [← hsj]; exact pickN_lt ak (by have := HN.out; omega)⟩
        have PT : Hid (∀ x : World, Calls Tryz.prog 64 #[.int .i64 ak, .int .i64 ((T.W.n : Nat) : Int)] x fun e w' => e = .returned (.int .i64 (sj : Int)) ∧ w' = x) := fun x => by
          have := pickN_any ak T.W.n (by have := HN.out; omega) (by have := HN.out; omega) x
          rw [hsj] at this
          exact this
        clear hsj
        obtain ⟨by_, hby_⟩ : ∃ q, pickN an 50 = q := ⟨_, rfl⟩
        have Hby_ : Hid (pickN an 50 = by_ ∧ by_ < 50) := ⟨hby_, by rw [← hby_]; exact pickN_lt an (by have := HN.out; omega)⟩
        have PU0 : Hid (∀ x : World, Calls Tryz.prog 64 #[.int .i64 an, .int .i64 ((50 : Nat) : Int)] x fun e w' => e = .returned (.int .i64 (by_ : Int)) ∧ w' = x) := fun x => by
          have := pickN_any an 50 (by have := HN.out; omega) (by have := HN.out; omega) x
          rw [hby_] at this
          exact this
        clear hby_
        have PU : Hid (∀ x : World, Calls Tryz.prog 64 #[.int .i64 an, .int .i64 50] x fun e w' => e = .returned (.int .i64 (by_ : Int)) ∧ w' = x) := PU0.out
        have RBq := HQ.out.1.box
        have lbq := RBq.lt
        have laq := HQ.out.2.2.1.lt
        have S0 : RowL w4.drew w.heap.size [.int .i64 6, .int .i64 ak, .int .i64 an, .string ad, .bool ag] ∧ w4.drew.cell? ⟨b, 1, none⟩ = some (.int .i64 (T.W.n : Int)) := ⟨HQ.out.2.2.1.drew, RBq.drew.cell 1 _ rfl⟩
        have Y1 := fun (w' : World) (h : RowL w' w.heap.size [.int .i64 6, .int .i64 ak, .int .i64 an, .string ad, .bool ag] ∧ w'.cell? ⟨b, 1, none⟩ = some (.int .i64 (T.W.n : Int))) => h.1.cell 1 _ rfl
        have Y2 := fun (w' : World) (h : RowL w' w.heap.size [.int .i64 6, .int .i64 ak, .int .i64 an, .string ad, .bool ag] ∧ w'.cell? ⟨b, 1, none⟩ = some (.int .i64 (T.W.n : Int))) => h.1.cell 2 _ rfl
        have Y3 := fun (w' : World) (h : RowL w' w.heap.size [.int .i64 6, .int .i64 ak, .int .i64 an, .string ad, .bool ag] ∧ w'.cell? ⟨b, 1, none⟩ = some (.int .i64 (T.W.n : Int))) => h.2
        go_wp2_with fail
        obtain ⟨Gv, PV, step⟩ := (HQ.out.1.later (Below.refl _ w4).drew).wo
        have CA : Hid (Calls Tryz.prog 42 #[.pointer (some ⟨M.wb, 0, none⟩), .int .i64 (sj : Int), .int .i64 (by_ : Int)] w4.drew fun e w' => (∃ ev, e = .returned (errV ev)) ∧ PWPo w4.drew M.wb Gv (goesW T.W sj by_) w') := (pw_goes w4.drew PV Hsj.out.2 (by omega) (by have := Hby_.out.2; omega) (HI.out.1.wall0 Hsj.out.2).1 (HI.out.1.wall0 Hsj.out.2).2).mono fun e w' ⟨h1, h2⟩ => ⟨⟨_, h1⟩, h2⟩
        have HST : Hid (∀ W' w', PWPo w4.drew M.wb Gv W' w' → W'.n = T.W.n → W'.c = T.W.c → TaAt w G b M (setW T W') (fun k => w.heap.size ≤ k ∧ k < w4.heap.size) w' ∧ Keeps (fun k => w.heap.size ≤ k ∧ k < w4.heap.size) w4.drew w') := step
        clear RBq PV step
        go_region_held3 (fun w' => RowL w' w.heap.size [.int .i64 6, .int .i64 ak, .int .i64 an, .string ad, .bool ag] ∧ w'.cell? ⟨b, 1, none⟩ = some (.int .i64 (T.W.n : Int))) (with_reducible assumption)
          (first
            | (go_at_call 64; (with_reducible refine (PT.out _).mono ?_); rintro e wq ⟨rfl, hwq⟩; have hwr := hwq.symm; clear hwq; subst hwr)
            | (go_at_call 64; (with_reducible refine (PU.out _).mono ?_); rintro e wq ⟨rfl, hwq⟩; have hwr := hwq.symm; clear hwq; subst hwr)
            | (go_at_call 42; (with_reducible refine CA.out.mono ?_); rintro e w5 ⟨⟨ev, rfl⟩, hp5⟩; have HH5 := HST.out _ _ hp5 rfl rfl; have S5 : RowL w5 w.heap.size [.int .i64 6, .int .i64 ak, .int .i64 an, .string ad, .bool ag] ∧ w5.cell? ⟨b, 1, none⟩ = some (.int .i64 (T.W.n : Int)) := ⟨HQ.out.2.2.1.drew.keeps HH5.2 ⟨Nat.le_refl _, HQ.out.2.2.1.lt⟩, by have h5 := HH5.1.box.cell 1 _ rfl; rw [show (setW T (goesW T.W sj by_)).W.n = T.W.n from rfl] at h5; exact h5⟩))
        all_goals
          obtain ⟨H5, K5'⟩ := HH5
          have K5 : Keeps (fun k => w.heap.size ≤ k ∧ k < w4.heap.size) w4 w5 := ⟨K5'.os, K5'.tape, K5'.output, K5'.size, K5'.block⟩
          have FIN : DoneTo w G b M T ⟨6, ak, an, ad, ag⟩ sw w4 w5 := ⟨_, setW T (goesW T.W sj by_), by
            have e : (setW T (goesW T.W sj by_)) = setW T (goesW T.W (pickN ak T.W.n) (pickN an 50 : Nat)) := by rw [Hsj.out.1, Hby_.out.1]
            exact e, H5, rfl, K5⟩
          clear hp5 H5 K5 K5' S0 S5 Y1 Y2 Y3 lbq laq
          go_wp2_with fail
          go_meet
          case rel => exact FIN
      · cases sw with
        | false =>
          have H5 := HQ.out.1
          have K5 := Keeps.refl (fun k => w.heap.size ≤ k ∧ k < w4.heap.size) w4
          have FIN : DoneTo w G b M T ⟨11, ak, an, ad, ag⟩ false w4 w4 := ⟨_, T, by
            have e : (T) = if false = true then setW T (sweepW T.W (pickN ak T.W.n)) else T := by rw [if_neg (by decide)]
            exact e, H5, rfl, K5⟩
          clear H5 K5
          go_wp2_with fail
          go_meet
          case rel => exact FIN
        | true =>
          obtain ⟨sj, hsj⟩ : ∃ q, pickN ak T.W.n = q := ⟨_, rfl⟩
          have Hsj : Hid (pickN ak T.W.n = sj ∧ sj < T.W.n) := ⟨hsj, by rw [← hsj]; exact pickN_lt ak (by have := HN.out; omega)⟩
          have PT : Hid (∀ x : World, Calls Tryz.prog 64 #[.int .i64 ak, .int .i64 ((T.W.n : Nat) : Int)] x fun e w' => e = .returned (.int .i64 (sj : Int)) ∧ w' = x) := fun x => by
            have := pickN_any ak T.W.n (by have := HN.out; omega) (by have := HN.out; omega) x
            rw [hsj] at this
            exact this
          clear hsj
          have RBq := HQ.out.1.box
          have lbq := RBq.lt
          have laq := HQ.out.2.2.1.lt
          have S0 : RowL w4.drew w.heap.size [.int .i64 11, .int .i64 ak, .int .i64 an, .string ad, .bool ag] ∧ w4.drew.cell? ⟨b, 1, none⟩ = some (.int .i64 (T.W.n : Int)) := ⟨HQ.out.2.2.1.drew, RBq.drew.cell 1 _ rfl⟩
          have Y1 := fun (w' : World) (h : RowL w' w.heap.size [.int .i64 11, .int .i64 ak, .int .i64 an, .string ad, .bool ag] ∧ w'.cell? ⟨b, 1, none⟩ = some (.int .i64 (T.W.n : Int))) => h.1.cell 1 _ rfl
          have Y2 := fun (w' : World) (h : RowL w' w.heap.size [.int .i64 11, .int .i64 ak, .int .i64 an, .string ad, .bool ag] ∧ w'.cell? ⟨b, 1, none⟩ = some (.int .i64 (T.W.n : Int))) => h.1.cell 2 _ rfl
          have Y3 := fun (w' : World) (h : RowL w' w.heap.size [.int .i64 11, .int .i64 ak, .int .i64 an, .string ad, .bool ag] ∧ w'.cell? ⟨b, 1, none⟩ = some (.int .i64 (T.W.n : Int))) => h.2
          go_wp2_with fail
          obtain ⟨Gv, PV, step⟩ := (HQ.out.1.later (Below.refl _ w4).drew).wo
          have CA : Hid (Calls Tryz.prog 52 #[.pointer (some ⟨M.wb, 0, none⟩), .int .i64 (sj : Int)] w4.drew fun e w' => (∃ ev, e = .returned (errV ev)) ∧ PWPo w4.drew M.wb Gv (sweepW T.W sj) w') := (pw_sweep w4.drew PV HI.out.1.wf Hsj.out.2).mono fun e w' ⟨h1, h2⟩ => ⟨⟨_, h1⟩, h2⟩
          have HST : Hid (∀ W' w', PWPo w4.drew M.wb Gv W' w' → W'.n = T.W.n → W'.c = T.W.c → TaAt w G b M (setW T W') (fun k => w.heap.size ≤ k ∧ k < w4.heap.size) w' ∧ Keeps (fun k => w.heap.size ≤ k ∧ k < w4.heap.size) w4.drew w') := step
          clear RBq PV step
          go_region_held3 (fun w' => RowL w' w.heap.size [.int .i64 11, .int .i64 ak, .int .i64 an, .string ad, .bool ag] ∧ w'.cell? ⟨b, 1, none⟩ = some (.int .i64 (T.W.n : Int))) (with_reducible assumption)
            (first
              | (go_at_call 64; (with_reducible refine (PT.out _).mono ?_); rintro e wq ⟨rfl, hwq⟩; have hwr := hwq.symm; clear hwq; subst hwr)
              | (go_at_call 52; (with_reducible refine CA.out.mono ?_); rintro e w5 ⟨⟨ev, rfl⟩, hp5⟩; have HH5 := HST.out _ _ hp5 rfl rfl; have S5 : RowL w5 w.heap.size [.int .i64 11, .int .i64 ak, .int .i64 an, .string ad, .bool ag] ∧ w5.cell? ⟨b, 1, none⟩ = some (.int .i64 (T.W.n : Int)) := ⟨HQ.out.2.2.1.drew.keeps HH5.2 ⟨Nat.le_refl _, HQ.out.2.2.1.lt⟩, by have h5 := HH5.1.box.cell 1 _ rfl; rw [show (setW T (sweepW T.W sj)).W.n = T.W.n from rfl] at h5; exact h5⟩))
          all_goals
            obtain ⟨H5, K5'⟩ := HH5
            have K5 : Keeps (fun k => w.heap.size ≤ k ∧ k < w4.heap.size) w4 w5 := ⟨K5'.os, K5'.tape, K5'.output, K5'.size, K5'.block⟩
            have FIN : DoneTo w G b M T ⟨11, ak, an, ad, ag⟩ true w4 w5 := ⟨_, setW T (sweepW T.W sj), by
              have e : (setW T (sweepW T.W sj)) = if true = true then setW T (sweepW T.W (pickN ak T.W.n)) else T := by rw [if_pos rfl, Hsj.out.1]
              exact e, H5, rfl, K5⟩
            clear hp5 H5 K5 K5' S0 S5 Y1 Y2 Y3 lbq laq
            go_wp2_with fail
            go_meet
            case rel => exact FIN

end Go.Proofs.YtemiamjnhoeniaaGreatDoor

