/-
  What a client reads is looked at (copsekeep's tale.reads), as the model runs it.
-/
import Derived.Test.YtemiamjnhoeniaaGreatDoorSiteJ
import Derived.Test.YtemiamjnhoeniaaGreatDoorTaLast
import Derived.Test.YtemiamjnhoeniaaGreatDoorWoL
import Derived.Test.YtemiamjnhoeniaaGreatDoorPSesB
import Derived.Test.YtemiamjnhoeniaaGreatDoorTellB
namespace Go.Proofs.YtemiamjnhoeniaaGreatDoor
open Go.RowKit

theorem vecs2_is (w : World) (p0 p1 p2 p3 s0 s1 s2 s3 : Int) : ∃ W, (w.alloc (.cells #[.int .i64 p0, .int .i64 p1, .int .i64 p2, .int .i64 p3] 47)).alloc (.cells #[.int .i64 s0, .int .i64 s1, .int .i64 s2, .int .i64 s3] 47) = W ∧ Below w.heap.size w W ∧ RowL W w.heap.size [.int .i64 p0, .int .i64 p1, .int .i64 p2, .int .i64 p3] ∧ RowL W (w.heap.size + 1) [.int .i64 s0, .int .i64 s1, .int .i64 s2, .int .i64 s3] ∧ W.heap.size = w.heap.size + 2 :=
  ⟨_, rfl, boxed (boxed (Below.refl _ w) _) _, (RowL.new (w := w) (T := 47) [.int .i64 p0, .int .i64 p1, .int .i64 p2, .int .i64 p3] rfl).boxed _, RowL.new (T := 47) [.int .i64 s0, .int .i64 s1, .int .i64 s2, .int .i64 s3] (by simp), by simp⟩
set_option maxRecDepth 100000 in
set_option maxHeartbeats 16000000 in
theorem tareads_any {b : Nat} {G : Nat → Prop} {base : Nat → V4} {Tg T : TaleS} {m : Nat} (w : World) (h : TA w b G T) (hI : TI base Tg T m) {k key : Nat} (hk : k < T.W.c) (h8 : key < 8) (hg : w.cell? ⟨0, 0, none⟩ = some (.iface 209 (.agg #[.pointer (some ⟨1, 25, none⟩)]))) :
    Calls Tryz.prog 22 #[.pointer (some ⟨b, 0, none⟩), .int .i64 k, .int .i64 key] w fun e w' => e = .returned (.bool true) ∧ Below w.heap.size w w' := by
  obtain ⟨M, hT⟩ := h.start
  obtain ⟨Gw, PW0, _⟩ := hT.wo
  have RB := hT.box
  have HT : Hid (TaAt w G b M T NoY w ∧ PW w M.wb Gw T.W ∧ TI base Tg T m ∧ w.cell? ⟨0, 0, none⟩ = some (.iface 209 (.agg #[.pointer (some ⟨1, 25, none⟩)]))) := ⟨hT, PW0, hI, hg⟩
  have hkg : k < Tg.W.c := by rw [← hI.sim.c]; exact hk
  have CL := pw_client w PW0 hk
  have k0 := RB.cell 0 _ rfl
  obtain ⟨⟨p0, p1, p2, p3, opn, s0, s1, s2, s3, ws⟩, hses⟩ : ∃ s, T.W.ses k = s := ⟨_, rfl⟩
  have HS : Hid (T.W.ses k = ⟨p0, p1, p2, p3, opn, s0, s1, s2, s3, ws⟩) := hses
  rw [hses] at CL
  simp only at CL
  clear h hI hT PW0 hg hses
  go_enter Tryz.func22, Tryz.ntmps22
  go_wp2_with fail
  refine CL.mono ?_
  rintro e w1 ⟨rfl, hb1⟩
  clear CL
  have k1 := cell_later hb1 k0
  have hl1 := (RB.later hb1).lt
  go_wp2_with fail
  obtain ⟨W2, hW2, hb2, RP, RS, _⟩ := vecs2_is w1 p0 p1 p2 p3 s0 s1 s2 s3
  rw [hW2]
  clear hW2
  have hb12 := behind hb1 hb2
  have RD := pw_read (i := k) (key : Int) (WalkArith.wf_i64 ⟨by omega, by omega⟩) W2 (HT.out.2.1.later hb12) HT.out.2.2.1.wf hk
  obtain ⟨⟨rd, re⟩, hrd⟩ : ∃ x, sreadV (T.W.S (T.W.at_ k)) (T.W.ses k) (key : Int) = x := ⟨_, rfl⟩
  rw [hrd] at RD
  simp only at RD
  clear k0 k1 hl1
  refine RD.mono ?_
  rintro e w3 ⟨rfl, hb3⟩
  have hb13 := behind hb12 hb3
  cases opn with
  | false =>
    have e1 : (rd, re) = ((⟨#[]⟩ : ByteArray), (6 : Int)) := by rw [← hrd]; unfold sreadV; rw [HS.out]; rfl
    injection e1 with e1 e2
    subst e1 e2
    have TE := tell_errno 6 w3 (cell_later hb13 HT.out.2.2.2)
    rw [show errV 6 = .iface 29 (.int .i64 6) from rfl]
    clear RD hrd
    go_wp2_with fail
    refine TE.mono ?_
    rintro e w4 ⟨rfl, hb4⟩
    clear TE
    go_wp2_with fail
    go_ret
    exact ⟨rfl, behind hb13 hb4⟩
  | true =>
    obtain ⟨ta, tc, htv, hTx, hal, hWr⟩ := (HT.out.1.later hb13).txs
    have RB3 := (HT.out.1.later hb13).box
    have c3 := RB3.cell 3 _ rfl
    rw [htv] at c3
    have HH : Hist Tg.H := HT.out.2.2.1.gi.hist
    have LA := talast_any (key : Int) s0 s1 s2 s3 w3 c3 hTx hWr (fun x hx => by
      have : x.t ∈ Tg.H := by rw [← HT.out.2.2.1.eH, ← hal]; exact List.mem_map.2 ⟨x, hx, rfl⟩
      exact HH.site this)
    rw [hal] at LA
    have ER : (rd, re) = match ownW (T.own k) (key : Int) with
      | some x => if x.gone = true then ((⟨#[]⟩ : ByteArray), (8 : Int)) else (x.data, 0)
      | none => if (lastT T.H (key : Int) s0 s1 s2 s3).2 = true then ((lastT T.H (key : Int) s0 s1 s2 s3).1, 0) else (⟨#[]⟩, 8) := by
      rw [← hrd, HT.out.2.2.1.reads hkg (by rw [HS.out]) (by omega) (by omega), HS.out]
      rfl
    obtain ⟨⟨ld, lk⟩, hld⟩ : ∃ x, lastT T.H (key : Int) s0 s1 s2 s3 = x := ⟨_, rfl⟩
    rw [hld] at LA ER
    simp only at LA ER
    have s0_ := (RS.later hb3).cell 0 _ rfl
    have s1_ := (RS.later hb3).cell 1 _ rfl
    have s2_ := (RS.later hb3).cell 2 _ rfl
    have s3_ := (RS.later hb3).cell 3 _ rfl
    clear RD hrd hld hTx hal hWr htv c3 HH
    go_wp2_with fail
    refine LA.mono ?_
    rintro e w4 ⟨rfl, hb4⟩
    have hb14 := behind hb13 hb4
    obtain ⟨ob, oc, hov, hoc, hol, m0, hM⟩ := (HT.out.1.later hb14).maps hk
    have RB4 := (HT.out.1.later hb14).box
    have c4 := RB4.cell 4 _ rfl
    rw [hov] at c4
    have q1 : (k : Int) < (T.W.c : Int) := by omega
    have KEY : Hid (keyOf Tryz.prog 3 (.int .i64 (key : Int)) = some (.int .i64 (key : Int))) := intKeyW (WalkArith.wf_i64 ⟨by omega, by omega⟩)
    obtain ⟨D, own0, h1, h2⟩ := hM.look (key : Int)
    clear LA s0_ s1_ s2_ s3_ hov hM RB3 RB4 RP RS
    cases hw : ownW (T.own k) (key : Int) with
    | none =>
      have e0 : ownOr (T.own k) (key : Int) = ⟨0, ⟨#[]⟩, false⟩ := by unfold ownOr; rw [hw]; rfl
      rw [hw] at h1 ER
      rw [e0] at h2
      simp only at ER
      have H1 : Hid (Maps.has D (.int .i64 (key : Int)) = false) := h1
      have H2 : Hid (D.atKey (.int .i64 (key : Int)) (.held wrV0) = .held (.agg #[.int .i64 0, .string ⟨#[]⟩, .bool false])) := h2
      have hb5 := boxed (Below.refl _ w4) (.cells #[.int .i64 0, .string ⟨#[]⟩, .bool false] 34)
      have hb15 := behind hb14 hb5
      clear e0 h1 h2 hw
      cases lk with
      | true =>
        rw [if_pos rfl] at ER
        injection ER with e1 e2
        subst e1 e2
        rw [show errV 0 = .nilIface from rfl]
        go_wp2_with (at_lookup; refine wpList_lookW _ rfl _ _ rfl (u := .agg #[.int .i64 0, .string ⟨#[]⟩, .bool false]) rfl own0 rfl KEY.out H1.out H2.out ?_)
        go_ret
        exact ⟨by simp, hb15⟩
      | false =>
        rw [if_neg (by decide)] at ER
        injection ER with e1 e2
        subst e1 e2
        have TE := tell_errno 8 _ (cell_later hb15 HT.out.2.2.2)
        rw [show errV 8 = .iface 29 (.int .i64 8) from rfl]
        go_wp2_with (at_lookup; refine wpList_lookW _ rfl _ _ rfl (u := .agg #[.int .i64 0, .string ⟨#[]⟩, .bool false]) rfl own0 rfl KEY.out H1.out H2.out ?_)
        refine TE.mono ?_
        rintro e w6 ⟨rfl, hb6⟩
        clear TE
        go_wp2_with fail
        go_ret
        exact ⟨by simp, behind hb15 hb6⟩
    | some x =>
      obtain ⟨xk, xd, xg⟩ := x
      have e0 : ownOr (T.own k) (key : Int) = ⟨xk, xd, xg⟩ := by unfold ownOr; rw [hw]; rfl
      rw [hw] at h1 ER
      rw [e0] at h2
      simp only at ER
      have H1 : Hid (Maps.has D (.int .i64 (key : Int)) = true) := h1
      have H2 : Hid (D.atKey (.int .i64 (key : Int)) (.held wrV0) = .held (.agg #[.int .i64 xk, .string xd, .bool xg])) := h2
      have hb5 := boxed (Below.refl _ w4) (.cells #[.int .i64 xk, .string xd, .bool xg] 34)
      have hb15 := behind hb14 hb5
      have hne := Later.one
      have RX := RowL.new (w := w4) (T := 34) [.int .i64 xk, .string xd, .bool xg] rfl
      have x1 := Later.cell (RX.cell 1 _ rfl)
      have x2 := Later.cell (RX.cell 2 _ rfl)
      clear e0 h1 h2 hw
      cases xg with
      | true =>
        rw [if_pos rfl] at ER
        injection ER with e1 e2
        subst e1 e2
        rw [show errV 8 = .iface 29 (.int .i64 8) from rfl]
        go_wp2_with (at_lookup; refine wpList_lookW _ rfl _ _ rfl (u := .agg #[.int .i64 xk, .string xd, .bool true]) rfl own0 rfl KEY.out H1.out H2.out ?_)
        refine wp_region_later (by kernel_rfl) (by kernel_rfl) ?_
        repeat (go_big_quiet_step (first | rfl | fail))
        refine wpQuiet_nil ?_
        rintro w5 ⟨⟨_, hb6⟩, rfl⟩
        have hb16 := behind hb15 hb6
        have TE := tell_errno 8 _ (cell_later hb16 HT.out.2.2.2)
        clear x1 x2 RX own0
        go_wp2_with fail
        refine TE.mono ?_
        rintro e w7 ⟨rfl, hb7⟩
        clear TE
        go_wp2_with fail
        go_ret
        exact ⟨by simp, behind hb16 hb7⟩
      | false =>
        rw [if_neg (by decide)] at ER
        injection ER with e1 e2
        subst e1 e2
        rw [show errV 0 = .nilIface from rfl]
        go_wp2_with (at_lookup; refine wpList_lookW _ rfl _ _ rfl (u := .agg #[.int .i64 xk, .string rd, .bool false]) rfl own0 rfl KEY.out H1.out H2.out ?_)
        refine wp_region_later (by kernel_rfl) (by kernel_rfl) ?_
        repeat (go_big_quiet_step (first | rfl | fail))
        refine wpQuiet_nil ?_
        rintro w5 ⟨⟨_, hb6⟩, rfl⟩
        clear x1 x2 RX own0
        go_wp2_with fail
        go_ret
        exact ⟨by simp, behind hb15 hb6⟩

end Go.Proofs.YtemiamjnhoeniaaGreatDoor

