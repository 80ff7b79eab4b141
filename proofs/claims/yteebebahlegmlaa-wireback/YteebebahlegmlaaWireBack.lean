/-
  'copsekeep.WireBack': the walk: the law returns true, whatever the transaction, the site, the vector and the cut are; nothing that was there is written.
-/
import Derived.Test.YteebebahlegmlaaBack0
namespace Go.Proofs.Yteebebahlegmlaa
open Go.RowKit

theorem encAsk_bad {site a0 a1 a2 a3 : Int} (h : AskV.ok ⟨site, a0, a1, a2, a3⟩ = false) (w : World) :
    Calls Try.prog 27 #[.int .i64 site, .agg #[.int .i64 a0, .int .i64 a1, .int .i64 a2, .int .i64 a3]] w fun e w' => e = .returned (.tuple #[.slice none 0 0, .iface 56 (.int .i64 1)]) ∧ Below w.heap.size w w' := by
  cases h1 : inB site 0 3
  · exact encAsk_arg1 site a0 a1 a2 a3 w h1
  · cases h2 : timesB a0 a1 a2 a3
    · exact encAsk_arg2 site a0 a1 a2 a3 w h1 h2
    · simp [AskV.ok, h1, h2] at h
theorem encAsk_good {site a0 a1 a2 a3 : Int} (h : AskV.ok ⟨site, a0, a1, a2, a3⟩ = true) (w : World) :
    Calls Try.prog 27 #[.int .i64 site, .agg #[.int .i64 a0, .int .i64 a1, .int .i64 a2, .int .i64 a3]] w fun e w' => ∃ S g cp, e = .returned (.tuple #[.slice (some ⟨g, 0, none⟩) S.size cp, .nilIface]) ∧ (GoodAsk (toL S) ⟨site, a0, a1, a2, a3⟩ ∧ 0 < S.size) ∧ S.size ≤ 1000000 ∧ Own w' w.heap.size g cp S ∧ Below w.heap.size w w' := by
  have h' : inB site 0 3 = true ∧ timesB a0 a1 a2 a3 = true := by simpa [AskV.ok] using h
  refine (encAsk_ok site a0 a1 a2 a3 w h'.1 h'.2).mono fun e w' ⟨S, g, cp, he, hS, O, hb⟩ => ⟨S, g, cp, he, ⟨⟨h, by rw [hS]; rfl⟩, ?_⟩, ?_, O, hb⟩
  · rw [hS, ← toL_length, askS_toL]
    simp [askL]
  · rw [hS]
    have q0 := numS_size 5 site
    have q1 := numS_size 5 a0
    have q2 := numS_size 5 a1
    have q3 := numS_size 5 a2
    have q4 := numS_size 5 a3
    have z : (⟨#[97]⟩ : ByteArray).size = 1 := rfl
    simp only [askS, ByteArray.size_append]
    omega
theorem encTx_good {site seq wall count d0 d1 d2 d3 : Int} {a : Option Addr} {cap : Nat} {l : List Wr} {w : World} (hW : WrIn w a cap l) (h : okTx site seq wall count d0 d1 d2 d3 l = true) :
    Calls Try.prog 22 #[.agg #[.int .i64 site, .int .i64 seq, .int .i64 wall, .int .i64 count, .int .i64 d0, .int .i64 d1, .int .i64 d2, .int .i64 d3, .slice a l.length cap]] w fun e w' => ∃ S g cp, e = .returned (.tuple #[.slice (some ⟨g, 0, none⟩) S.size cp, .nilIface]) ∧ (Good (toL S) ⟨site, seq, wall, count, d0, d1, d2, d3, l⟩ ∧ 0 < S.size) ∧ S.size ≤ 1000000 ∧ Own w' w.heap.size g cp S ∧ Below w.heap.size w w' := by
  refine (encTx_ok site seq wall count d0 d1 d2 d3 a cap l w hW h).mono fun e w' ⟨S, g, cp, he, hS, O, hb⟩ => ⟨S, g, cp, he, ⟨⟨h, by rw [hS]; rfl⟩, ?_⟩, ?_, O, hb⟩
  · rw [hS, ← toL_length, txS_toL]
    simp [headL]
  · have hok := (ok_parts (x := ⟨site, seq, wall, count, d0, d1, d2, d3, l⟩) h).2.2.2.2.2.2.2.2
    have hlen := okWs_len hok
    simp only at hlen
    have q1 := wrS_size (s := headS site seq wall count d0 d1 d2 d3 l.length) (okWs_each hok) l.length (Nat.le_refl _)
    have q2 := headS_size site seq wall count d0 d1 d2 d3 l.length
    rw [List.take_length] at q1
    rw [hS]
    unfold txS
    omega

set_option maxHeartbeats 8000000 in
theorem back_true (site seq wall count d0 d1 d2 d3 : Int) (a : Option Addr) (cap : Nat) (l : List Wr) (at_ a0 a1 a2 a3 cut : Int) (w : World) (hW : WrIn w a cap l) :
    Calls Try.prog 6 #[.agg #[.int .i64 site, .int .i64 seq, .int .i64 wall, .int .i64 count, .int .i64 d0, .int .i64 d1, .int .i64 d2, .int .i64 d3, .slice a l.length cap], .int .i64 at_, .agg #[.int .i64 a0, .int .i64 a1, .int .i64 a2, .int .i64 a3], .int .i64 cut] w fun e w' => e = .returned (.bool true) ∧ Below w.heap.size w w' := by
  have eqv := eqVecB
  have sm := same4_self
  have R1 := (RowL.new (w := w) (T := 41) [.int .i64 site, .int .i64 seq, .int .i64 wall, .int .i64 count, .int .i64 d0, .int .i64 d1, .int .i64 d2, .int .i64 d3, .slice a l.length cap] rfl).boxed (.cells #[.int .i64 a0, .int .i64 a1, .int .i64 a2, .int .i64 a3] 34)
  have RA := RowL.new (w := w.alloc (.cells #[.int .i64 site, .int .i64 seq, .int .i64 wall, .int .i64 count, .int .i64 d0, .int .i64 d1, .int .i64 d2, .int .i64 d3, .slice a l.length cap] 41)) (T := 34) (n := w.heap.size + 1) [.int .i64 a0, .int .i64 a1, .int .i64 a2, .int .i64 a3] (by simp)
  have hb := boxed (boxed (Below.refl _ w) (.cells #[.int .i64 site, .int .i64 seq, .int .i64 wall, .int .i64 count, .int .i64 d0, .int .i64 d1, .int .i64 d2, .int .i64 d3, .slice a l.length cap] 41)) (.cells #[.int .i64 a0, .int .i64 a1, .int .i64 a2, .int .i64 a3] 34)
  have c8 := R1.cell 8 _ rfl
  by_cases h10 : 10 < (l.length : Int)
  · go_enter Try.func6, Try.ntmps6
    go_wp2_with fail
    go_ret
    exact ⟨rfl, hb⟩
  · go_enter Try.func6, Try.ntmps6
    go_wp2_with fail
    obtain ⟨W, hWW⟩ : ∃ W, ((w.alloc (.cells #[.int .i64 site, .int .i64 seq, .int .i64 wall, .int .i64 count, .int .i64 d0, .int .i64 d1, .int .i64 d2, .int .i64 d3, .slice a l.length cap] 41)).alloc (.cells #[.int .i64 a0, .int .i64 a1, .int .i64 a2, .int .i64 a3] 34)) = W := ⟨_, rfl⟩
    replace hW := hW.later hb
    rw [hWW] at R1 RA hb c8 hW ⊢
    clear hWW
    go_loopw [9] (fun iv wr => wr = W ∧ ∃ (k : Nat) (z : Int), k ≤ l.length ∧ z = k ∧ iv = .int .i64 z) (fun i _ => l.length - (intOf i).toNat)
    case atStart => exact ⟨rfl, 0, 0, by omega, rfl, rfl⟩
    case round =>
      obtain ⟨rfl, k, z, hk, hz, rfl⟩ := hrel
      by_cases hlt : k < l.length
      · obtain ⟨b, off, rfl, C⟩ : ∃ b off, a = some ⟨b, off, none⟩ ∧ WrCells wr b off l := by
          rcases hW.held with h0 | h0
          · rw [h0] at hlt; simp at hlt
          · exact h0
        obtain ⟨x0, x1, x2⟩ := C k hlt
        have h1 : z < (l.length : Int) := by omega
        have h2 : z.toNat = k := by omega
        have h3 : 0 ≤ z := by omega
        have HZ : Hid (z = k) := hz
        clear hz
        by_cases h5 : 100 < ((wrAt l k).data.size : Int)
        · go_wp2_with fail
          go_ret
          exact ⟨rfl, hb⟩
        · go_wp2_with fail
          go_roundw
          case rel => exact ⟨by trivial, k + 1, z + 1, by omega, by have := HZ.out; omega, by go_num⟩
          case measure => simp [intOf]; omega
      · have h4 : ¬ z < (l.length : Int) := by omega
        clear hz
        go_wp2_with fail
        refine (sent_any _).mono ?_
        rintro e w1 ⟨rfl, hb1⟩
        replace R1 := R1.later hb1
        replace RA := RA.later hb1
        replace hW := hW.later hb1
        replace hb := behind hb hb1
        clear hb1 c8
        cases ho : okTx site seq wall count d0 d1 d2 d3 l
        · have HO : Hid (okTx site seq wall count d0 d1 d2 d3 l = false) := ho
          clear ho
          have c0 := R1.cell 0 _ rfl
          have c1 := R1.cell 1 _ rfl
          have c2 := R1.cell 2 _ rfl
          have c3 := R1.cell 3 _ rfl
          have c4 := R1.cell 4 _ rfl
          have c5 := R1.cell 5 _ rfl
          have c6 := R1.cell 6 _ rfl
          have c7 := R1.cell 7 _ rfl
          have c8 := R1.cell 8 _ rfl
          go_wp2_with fail
          refine (encTx_arg site seq wall count d0 d1 d2 d3 a cap l _ hW HO.out).mono ?_
          rintro e w2 ⟨rfl, hb2⟩
          replace RA := RA.later hb2
          replace hb := behind hb hb2
          clear hb2 c0 c1 c2 c3 c4 c5 c6 c7 c8 R1
          cases ha : AskV.ok ⟨at_, a0, a1, a2, a3⟩
          · have HA : Hid (AskV.ok ⟨at_, a0, a1, a2, a3⟩ = false) := ha
            clear ha
            have k0 := RA.cell 0 _ rfl
            have k1 := RA.cell 1 _ rfl
            have k2 := RA.cell 2 _ rfl
            have k3 := RA.cell 3 _ rfl
            go_wp2_with fail
            refine (encAsk_bad HA.out _).mono ?_
            rintro e wz ⟨rfl, hbz⟩
            go_wp2_with fail
            go_ret
            exact ⟨rfl, behind hb hbz⟩
          · have HA : Hid (AskV.ok ⟨at_, a0, a1, a2, a3⟩ = true) := ha
            clear ha
            have k0 := RA.cell 0 _ rfl
            have k1 := RA.cell 1 _ rfl
            have k2 := RA.cell 2 _ rfl
            have k3 := RA.cell 3 _ rfl
            go_wp2_with fail
            refine (encAsk_good HA.out _).mono ?_
            rintro e wz ⟨Q, g, cp, rfl, GQ0, hz0, O, hbz⟩
            have GQ : Hid (GoodAsk (toL Q) ⟨at_, a0, a1, a2, a3⟩ ∧ 0 < Q.size) := GQ0
            have hz : Q.size ≤ 1000000 := hz0
            have hz1 : 0 < Q.size := GQ0.2
            replace RA := RA.later hbz
            replace hb := behind hb hbz
            clear hbz k0 k1 k2 k3 GQ0 hz0
            go_wp2_with fail
            refine (decAsk_good GQ.out.1 (some ⟨g, 0, none⟩) Q.size cp (toL_length Q) _ O.all O.room hz).mono ?_
            rintro e wy ⟨rfl, hby⟩
            replace O := (O.later hby).alloc (.cells #[.int .i64 a0, .int .i64 a1, .int .i64 a2, .int .i64 a3] 34)
            replace RA := (RA.later hby).boxed (.cells #[.int .i64 a0, .int .i64 a1, .int .i64 a2, .int .i64 a3] 34)
            have RB := RowL.new (w := wy) (T := 34) [.int .i64 a0, .int .i64 a1, .int .i64 a2, .int .i64 a3] rfl
            replace hb := boxed (behind hb hby) (.cells #[.int .i64 a0, .int .i64 a1, .int .i64 a2, .int .i64 a3] 34)
            clear hby
            go_wp2_with fail
            refine (pick_any cut Q.size hz1 hz _).mono ?_
            rintro e wx ⟨r, rfl, hr, rfl⟩
            have hrc : r ≤ cp := by have := O.room; omega
            have hrm : (r : Int) ≤ cp := by omega
            go_wp2_with fail
            refine (decAsk_bad (cut_ask GQ.out.1 (by rw [toL_length]; exact hr)) (some ⟨g, 0, none⟩) r cp (by rw [List.length_take, toL_length]; omega) _ (O.bytes r) hrc (by omega)).mono ?_
            rintro e wv ⟨rfl, hbv⟩
            replace O := (O.later hbv).alloc (.cells #[.int .i64 0, .int .i64 0, .int .i64 0, .int .i64 0] 34)
            replace RA := (RA.later hbv).boxed (.cells #[.int .i64 0, .int .i64 0, .int .i64 0, .int .i64 0] 34)
            replace RB := (RB.later hbv).boxed (.cells #[.int .i64 0, .int .i64 0, .int .i64 0, .int .i64 0] 34)
            replace hb := boxed (behind hb hbv) (.cells #[.int .i64 0, .int .i64 0, .int .i64 0, .int .i64 0] 34)
            clear hbv
            go_wp2_with fail
            refine (decTx_bad (fun x hx => tx_not_ask hx GQ.out.1) (some ⟨g, 0, none⟩) Q.size cp (toL_length Q) _ O.all O.room hz).mono ?_
            rintro e wu ⟨rfl, hbu⟩
            replace RA := (RA.later hbu).boxed (.cells #[.int .i64 0, .int .i64 0, .int .i64 0, .int .i64 0, .int .i64 0, .int .i64 0, .int .i64 0, .int .i64 0, .slice none 0 0] 41)
            replace RB := (RB.later hbu).boxed (.cells #[.int .i64 0, .int .i64 0, .int .i64 0, .int .i64 0, .int .i64 0, .int .i64 0, .int .i64 0, .int .i64 0, .slice none 0 0] 41)
            replace hb := boxed (behind hb hbu) (.cells #[.int .i64 0, .int .i64 0, .int .i64 0, .int .i64 0, .int .i64 0, .int .i64 0, .int .i64 0, .int .i64 0, .slice none 0 0] 41)
            clear hbu
            have k0 := RA.cell 0 _ rfl
            have m0 := RB.cell 0 _ rfl
            have k1 := RA.cell 1 _ rfl
            have m1 := RB.cell 1 _ rfl
            have k2 := RA.cell 2 _ rfl
            have m2 := RB.cell 2 _ rfl
            have k3 := RA.cell 3 _ rfl
            have m3 := RB.cell 3 _ rfl
            go_wp2_with fail
            go_ret
            exact ⟨rfl, hb⟩
        · have HO : Hid (okTx site seq wall count d0 d1 d2 d3 l = true) := ho
          clear ho
          have c0 := R1.cell 0 _ rfl
          have c1 := R1.cell 1 _ rfl
          have c2 := R1.cell 2 _ rfl
          have c3 := R1.cell 3 _ rfl
          have c4 := R1.cell 4 _ rfl
          have c5 := R1.cell 5 _ rfl
          have c6 := R1.cell 6 _ rfl
          have c7 := R1.cell 7 _ rfl
          have c8 := R1.cell 8 _ rfl
          go_wp2_with fail
          refine (encTx_good hW HO.out).mono ?_
          rintro e w2 ⟨S, g, cp, rfl, GD0, hz0, O, hb2⟩
          have GD : Hid (Good (toL S) ⟨site, seq, wall, count, d0, d1, d2, d3, l⟩ ∧ 0 < S.size) := GD0
          have hz : S.size ≤ 1000000 := hz0
          have hz1 : 0 < S.size := GD0.2
          replace R1 := R1.later hb2
          replace RA := RA.later hb2
          replace hW := hW.later hb2
          replace hb := behind hb hb2
          clear hb2 GD0 hz0 c0 c1 c2 c3 c4 c5 c6 c7 c8
          go_wp2_with fail
          refine (decTx_good GD.out.1 (some ⟨g, 0, none⟩) S.size cp (toL_length S) _ O.all O.room hz).mono ?_
          rintro e w3 ⟨aX, capX, rfl, WX, hb3⟩
          replace O := (O.later hb3).alloc (.cells #[.int .i64 site, .int .i64 seq, .int .i64 wall, .int .i64 count, .int .i64 d0, .int .i64 d1, .int .i64 d2, .int .i64 d3, .slice aX l.length capX] 41)
          replace R1 := (R1.later hb3).boxed (.cells #[.int .i64 site, .int .i64 seq, .int .i64 wall, .int .i64 count, .int .i64 d0, .int .i64 d1, .int .i64 d2, .int .i64 d3, .slice aX l.length capX] 41)
          replace RA := (RA.later hb3).boxed (.cells #[.int .i64 site, .int .i64 seq, .int .i64 wall, .int .i64 count, .int .i64 d0, .int .i64 d1, .int .i64 d2, .int .i64 d3, .slice aX l.length capX] 41)
          have RX := RowL.new (w := w3) (T := 41) [.int .i64 site, .int .i64 seq, .int .i64 wall, .int .i64 count, .int .i64 d0, .int .i64 d1, .int .i64 d2, .int .i64 d3, .slice aX l.length capX] rfl
          replace hW := (hW.later hb3).later (boxed (Below.refl _ w3) (.cells #[.int .i64 site, .int .i64 seq, .int .i64 wall, .int .i64 count, .int .i64 d0, .int .i64 d1, .int .i64 d2, .int .i64 d3, .slice aX l.length capX] 41))
          replace WX := WX.later (boxed (Below.refl _ w3) (.cells #[.int .i64 site, .int .i64 seq, .int .i64 wall, .int .i64 count, .int .i64 d0, .int .i64 d1, .int .i64 d2, .int .i64 d3, .slice aX l.length capX] 41))
          replace hb := boxed (behind hb hb3) (.cells #[.int .i64 site, .int .i64 seq, .int .i64 wall, .int .i64 count, .int .i64 d0, .int .i64 d1, .int .i64 d2, .int .i64 d3, .slice aX l.length capX] 41)
          clear hb3
          go_wp2_with fail
          refine (pick_any cut S.size hz1 hz _).mono ?_
          rintro e w4 ⟨r, rfl, hr, rfl⟩
          have hrc : r ≤ cp := by have := O.room; omega
          have hrm : (r : Int) ≤ cp := by omega
          go_wp2_with fail
          refine (decTx_bad (cut_tx GD.out.1 (by rw [toL_length]; exact hr)) (some ⟨g, 0, none⟩) r cp (by rw [List.length_take, toL_length]; omega) _ (O.bytes r) hrc (by omega)).mono ?_
          rintro e w5 ⟨rfl, hb5⟩
          replace O := (O.later hb5).alloc (.cells #[.int .i64 0, .int .i64 0, .int .i64 0, .int .i64 0, .int .i64 0, .int .i64 0, .int .i64 0, .int .i64 0, .slice none 0 0] 41)
          replace R1 := (R1.later hb5).boxed (.cells #[.int .i64 0, .int .i64 0, .int .i64 0, .int .i64 0, .int .i64 0, .int .i64 0, .int .i64 0, .int .i64 0, .slice none 0 0] 41)
          replace RA := (RA.later hb5).boxed (.cells #[.int .i64 0, .int .i64 0, .int .i64 0, .int .i64 0, .int .i64 0, .int .i64 0, .int .i64 0, .int .i64 0, .slice none 0 0] 41)
          replace RX := (RX.later hb5).boxed (.cells #[.int .i64 0, .int .i64 0, .int .i64 0, .int .i64 0, .int .i64 0, .int .i64 0, .int .i64 0, .int .i64 0, .slice none 0 0] 41)
          replace hW := (hW.later hb5).later (boxed (Below.refl _ w5) (.cells #[.int .i64 0, .int .i64 0, .int .i64 0, .int .i64 0, .int .i64 0, .int .i64 0, .int .i64 0, .int .i64 0, .slice none 0 0] 41))
          replace WX := (WX.later hb5).later (boxed (Below.refl _ w5) (.cells #[.int .i64 0, .int .i64 0, .int .i64 0, .int .i64 0, .int .i64 0, .int .i64 0, .int .i64 0, .int .i64 0, .slice none 0 0] 41))
          replace hb := boxed (behind hb hb5) (.cells #[.int .i64 0, .int .i64 0, .int .i64 0, .int .i64 0, .int .i64 0, .int .i64 0, .int .i64 0, .int .i64 0, .slice none 0 0] 41)
          clear hb5
          go_wp2_with fail
          refine (decAsk_bad (fun x hx => tx_not_ask GD.out.1 hx) (some ⟨g, 0, none⟩) S.size cp (toL_length S) _ O.all O.room hz).mono ?_
          rintro e w6 ⟨rfl, hb6⟩
          replace R1 := (R1.later hb6).boxed (.cells #[.int .i64 0, .int .i64 0, .int .i64 0, .int .i64 0] 34)
          replace RA := (RA.later hb6).boxed (.cells #[.int .i64 0, .int .i64 0, .int .i64 0, .int .i64 0] 34)
          replace RX := (RX.later hb6).boxed (.cells #[.int .i64 0, .int .i64 0, .int .i64 0, .int .i64 0] 34)
          replace hW := (hW.later hb6).later (boxed (Below.refl _ w6) (.cells #[.int .i64 0, .int .i64 0, .int .i64 0, .int .i64 0] 34))
          replace WX := (WX.later hb6).later (boxed (Below.refl _ w6) (.cells #[.int .i64 0, .int .i64 0, .int .i64 0, .int .i64 0] 34))
          replace hb := boxed (behind hb hb6) (.cells #[.int .i64 0, .int .i64 0, .int .i64 0, .int .i64 0] 34)
          clear hb6 O
          have c0 := R1.cell 0 _ rfl
          have e0 := RX.cell 0 _ rfl
          have c1 := R1.cell 1 _ rfl
          have e1 := RX.cell 1 _ rfl
          have c2 := R1.cell 2 _ rfl
          have e2 := RX.cell 2 _ rfl
          have c3 := R1.cell 3 _ rfl
          have e3 := RX.cell 3 _ rfl
          have c4 := R1.cell 4 _ rfl
          have e4 := RX.cell 4 _ rfl
          have c5 := R1.cell 5 _ rfl
          have e5 := RX.cell 5 _ rfl
          have c6 := R1.cell 6 _ rfl
          have e6 := RX.cell 6 _ rfl
          have c7 := R1.cell 7 _ rfl
          have e7 := RX.cell 7 _ rfl
          have c8 := R1.cell 8 _ rfl
          have e8 := RX.cell 8 _ rfl
          go_wp2_with fail
          refine (same_any site seq wall count d0 d1 d2 d3 _ _ _ _ l _ WX hW).mono ?_
          rintro e w7 ⟨rfl, hb7⟩
          replace RA := RA.later hb7
          replace hb := behind hb hb7
          clear hb7 c0 c1 c2 c3 c4 c5 c6 c7 c8 e0 e1 e2 e3 e4 e5 e6 e7 e8 R1 RX hW WX hz hz1 GD hrc hrm hr
          cases ha : AskV.ok ⟨at_, a0, a1, a2, a3⟩
          · have HA : Hid (AskV.ok ⟨at_, a0, a1, a2, a3⟩ = false) := ha
            clear ha
            have k0 := RA.cell 0 _ rfl
            have k1 := RA.cell 1 _ rfl
            have k2 := RA.cell 2 _ rfl
            have k3 := RA.cell 3 _ rfl
            go_wp2_with fail
            refine (encAsk_bad HA.out _).mono ?_
            rintro e wz ⟨rfl, hbz⟩
            go_wp2_with fail
            go_ret
            exact ⟨rfl, behind hb hbz⟩
          · have HA : Hid (AskV.ok ⟨at_, a0, a1, a2, a3⟩ = true) := ha
            clear ha
            have k0 := RA.cell 0 _ rfl
            have k1 := RA.cell 1 _ rfl
            have k2 := RA.cell 2 _ rfl
            have k3 := RA.cell 3 _ rfl
            go_wp2_with fail
            refine (encAsk_good HA.out _).mono ?_
            rintro e wz ⟨Q, g, cp, rfl, GQ0, hz0, O, hbz⟩
            have GQ : Hid (GoodAsk (toL Q) ⟨at_, a0, a1, a2, a3⟩ ∧ 0 < Q.size) := GQ0
            have hz : Q.size ≤ 1000000 := hz0
            have hz1 : 0 < Q.size := GQ0.2
            replace RA := RA.later hbz
            replace hb := behind hb hbz
            clear hbz k0 k1 k2 k3 GQ0 hz0
            go_wp2_with fail
            refine (decAsk_good GQ.out.1 (some ⟨g, 0, none⟩) Q.size cp (toL_length Q) _ O.all O.room hz).mono ?_
            rintro e wy ⟨rfl, hby⟩
            replace O := (O.later hby).alloc (.cells #[.int .i64 a0, .int .i64 a1, .int .i64 a2, .int .i64 a3] 34)
            replace RA := (RA.later hby).boxed (.cells #[.int .i64 a0, .int .i64 a1, .int .i64 a2, .int .i64 a3] 34)
            have RB := RowL.new (w := wy) (T := 34) [.int .i64 a0, .int .i64 a1, .int .i64 a2, .int .i64 a3] rfl
            replace hb := boxed (behind hb hby) (.cells #[.int .i64 a0, .int .i64 a1, .int .i64 a2, .int .i64 a3] 34)
            clear hby
            go_wp2_with fail
            refine (pick_any cut Q.size hz1 hz _).mono ?_
            rintro e wx ⟨r, rfl, hr, rfl⟩
            have hrc : r ≤ cp := by have := O.room; omega
            have hrm : (r : Int) ≤ cp := by omega
            go_wp2_with fail
            refine (decAsk_bad (cut_ask GQ.out.1 (by rw [toL_length]; exact hr)) (some ⟨g, 0, none⟩) r cp (by rw [List.length_take, toL_length]; omega) _ (O.bytes r) hrc (by omega)).mono ?_
            rintro e wv ⟨rfl, hbv⟩
            replace O := (O.later hbv).alloc (.cells #[.int .i64 0, .int .i64 0, .int .i64 0, .int .i64 0] 34)
            replace RA := (RA.later hbv).boxed (.cells #[.int .i64 0, .int .i64 0, .int .i64 0, .int .i64 0] 34)
            replace RB := (RB.later hbv).boxed (.cells #[.int .i64 0, .int .i64 0, .int .i64 0, .int .i64 0] 34)
            replace hb := boxed (behind hb hbv) (.cells #[.int .i64 0, .int .i64 0, .int .i64 0, .int .i64 0] 34)
            clear hbv
            go_wp2_with fail
            refine (decTx_bad (fun x hx => tx_not_ask hx GQ.out.1) (some ⟨g, 0, none⟩) Q.size cp (toL_length Q) _ O.all O.room hz).mono ?_
            rintro e wu ⟨rfl, hbu⟩
            replace RA := (RA.later hbu).boxed (.cells #[.int .i64 0, .int .i64 0, .int .i64 0, .int .i64 0, .int .i64 0, .int .i64 0, .int .i64 0, .int .i64 0, .slice none 0 0] 41)
            replace RB := (RB.later hbu).boxed (.cells #[.int .i64 0, .int .i64 0, .int .i64 0, .int .i64 0, .int .i64 0, .int .i64 0, .int .i64 0, .int .i64 0, .slice none 0 0] 41)
            replace hb := boxed (behind hb hbu) (.cells #[.int .i64 0, .int .i64 0, .int .i64 0, .int .i64 0, .int .i64 0, .int .i64 0, .int .i64 0, .int .i64 0, .slice none 0 0] 41)
            clear hbu
            have k0 := RA.cell 0 _ rfl
            have m0 := RB.cell 0 _ rfl
            have k1 := RA.cell 1 _ rfl
            have m1 := RB.cell 1 _ rfl
            have k2 := RA.cell 2 _ rfl
            have m2 := RB.cell 2 _ rfl
            have k3 := RA.cell 3 _ rfl
            have m3 := RB.cell 3 _ rfl
            go_wp2_with fail
            go_ret
            exact ⟨rfl, hb⟩

end Go.Proofs.Yteebebahlegmlaa
