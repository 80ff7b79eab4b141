/-
  What the document's own DecodeTx does, as the model runs it: bytes that are some.
-/
import Derived.Test.YteebebahlegmlaaDoorRefDecTx0
namespace Go.Proofs.YteebebahlegmlaaDoor
open Go.RowKit

set_option maxHeartbeats 8000000 in
theorem refDecTx_some (s : ByteArray) (w : World) (hs : 1 ≤ s.size) (hl : s.size ≤ 1000000) :
    Calls Tryd.prog 23 #[.string s] w fun e w' => RefTxOut (toL s) w e w' := by
  have es : s.toList.isEmpty = false := by
    rw [byteList]
    cases h : toL s with
    | nil => have := toL_length s; rw [h] at this; simp at this; omega
    | cons => rfl
  have h1 : (1 : Int) ≤ s.size := by omega
  have hse : (s.extract 1 s.size).size ≤ 1000000 := by
    rw [← toL_length, extract_toL, List.length_drop, toL_length]
    omega
  clear hs
  have RV := (RowL.new (w := w) (T := 40) [.int .i64 0, .int .i64 0, .int .i64 0, .int .i64 0, .int .i64 0, .int .i64 0, .int .i64 0, .int .i64 0, .slice none 0 0] rfl).boxed (.cells #[.string (s.extract 1 s.size)] 75)
  have RT := RowL.new (w := w.alloc (.cells #[.int .i64 0, .int .i64 0, .int .i64 0, .int .i64 0, .int .i64 0, .int .i64 0, .int .i64 0, .int .i64 0, .slice none 0 0] 40)) (T := 75) (n := w.heap.size + 1) [.string (s.extract 1 s.size)] (by simp)
  have hb := boxed (boxed (Below.refl _ w) (.cells #[.int .i64 0, .int .i64 0, .int .i64 0, .int .i64 0, .int .i64 0, .int .i64 0, .int .i64 0, .int .i64 0, .slice none 0 0] 40)) (.cells #[.string (s.extract 1 s.size)] 75)
  have hne : w.heap.size ≠ w.heap.size + 1 := by omega
  go_enter Tryd.func23, Tryd.ntmps23
  go_wp2_with fail
  refine (refNum_any (w.heap.size + 1) (s.extract 1 s.size) _ RT).mono ?_
  rintro e w1 ⟨site, rfl, S1, n1, RT', y1⟩
  have N1 : Hid (RefNumIs (s.extract 1 s.size) site S1) := n1
  replace RV := RV.only y1 hne
  replace hb := only_below hb y1 (by omega)
  clear n1 y1 RT
  have RT := RT'
  clear RT'
  go_wp2_with fail
  refine (refNum_any (w.heap.size + 1) S1 _ RT).mono ?_
  rintro e w2 ⟨seq, rfl, S2, n2, RT', y2⟩
  have N2 : Hid (RefNumIs S1 seq S2) := n2
  replace RV := RV.only y2 hne
  replace hb := only_below hb y2 (by omega)
  clear n2 y2 RT
  have RT := RT'
  clear RT'
  go_wp2_with fail
  refine (refNum_any (w.heap.size + 1) S2 _ RT).mono ?_
  rintro e w3 ⟨wall, rfl, S3, n3, RT', y3⟩
  have N3 : Hid (RefNumIs S2 wall S3) := n3
  replace RV := RV.only y3 hne
  replace hb := only_below hb y3 (by omega)
  clear n3 y3 RT
  have RT := RT'
  clear RT'
  go_wp2_with fail
  refine (refNum_any (w.heap.size + 1) S3 _ RT).mono ?_
  rintro e w4 ⟨count, rfl, S4, n4, RT', y4⟩
  have N4 : Hid (RefNumIs S3 count S4) := n4
  replace RV := RV.only y4 hne
  replace hb := only_below hb y4 (by omega)
  clear n4 y4 RT
  have RT := RT'
  clear RT'
  have hlt : w.heap.size + 1 < w4.heap.size := RT.lt
  have hnx : w4.heap.size ≠ w.heap.size + 1 := by omega
  replace RV := RV.boxed (.cells #[.int .i64 site, .int .i64 seq, .int .i64 wall, .int .i64 count, .int .i64 0, .int .i64 0, .int .i64 0, .int .i64 0, .slice none 0 0] 40)
  replace hb := boxed hb (.cells #[.int .i64 site, .int .i64 seq, .int .i64 wall, .int .i64 count, .int .i64 0, .int .i64 0, .int .i64 0, .int .i64 0, .slice none 0 0] 40)
  have RX := RowL.new (w := w4) (T := 40) [.int .i64 site, .int .i64 seq, .int .i64 wall, .int .i64 count, .int .i64 0, .int .i64 0, .int .i64 0, .int .i64 0, .slice none 0 0] rfl
  replace RT := RT.boxed (.cells #[.int .i64 site, .int .i64 seq, .int .i64 wall, .int .i64 count, .int .i64 0, .int .i64 0, .int .i64 0, .int .i64 0, .slice none 0 0] 40)
  go_wp2_with fail
  refine wp_loop_rounds 5 ?_
  rw [rounds_succ]
  go_wp2_with fail
  refine (refNum_any (w.heap.size + 1) S4 _ RT).mono ?_
  rintro e w5 ⟨d0, rfl, S5, n5, RT', y5⟩
  have N5 : Hid (RefNumIs S4 d0 S5) := n5
  replace RX := RX.only y5 hnx
  replace RV := RV.only y5 hne
  replace hb := only_below hb y5 (by omega)
  clear n5 y5 RT
  have RT := RT'.far ⟨w4.heap.size, 4, none⟩ (.int .i64 d0) (by show w4.heap.size ≠ w.heap.size + 1; omega)
  replace hb := hb.setCell (p := ⟨w4.heap.size, 4, none⟩) (by show w.heap.size ≤ w4.heap.size; omega) (.int .i64 d0)
  replace RV := RV.far ⟨w4.heap.size, 4, none⟩ (.int .i64 d0) (by show w4.heap.size ≠ w.heap.size; omega)
  have c := RX.cell 4 _ rfl
  have f := RX.free 4 (by simp)
  replace RX := RX.set 4 (.int .i64 d0) (by simp)
  go_wp2_with fail
  clear c f RT'
  rw [rounds_succ]
  go_wp2_with fail
  refine (refNum_any (w.heap.size + 1) S5 _ RT).mono ?_
  rintro e w6 ⟨d1, rfl, S6, n6, RT', y6⟩
  have N6 : Hid (RefNumIs S5 d1 S6) := n6
  replace RX := RX.only y6 hnx
  replace RV := RV.only y6 hne
  replace hb := only_below hb y6 (by omega)
  clear n6 y6 RT
  have RT := RT'.far ⟨w4.heap.size, 5, none⟩ (.int .i64 d1) (by show w4.heap.size ≠ w.heap.size + 1; omega)
  replace hb := hb.setCell (p := ⟨w4.heap.size, 5, none⟩) (by show w.heap.size ≤ w4.heap.size; omega) (.int .i64 d1)
  replace RV := RV.far ⟨w4.heap.size, 5, none⟩ (.int .i64 d1) (by show w4.heap.size ≠ w.heap.size; omega)
  have c := RX.cell 5 _ rfl
  have f := RX.free 5 (by simp)
  replace RX := RX.set 5 (.int .i64 d1) (by simp)
  go_wp2_with fail
  clear c f RT'
  rw [rounds_succ]
  go_wp2_with fail
  refine (refNum_any (w.heap.size + 1) S6 _ RT).mono ?_
  rintro e w7 ⟨d2, rfl, S7, n7, RT', y7⟩
  have N7 : Hid (RefNumIs S6 d2 S7) := n7
  replace RX := RX.only y7 hnx
  replace RV := RV.only y7 hne
  replace hb := only_below hb y7 (by omega)
  clear n7 y7 RT
  have RT := RT'.far ⟨w4.heap.size, 6, none⟩ (.int .i64 d2) (by show w4.heap.size ≠ w.heap.size + 1; omega)
  replace hb := hb.setCell (p := ⟨w4.heap.size, 6, none⟩) (by show w.heap.size ≤ w4.heap.size; omega) (.int .i64 d2)
  replace RV := RV.far ⟨w4.heap.size, 6, none⟩ (.int .i64 d2) (by show w4.heap.size ≠ w.heap.size; omega)
  have c := RX.cell 6 _ rfl
  have f := RX.free 6 (by simp)
  replace RX := RX.set 6 (.int .i64 d2) (by simp)
  go_wp2_with fail
  clear c f RT'
  rw [rounds_succ]
  go_wp2_with fail
  refine (refNum_any (w.heap.size + 1) S7 _ RT).mono ?_
  rintro e w8 ⟨d3, rfl, S8, n8, RT', y8⟩
  have N8 : Hid (RefNumIs S7 d3 S8) := n8
  replace RX := RX.only y8 hnx
  replace RV := RV.only y8 hne
  replace hb := only_below hb y8 (by omega)
  clear n8 y8 RT
  have RT := RT'.far ⟨w4.heap.size, 7, none⟩ (.int .i64 d3) (by show w4.heap.size ≠ w.heap.size + 1; omega)
  replace hb := hb.setCell (p := ⟨w4.heap.size, 7, none⟩) (by show w.heap.size ≤ w4.heap.size; omega) (.int .i64 d3)
  replace RV := RV.far ⟨w4.heap.size, 7, none⟩ (.int .i64 d3) (by show w4.heap.size ≠ w.heap.size; omega)
  have c := RX.cell 7 _ rfl
  have f := RX.free 7 (by simp)
  replace RX := RX.set 7 (.int .i64 d3) (by simp)
  go_wp2_with fail
  clear c f RT'
  rw [rounds_succ]
  go_wp2_with fail
  refine (refNum_any (w.heap.size + 1) S8 _ RT).mono ?_
  rintro e w9 ⟨nw, rfl, S9, n9, RT', y9⟩
  have N9 : Hid (RefNumIs S8 nw S9) := n9
  replace RX := RX.only y9 hnx
  replace RV := RV.only y9 hne
  replace hb := only_below hb y9 (by omega)
  clear n9 y9 RT
  have SF : Hid (Sofar (toL s) site seq wall count d0 d1 d2 d3 nw [] S9) := refTx_chain N1.out N2.out N3.out N4.out N5.out N6.out N7.out N8.out N9.out
  have hs9 : S9.size ≤ 1000000 := by
    have a1 := N1.out.2.1
    have a2 := N2.out.2.1
    have a3 := N3.out.2.1
    have a4 := N4.out.2.1
    have a5 := N5.out.2.1
    have a6 := N6.out.2.1
    have a7 := N7.out.2.1
    have a8 := N8.out.2.1
    have a9 := N9.out.2.1
    omega
  have hnw := N9.out.1
  clear N1 N2 N3 N4 N5 N6 N7 N8 N9
  have RTX : RowL w9 w4.heap.size (txA site seq wall count d0 d1 d2 d3 (.slice none 0 0)) := RX
  have hsz : w4.heap.size + 1 ≤ w9.heap.size := RX.lt
  clear RX
  go_wp2_with fail
  go_loopw [7] (fun nv wr => ∃ (n : Int) (l : List Wr) (S : ByteArray) (v : Value), nv = .int .i64 n ∧ (-1 ≤ n ∧ n < 4398046511104) ∧ l.length ≤ 6 ∧ S.size ≤ 1000000 ∧ Sofar (toL s) site seq wall count d0 d1 d2 d3 n l S ∧ RowL wr w4.heap.size (txA site seq wall count d0 d1 d2 d3 v) ∧ wr.ownsRow (w4.heap.size + 1) 67 3 v l.length (wrsC l) ∧ RowL wr (w.heap.size + 1) [.string S] ∧ RowL wr w.heap.size [.int .i64 0, .int .i64 0, .int .i64 0, .int .i64 0, .int .i64 0, .int .i64 0, .int .i64 0, .int .i64 0, .slice none 0 0] ∧ Below w.heap.size w wr) (fun i _ => (intOf i + 1).toNat)
  case atStart => exact ⟨nw, [], S9, .slice none 0 0, rfl, hnw, by simp, hs9, SF.out, RTX, World.ownsRow_nil _ _ _ _, RT', RV, hb⟩
  case round =>
    clear RTX RT' RV hb hsz SF hs9 hnw
    obtain ⟨n, l, S, v, rfl, ⟨n0, n1⟩, hl6, hS, hsf, RX, own, RT, RV, hb⟩ := hrel
    have SF : Hid (Sofar (toL s) site seq wall count d0 d1 d2 d3 n l S) := hsf
    clear hsf
    obtain ⟨a', cap', rfl, hW⟩ := wrIn_own own
    have c8 : wr.cell? ⟨w4.heap.size, 8, none⟩ = some (.slice a' l.length cap') := RX.cell 8 _ rfl
    by_cases hn : 0 < n
    · by_cases hl5 : (l.length : Int) ≤ 5
      · have OWN : Hid (wr.ownsRow (w4.heap.size + 1) 67 3 (.slice a' l.length cap') l.length (wrsC l)) := own
        clear own hW
        go_wp2_with fail
        refine (refNum_any (w.heap.size + 1) S _ RT).mono ?_
        rintro e wa ⟨key, rfl, Sa, na, RTa, hO⟩
        have NA : Hid (RefNumIs S key Sa) := na
        clear na RT
        go_wp2_with fail
        refine (refNum_any (w.heap.size + 1) Sa _ RTa).mono ?_
        rintro e wb ⟨g, rfl, Sb, nb, RTb, yb⟩
        have NB : Hid (RefNumIs Sa g Sb) := nb
        replace hO := hO.trans yb (.inl rfl)
        clear nb RTa yb
        obtain ⟨gone, hgo⟩ : ∃ gone : Bool, (g == 1) = gone := ⟨_, rfl⟩
        have hwb : w4.heap.size + 1 ≤ wb.heap.size := by have := hO.size; have := RX.lt; omega
        have hwr : wr.heap.size ≤ wb.heap.size := hO.size
        have RY := RowW.new (w := wb) (T := 67) (key := key) (data := ⟨#[]⟩) (gone := gone) rfl
        replace hO := only_new (o := .cells #[.int .i64 key, .string ⟨#[]⟩, .bool gone] 67) hO
        replace RTb := RTb.boxed (.cells #[.int .i64 key, .string ⟨#[]⟩, .bool gone] 67)
        go_wp2_with fail
        have HGO : Hid ((g == 1) = gone) := hgo
        clear hgo
        refine (refNum_any (w.heap.size + 1) Sb _ RTb).mono ?_
        rintro e wc ⟨kk, rfl, Sc, nc, RTc, yc⟩
        have NC : Hid (RefNumIs Sb kk Sc) := nc
        have hny : wb.heap.size ≠ w.heap.size + 1 := by omega
        replace RY := RY.only yc hny
        replace hO := hO.trans yc (.inl rfl)
        clear nc RTb yc
        obtain ⟨nx1, nx2⟩ := sofar_next SF.out hn NA.out NB.out NC.out
        have NX1 : Hid (∀ y, Good (toL s) y → 0 ≤ kk ∧ kk ≤ Sc.size) := nx1
        have NX2 : Hid (∀ m : Nat, kk = m → Sofar (toL s) site seq wall count d0 d1 d2 d3 (n - 1) (l ++ [⟨key, Sc.extract 0 m, g == 1⟩]) (Sc.extract m Sc.size)) := nx2
        have hSc : Sc.size ≤ 1000000 := by
          have a1 := NA.out.2.1
          have a2 := NB.out.2.1
          have a3 := NC.out.2.1
          omega
        clear nx1 nx2 NA NB NC
        have t0 : wc.cell? ⟨w.heap.size + 1, 0, none⟩ = some (.string Sc) := RTc.cell 0 _ rfl
        have t1 : wc.frozen? ⟨w.heap.size + 1, 0, none⟩ = false := RTc.free 0 (by simp)
        cases hi : inB kk 0 Sc.size
        · have NO : Hid (∀ y, ¬ Good (toL s) y) := fun y hy => by
            have := inB_iff.2 (NX1.out y hy)
            rw [this] at hi
            cases hi
          have HI : Hid (inB kk 0 Sc.size = false) := hi
          clear hi
          have RVZ := RV.only hO hne
          have hbX := only_below hb hO (by omega)
          go_wp2_with fail
          refine (inB_is HI.out _).mono ?_
          rintro e wd ⟨rfl, hbd⟩
          replace RVZ := RVZ.later hbd
          replace hbX := behind hbX hbd
          clear hbd t0 t1 RTc RY hO RX RV hb OWN
          have RZ := (((((((((RVZ.set 0 (.int .i64 0) (by simp)).set 1 (.int .i64 0) (by simp)).set 2 (.int .i64 0) (by simp)).set 3 (.int .i64 0) (by simp)).set 4 (.int .i64 0) (by simp)).set 5 (.int .i64 0) (by simp)).set 6 (.int .i64 0) (by simp)).set 7 (.int .i64 0) (by simp)).set 8 (.slice none 0 0) (by simp))
          have hbZ := (((((((((hbX.setCell (p := ⟨w.heap.size, 0, none⟩) (Nat.le_refl _) (.int .i64 0)).setCell (p := ⟨w.heap.size, 1, none⟩) (Nat.le_refl _) (.int .i64 0)).setCell (p := ⟨w.heap.size, 2, none⟩) (Nat.le_refl _) (.int .i64 0)).setCell (p := ⟨w.heap.size, 3, none⟩) (Nat.le_refl _) (.int .i64 0)).setCell (p := ⟨w.heap.size, 4, none⟩) (Nat.le_refl _) (.int .i64 0)).setCell (p := ⟨w.heap.size, 5, none⟩) (Nat.le_refl _) (.int .i64 0)).setCell (p := ⟨w.heap.size, 6, none⟩) (Nat.le_refl _) (.int .i64 0)).setCell (p := ⟨w.heap.size, 7, none⟩) (Nat.le_refl _) (.int .i64 0)).setCell (p := ⟨w.heap.size, 8, none⟩) (Nat.le_refl _) (.slice none 0 0))
          have k0 := RVZ.cell 0 _ rfl
          have g0 := RVZ.free 0 (by simp)
          have k1 := RVZ.cell 1 _ rfl
          have g1 := RVZ.free 1 (by simp)
          have k2 := RVZ.cell 2 _ rfl
          have g2 := RVZ.free 2 (by simp)
          have k3 := RVZ.cell 3 _ rfl
          have g3 := RVZ.free 3 (by simp)
          have k4 := RVZ.cell 4 _ rfl
          have g4 := RVZ.free 4 (by simp)
          have k5 := RVZ.cell 5 _ rfl
          have g5 := RVZ.free 5 (by simp)
          have k6 := RVZ.cell 6 _ rfl
          have g6 := RVZ.free 6 (by simp)
          have k7 := RVZ.cell 7 _ rfl
          have g7 := RVZ.free 7 (by simp)
          have k8 := RVZ.cell 8 _ rfl
          have g8 := RVZ.free 8 (by simp)
          go_wp2_with fail
          refine bodyPost_ret (refDec_results RZ rfl rfl ⟨_, rfl⟩ ⟨_, rfl⟩ ⟨_, rfl⟩ ⟨_, rfl⟩ ⟨_, rfl⟩ ⟨_, rfl⟩ ⟨_, rfl⟩ ⟨_, rfl⟩ ⟨_, _, _, rfl⟩) rfl ⟨.inr ⟨NO.out, rfl⟩, hbZ⟩
        · have hib := inB_iff.1 hi
          obtain ⟨m, rfl⟩ : ∃ m : Nat, kk = m := ⟨kk.toNat, by omega⟩
          have HI : Hid (inB m 0 Sc.size = true) := hi
          have SN : Hid (Sofar (toL s) site seq wall count d0 d1 d2 d3 (n - 1) (l ++ [⟨key, Sc.extract 0 m, g == 1⟩]) (Sc.extract m Sc.size)) := NX2.out m rfl
          clear hi NX1 NX2
          have hm1 : (m : Int) ≤ Sc.size := hib.2
          clear hib
          go_wp2_with fail
          refine (inB_is HI.out _).mono ?_
          rintro e wd ⟨rfl, hbd⟩
          have RYd := RY.kept (hbd.block _ RY.lt)
          have RTd := RTc.later hbd
          replace hO := hO.trans (Only.ofBelow (g := w.heap.size + 1) hbd) (.inl rfl)
          clear hbd t0 t1 RTc RY
          have t0 : wd.cell? ⟨w.heap.size + 1, 0, none⟩ = some (.string Sc) := RTd.cell 0 _ rfl
          have t1 : wd.frozen? ⟨w.heap.size + 1, 0, none⟩ = false := RTd.free 0 (by simp)
          have y1 := RYd.c1
          have y2 := RYd.f1
          have SN2 : Hid (Sofar (toL s) site seq wall count d0 d1 d2 d3 (n - 1) (l ++ [⟨key, Sc.extract 0 m, gone⟩]) (Sc.extract m Sc.size)) := by
            have sn := SN.out
            rw [HGO.out] at sn
            exact sn
          clear SN
          go_wp2_with fail
          go_region
          have hOd : Only (w.heap.size + 1) wr ((wd.setCell ⟨wb.heap.size, 1, none⟩ (.string (Sc.extract 0 m))).setCell ⟨w.heap.size + 1, 0, none⟩ (.string (Sc.extract m Sc.size))).drew :=
            ((only_far (p := ⟨wb.heap.size, 1, none⟩) (v := .string (Sc.extract 0 m)) hO (by show wr.heap.size ≤ wb.heap.size; omega)).trans (only_setCell _ _ _ _) (.inl rfl)).trans (Only.ofBelow (g := w.heap.size + 1) (Below.refl _ _).drew) (.inl rfl)
          have RYz : RowW ((wd.setCell ⟨wb.heap.size, 1, none⟩ (.string (Sc.extract 0 m))).setCell ⟨w.heap.size + 1, 0, none⟩ (.string (Sc.extract m Sc.size))).drew wb.heap.size key (Sc.extract 0 m) gone :=
            ((RYd.set1 (Sc.extract 0 m)).far ⟨w.heap.size + 1, 0, none⟩ (.string (Sc.extract m Sc.size)) (by show w.heap.size + 1 ≠ wb.heap.size; omega)).kept rfl
          have RTz := ((RTd.far ⟨wb.heap.size, 1, none⟩ (.string (Sc.extract 0 m)) (by show wb.heap.size ≠ w.heap.size + 1; omega)).set 0 (.string (Sc.extract m Sc.size)) (by simp)).drew
          clear t0 t1 y1 y2 RYd RTd hO
          obtain ⟨WD, hWD⟩ : ∃ W, ((wd.setCell ⟨wb.heap.size, 1, none⟩ (.string (Sc.extract 0 m))).setCell ⟨w.heap.size + 1, 0, none⟩ (.string (Sc.extract m Sc.size))).drew = W := ⟨_, rfl⟩
          rw [hWD] at hOd RYz RTz ⊢
          clear hWD
          have RXd := RX.only hOd hnx
          have RVd := RV.only hOd hne
          have hbd := only_below hb hOd (by omega)
          have ownd := owns_far OWN.out hOd (by omega)
          have hsd : w4.heap.size + 1 ≤ WD.heap.size := RXd.lt
          clear RX RV hb OWN hOd
          obtain ⟨dat, hdat⟩ : ∃ d, Sc.extract 0 m = d := ⟨_, rfl⟩
          rw [hdat] at RYz SN2
          clear hdat
          obtain ⟨i0, hi, hz0, hz1, hz2⟩ := info_parts writeInfo
          have e8 : WD.cell? ⟨w4.heap.size, 8, none⟩ = some (.slice a' l.length cap') := RXd.cell 8 _ rfl
          have y0 := RYz.c0
          have y1 := RYz.c1
          have y2 := RYz.c2
          have hl5' : l.length ≤ 5 := by omega
          go_wp2_with (at_builtin; refine wpList_append_lies _ rfl (.tmp 84) (.tmp 86) 38 rfl (w4.heap.size + 1) 67 i0 (.agg #[.int .i64 0, .string ⟨#[]⟩, .bool false]) 3 32 Tryd.underlying38 hi hz0 hz1 hz2 rfl (by decide) (.slice a' l.length cap') l.length (wrsC l) rfl (ownd.alloc _) ⟨WD.heap.size, 0, none⟩ 1 1 (wrC ⟨key, dat, gone⟩) rfl rfl (World.news_of_block (heap_alloc_new WD (.cells #[.int .i64 key, .string dat, .bool gone] 67))) (by intro u hu; simp [wrC] at hu; rcases hu with rfl | rfl | rfl <;> rfl) (by decide) (by simp only [maxLen]; omega) (by omega) (by simp; omega) _ rfl ?_; intro g9 cap9 wE ownE grE egE ltE; have RXE := (RXd.boxed (.cells #[.int .i64 key, .string dat, .bool gone] 67)).grown grE (fun e => by have := own_rows ownd _ e.symm; omega); have c8E : wE.cell? ⟨w4.heap.size, 8, none⟩ = some (.slice a' l.length cap') := RXE.cell 8 _ rfl; have f8E : wE.frozen? ⟨w4.heap.size, 8, none⟩ = false := RXE.free 8 (by simp [txA]))
          have RXF : RowL (wE.setCell ⟨w4.heap.size, 8, none⟩ (.slice (some ⟨g9, 0, none⟩) (l.length + 1) cap9)) w4.heap.size (txA site seq wall count d0 d1 d2 d3 (.slice (some ⟨g9, 0, none⟩) (l.length + 1) cap9)) := RXE.set 8 (.slice (some ⟨g9, 0, none⟩) (l.length + 1) cap9) (by simp [txA])
          have RVF := ((RVd.boxed (.cells #[.int .i64 key, .string dat, .bool gone] 67)).grown grE (fun e => by have := own_rows ownd _ e.symm; omega)).far ⟨w4.heap.size, 8, none⟩ (.slice (some ⟨g9, 0, none⟩) (l.length + 1) cap9) (by show w4.heap.size ≠ w.heap.size; omega)
          have RTF := ((RTz.boxed (.cells #[.int .i64 key, .string dat, .bool gone] 67)).grown grE (fun e => by have := own_rows ownd _ e.symm; omega)).far ⟨w4.heap.size, 8, none⟩ (.slice (some ⟨g9, 0, none⟩) (l.length + 1) cap9) (by show w4.heap.size ≠ w.heap.size + 1; omega)
          have hbF := ((boxed hbd (.cells #[.int .i64 key, .string dat, .bool gone] 67)).grown grE (by have := hbd.size; simp; omega) (fun j hj => by have := own_rows ownd _ hj; omega)).setCell (p := ⟨w4.heap.size, 8, none⟩) (by show w.heap.size ≤ w4.heap.size; omega) (.slice (some ⟨g9, 0, none⟩) (l.length + 1) cap9)
          have ownF := ownsRow_setCell_below ownE (a := ⟨w4.heap.size, 8, none⟩) (by show w4.heap.size < w4.heap.size + 1; omega) (.slice (some ⟨g9, 0, none⟩) (l.length + 1) cap9)
          go_roundw
          case rel => exact ⟨n - 1, l ++ [⟨key, dat, gone⟩], Sc.extract m Sc.size, _, rfl, ⟨by omega, by omega⟩, by simp; omega, by rw [← toL_length, extract_toL, List.length_drop, toL_length]; omega, SN2.out, RXF, by rw [wrsC_snoc, List.length_append]; exact ownF, RTF, RVF, hbF⟩
          case measure => simp [intOf]; omega
      · have hlx : 5 < l.length := by omega
        have FULL : Hid (∀ y, Good (toL s) y → y = ⟨site, seq, wall, count, d0, d1, d2, d3, l⟩) := fun y hy => by
          obtain ⟨x1, x2, x3, x4, _⟩ := SF.out y hy
          have hy5 := okWs_len (ok_parts hy.1).2.2.2.2.2.2.2.2
          have e : l = y.l := by rw [show l.length = y.l.length by omega, List.take_length] at x4; exact x4
          rw [e]
          exact x1
        clear SF
        have OWN : Hid (wr.ownsRow (w4.heap.size + 1) 67 3 (.slice a' l.length cap') l.length (wrsC l)) := own
        clear own
        have c0 := RX.cell 0 _ rfl
        have c1 := RX.cell 1 _ rfl
        have c2 := RX.cell 2 _ rfl
        have c3 := RX.cell 3 _ rfl
        have c4 := RX.cell 4 _ rfl
        have c5 := RX.cell 5 _ rfl
        have c6 := RX.cell 6 _ rfl
        have c7 := RX.cell 7 _ rfl
        go_wp2_with fail
        obtain ⟨t, nn, hor, hcall⟩ := refTx_any site seq wall count d0 d1 d2 d3 a' cap' l wr hW
        have HOR : Hid ((okTx site seq wall count d0 d1 d2 d3 l = true ∧ nn = 0 ∧ t = txS site seq wall count d0 d1 d2 d3 l) ∨ (okTx site seq wall count d0 d1 d2 d3 l = false ∧ nn = 1)) := hor
        clear hor
        refine hcall.mono ?_
        rintro e wf ⟨rfl, hbf⟩
        clear hcall
        replace RX := RX.later hbf
        replace RV := RV.later hbf
        have hbX := behind hb hbf
        have ownf := own_later OWN.out hbf
        clear hbf hb OWN hW RT c0 c1 c2 c3 c4 c5 c6 c7 c8
        rcases HOR.out with ⟨o1, rfl, o3⟩ | ⟨o1, rfl⟩
        · have O3 : Hid (t = txS site seq wall count d0 d1 d2 d3 l) := o3
          have O1 : Hid (okTx site seq wall count d0 d1 d2 d3 l = true) := o1
          clear o1 o3 HOR
          by_cases ht : t = s
          · have et : (t.toList == s.toList) = true := by rw [strB, ht]; simp
            have YES : Hid (Good (toL s) ⟨site, seq, wall, count, d0, d1, d2, d3, l⟩) := ⟨O1.out, by rw [← ht, O3.out]; rfl⟩
            clear ht
            have c0 := RX.cell 0 _ rfl
            have c1 := RX.cell 1 _ rfl
            have c2 := RX.cell 2 _ rfl
            have c3 := RX.cell 3 _ rfl
            have c4 := RX.cell 4 _ rfl
            have c5 := RX.cell 5 _ rfl
            have c6 := RX.cell 6 _ rfl
            have c7 := RX.cell 7 _ rfl
            have c8 := RX.cell 8 _ rfl
            have RZ := (((((((((RV.set 0 (.int .i64 site) (by simp)).set 1 (.int .i64 seq) (by simp)).set 2 (.int .i64 wall) (by simp)).set 3 (.int .i64 count) (by simp)).set 4 (.int .i64 d0) (by simp)).set 5 (.int .i64 d1) (by simp)).set 6 (.int .i64 d2) (by simp)).set 7 (.int .i64 d3) (by simp)).set 8 (.slice a' l.length cap') (by simp))
            have hbZ := (((((((((hbX.setCell (p := ⟨w.heap.size, 0, none⟩) (Nat.le_refl _) (.int .i64 site)).setCell (p := ⟨w.heap.size, 1, none⟩) (Nat.le_refl _) (.int .i64 seq)).setCell (p := ⟨w.heap.size, 2, none⟩) (Nat.le_refl _) (.int .i64 wall)).setCell (p := ⟨w.heap.size, 3, none⟩) (Nat.le_refl _) (.int .i64 count)).setCell (p := ⟨w.heap.size, 4, none⟩) (Nat.le_refl _) (.int .i64 d0)).setCell (p := ⟨w.heap.size, 5, none⟩) (Nat.le_refl _) (.int .i64 d1)).setCell (p := ⟨w.heap.size, 6, none⟩) (Nat.le_refl _) (.int .i64 d2)).setCell (p := ⟨w.heap.size, 7, none⟩) (Nat.le_refl _) (.int .i64 d3)).setCell (p := ⟨w.heap.size, 8, none⟩) (Nat.le_refl _) (.slice a' l.length cap'))
            have ownZ := ownf
            replace ownZ := ownsRow_setCell_below ownZ (a := ⟨w.heap.size, 0, none⟩) (by show w.heap.size < w4.heap.size + 1; omega) (.int .i64 site)
            replace ownZ := ownsRow_setCell_below ownZ (a := ⟨w.heap.size, 1, none⟩) (by show w.heap.size < w4.heap.size + 1; omega) (.int .i64 seq)
            replace ownZ := ownsRow_setCell_below ownZ (a := ⟨w.heap.size, 2, none⟩) (by show w.heap.size < w4.heap.size + 1; omega) (.int .i64 wall)
            replace ownZ := ownsRow_setCell_below ownZ (a := ⟨w.heap.size, 3, none⟩) (by show w.heap.size < w4.heap.size + 1; omega) (.int .i64 count)
            replace ownZ := ownsRow_setCell_below ownZ (a := ⟨w.heap.size, 4, none⟩) (by show w.heap.size < w4.heap.size + 1; omega) (.int .i64 d0)
            replace ownZ := ownsRow_setCell_below ownZ (a := ⟨w.heap.size, 5, none⟩) (by show w.heap.size < w4.heap.size + 1; omega) (.int .i64 d1)
            replace ownZ := ownsRow_setCell_below ownZ (a := ⟨w.heap.size, 6, none⟩) (by show w.heap.size < w4.heap.size + 1; omega) (.int .i64 d2)
            replace ownZ := ownsRow_setCell_below ownZ (a := ⟨w.heap.size, 7, none⟩) (by show w.heap.size < w4.heap.size + 1; omega) (.int .i64 d3)
            replace ownZ := ownsRow_setCell_below ownZ (a := ⟨w.heap.size, 8, none⟩) (by show w.heap.size < w4.heap.size + 1; omega) (.slice a' l.length cap')
            obtain ⟨a2, cap2, ea, hW2⟩ := wrIn_own ownZ
            injection ea with e1 _ e3
            subst e1 e3
            have HW2 : Hid (WrIn _ a' cap' l) := hW2
            clear hW2 ownZ ownf
            have k0 := RV.cell 0 _ rfl
            have g0 := RV.free 0 (by simp)
            have k1 := RV.cell 1 _ rfl
            have g1 := RV.free 1 (by simp)
            have k2 := RV.cell 2 _ rfl
            have g2 := RV.free 2 (by simp)
            have k3 := RV.cell 3 _ rfl
            have g3 := RV.free 3 (by simp)
            have k4 := RV.cell 4 _ rfl
            have g4 := RV.free 4 (by simp)
            have k5 := RV.cell 5 _ rfl
            have g5 := RV.free 5 (by simp)
            have k6 := RV.cell 6 _ rfl
            have g6 := RV.free 6 (by simp)
            have k7 := RV.cell 7 _ rfl
            have g7 := RV.free 7 (by simp)
            have k8 := RV.cell 8 _ rfl
            have g8 := RV.free 8 (by simp)
            go_wp2_with fail
            refine bodyPost_ret (refDec_results RZ rfl rfl ⟨_, rfl⟩ ⟨_, rfl⟩ ⟨_, rfl⟩ ⟨_, rfl⟩ ⟨_, rfl⟩ ⟨_, rfl⟩ ⟨_, rfl⟩ ⟨_, rfl⟩ ⟨_, _, _, rfl⟩) rfl ⟨.inl ⟨⟨site, seq, wall, count, d0, d1, d2, d3, l⟩, a', cap', YES.out, HW2.out, rfl⟩, hbZ⟩
          · have et : (t.toList == s.toList) = false := by rw [strB]; simp [ht]
            have NO : Hid (∀ x, ¬ Good (toL s) x) := fun x hx => by
              have e := FULL.out x hx
              have h2 := hx.2
              rw [e] at h2
              exact ht (by rw [O3.out]; exact toL_inj h2)
            clear ht ownf
            have RZ := (((((((((RV.set 0 (.int .i64 0) (by simp)).set 1 (.int .i64 0) (by simp)).set 2 (.int .i64 0) (by simp)).set 3 (.int .i64 0) (by simp)).set 4 (.int .i64 0) (by simp)).set 5 (.int .i64 0) (by simp)).set 6 (.int .i64 0) (by simp)).set 7 (.int .i64 0) (by simp)).set 8 (.slice none 0 0) (by simp))
            have hbZ := (((((((((hbX.setCell (p := ⟨w.heap.size, 0, none⟩) (Nat.le_refl _) (.int .i64 0)).setCell (p := ⟨w.heap.size, 1, none⟩) (Nat.le_refl _) (.int .i64 0)).setCell (p := ⟨w.heap.size, 2, none⟩) (Nat.le_refl _) (.int .i64 0)).setCell (p := ⟨w.heap.size, 3, none⟩) (Nat.le_refl _) (.int .i64 0)).setCell (p := ⟨w.heap.size, 4, none⟩) (Nat.le_refl _) (.int .i64 0)).setCell (p := ⟨w.heap.size, 5, none⟩) (Nat.le_refl _) (.int .i64 0)).setCell (p := ⟨w.heap.size, 6, none⟩) (Nat.le_refl _) (.int .i64 0)).setCell (p := ⟨w.heap.size, 7, none⟩) (Nat.le_refl _) (.int .i64 0)).setCell (p := ⟨w.heap.size, 8, none⟩) (Nat.le_refl _) (.slice none 0 0))
            have k0 := RV.cell 0 _ rfl
            have g0 := RV.free 0 (by simp)
            have k1 := RV.cell 1 _ rfl
            have g1 := RV.free 1 (by simp)
            have k2 := RV.cell 2 _ rfl
            have g2 := RV.free 2 (by simp)
            have k3 := RV.cell 3 _ rfl
            have g3 := RV.free 3 (by simp)
            have k4 := RV.cell 4 _ rfl
            have g4 := RV.free 4 (by simp)
            have k5 := RV.cell 5 _ rfl
            have g5 := RV.free 5 (by simp)
            have k6 := RV.cell 6 _ rfl
            have g6 := RV.free 6 (by simp)
            have k7 := RV.cell 7 _ rfl
            have g7 := RV.free 7 (by simp)
            have k8 := RV.cell 8 _ rfl
            have g8 := RV.free 8 (by simp)
            go_wp2_with fail
            refine bodyPost_ret (refDec_results RZ rfl rfl ⟨_, rfl⟩ ⟨_, rfl⟩ ⟨_, rfl⟩ ⟨_, rfl⟩ ⟨_, rfl⟩ ⟨_, rfl⟩ ⟨_, rfl⟩ ⟨_, rfl⟩ ⟨_, _, _, rfl⟩) rfl ⟨.inr ⟨NO.out, rfl⟩, hbZ⟩
        · have NO : Hid (∀ x, ¬ Good (toL s) x) := fun x hx => by
            have e := FULL.out x hx
            have h2 := hx.1
            rw [e] at h2
            rw [show TxV.ok ⟨site, seq, wall, count, d0, d1, d2, d3, l⟩ = okTx site seq wall count d0 d1 d2 d3 l from rfl, o1] at h2
            cases h2
          clear o1 HOR ownf
          have RZ := (((((((((RV.set 0 (.int .i64 0) (by simp)).set 1 (.int .i64 0) (by simp)).set 2 (.int .i64 0) (by simp)).set 3 (.int .i64 0) (by simp)).set 4 (.int .i64 0) (by simp)).set 5 (.int .i64 0) (by simp)).set 6 (.int .i64 0) (by simp)).set 7 (.int .i64 0) (by simp)).set 8 (.slice none 0 0) (by simp))
          have hbZ := (((((((((hbX.setCell (p := ⟨w.heap.size, 0, none⟩) (Nat.le_refl _) (.int .i64 0)).setCell (p := ⟨w.heap.size, 1, none⟩) (Nat.le_refl _) (.int .i64 0)).setCell (p := ⟨w.heap.size, 2, none⟩) (Nat.le_refl _) (.int .i64 0)).setCell (p := ⟨w.heap.size, 3, none⟩) (Nat.le_refl _) (.int .i64 0)).setCell (p := ⟨w.heap.size, 4, none⟩) (Nat.le_refl _) (.int .i64 0)).setCell (p := ⟨w.heap.size, 5, none⟩) (Nat.le_refl _) (.int .i64 0)).setCell (p := ⟨w.heap.size, 6, none⟩) (Nat.le_refl _) (.int .i64 0)).setCell (p := ⟨w.heap.size, 7, none⟩) (Nat.le_refl _) (.int .i64 0)).setCell (p := ⟨w.heap.size, 8, none⟩) (Nat.le_refl _) (.slice none 0 0))
          have k0 := RV.cell 0 _ rfl
          have g0 := RV.free 0 (by simp)
          have k1 := RV.cell 1 _ rfl
          have g1 := RV.free 1 (by simp)
          have k2 := RV.cell 2 _ rfl
          have g2 := RV.free 2 (by simp)
          have k3 := RV.cell 3 _ rfl
          have g3 := RV.free 3 (by simp)
          have k4 := RV.cell 4 _ rfl
          have g4 := RV.free 4 (by simp)
          have k5 := RV.cell 5 _ rfl
          have g5 := RV.free 5 (by simp)
          have k6 := RV.cell 6 _ rfl
          have g6 := RV.free 6 (by simp)
          have k7 := RV.cell 7 _ rfl
          have g7 := RV.free 7 (by simp)
          have k8 := RV.cell 8 _ rfl
          have g8 := RV.free 8 (by simp)
          go_wp2_with fail
          refine bodyPost_ret (refDec_results RZ rfl rfl ⟨_, rfl⟩ ⟨_, rfl⟩ ⟨_, rfl⟩ ⟨_, rfl⟩ ⟨_, rfl⟩ ⟨_, rfl⟩ ⟨_, rfl⟩ ⟨_, rfl⟩ ⟨_, _, _, rfl⟩) rfl ⟨.inr ⟨NO.out, rfl⟩, hbZ⟩
    · skip
      have FULL : Hid (∀ y, Good (toL s) y → y = ⟨site, seq, wall, count, d0, d1, d2, d3, l⟩) := fun y hy => by
        obtain ⟨x1, x2, x3, x4, _⟩ := SF.out y hy
        have hy5 := okWs_len (ok_parts hy.1).2.2.2.2.2.2.2.2
        have e : l = y.l := by rw [show l.length = y.l.length by omega, List.take_length] at x4; exact x4
        rw [e]
        exact x1
      clear SF
      have OWN : Hid (wr.ownsRow (w4.heap.size + 1) 67 3 (.slice a' l.length cap') l.length (wrsC l)) := own
      clear own
      have c0 := RX.cell 0 _ rfl
      have c1 := RX.cell 1 _ rfl
      have c2 := RX.cell 2 _ rfl
      have c3 := RX.cell 3 _ rfl
      have c4 := RX.cell 4 _ rfl
      have c5 := RX.cell 5 _ rfl
      have c6 := RX.cell 6 _ rfl
      have c7 := RX.cell 7 _ rfl
      go_wp2_with fail
      obtain ⟨t, nn, hor, hcall⟩ := refTx_any site seq wall count d0 d1 d2 d3 a' cap' l wr hW
      have HOR : Hid ((okTx site seq wall count d0 d1 d2 d3 l = true ∧ nn = 0 ∧ t = txS site seq wall count d0 d1 d2 d3 l) ∨ (okTx site seq wall count d0 d1 d2 d3 l = false ∧ nn = 1)) := hor
      clear hor
      refine hcall.mono ?_
      rintro e wf ⟨rfl, hbf⟩
      clear hcall
      replace RX := RX.later hbf
      replace RV := RV.later hbf
      have hbX := behind hb hbf
      have ownf := own_later OWN.out hbf
      clear hbf hb OWN hW RT c0 c1 c2 c3 c4 c5 c6 c7 c8
      rcases HOR.out with ⟨o1, rfl, o3⟩ | ⟨o1, rfl⟩
      · have O3 : Hid (t = txS site seq wall count d0 d1 d2 d3 l) := o3
        have O1 : Hid (okTx site seq wall count d0 d1 d2 d3 l = true) := o1
        clear o1 o3 HOR
        by_cases ht : t = s
        · have et : (t.toList == s.toList) = true := by rw [strB, ht]; simp
          have YES : Hid (Good (toL s) ⟨site, seq, wall, count, d0, d1, d2, d3, l⟩) := ⟨O1.out, by rw [← ht, O3.out]; rfl⟩
          clear ht
          have c0 := RX.cell 0 _ rfl
          have c1 := RX.cell 1 _ rfl
          have c2 := RX.cell 2 _ rfl
          have c3 := RX.cell 3 _ rfl
          have c4 := RX.cell 4 _ rfl
          have c5 := RX.cell 5 _ rfl
          have c6 := RX.cell 6 _ rfl
          have c7 := RX.cell 7 _ rfl
          have c8 := RX.cell 8 _ rfl
          have RZ := (((((((((RV.set 0 (.int .i64 site) (by simp)).set 1 (.int .i64 seq) (by simp)).set 2 (.int .i64 wall) (by simp)).set 3 (.int .i64 count) (by simp)).set 4 (.int .i64 d0) (by simp)).set 5 (.int .i64 d1) (by simp)).set 6 (.int .i64 d2) (by simp)).set 7 (.int .i64 d3) (by simp)).set 8 (.slice a' l.length cap') (by simp))
          have hbZ := (((((((((hbX.setCell (p := ⟨w.heap.size, 0, none⟩) (Nat.le_refl _) (.int .i64 site)).setCell (p := ⟨w.heap.size, 1, none⟩) (Nat.le_refl _) (.int .i64 seq)).setCell (p := ⟨w.heap.size, 2, none⟩) (Nat.le_refl _) (.int .i64 wall)).setCell (p := ⟨w.heap.size, 3, none⟩) (Nat.le_refl _) (.int .i64 count)).setCell (p := ⟨w.heap.size, 4, none⟩) (Nat.le_refl _) (.int .i64 d0)).setCell (p := ⟨w.heap.size, 5, none⟩) (Nat.le_refl _) (.int .i64 d1)).setCell (p := ⟨w.heap.size, 6, none⟩) (Nat.le_refl _) (.int .i64 d2)).setCell (p := ⟨w.heap.size, 7, none⟩) (Nat.le_refl _) (.int .i64 d3)).setCell (p := ⟨w.heap.size, 8, none⟩) (Nat.le_refl _) (.slice a' l.length cap'))
          have ownZ := ownf
          replace ownZ := ownsRow_setCell_below ownZ (a := ⟨w.heap.size, 0, none⟩) (by show w.heap.size < w4.heap.size + 1; omega) (.int .i64 site)
          replace ownZ := ownsRow_setCell_below ownZ (a := ⟨w.heap.size, 1, none⟩) (by show w.heap.size < w4.heap.size + 1; omega) (.int .i64 seq)
          replace ownZ := ownsRow_setCell_below ownZ (a := ⟨w.heap.size, 2, none⟩) (by show w.heap.size < w4.heap.size + 1; omega) (.int .i64 wall)
          replace ownZ := ownsRow_setCell_below ownZ (a := ⟨w.heap.size, 3, none⟩) (by show w.heap.size < w4.heap.size + 1; omega) (.int .i64 count)
          replace ownZ := ownsRow_setCell_below ownZ (a := ⟨w.heap.size, 4, none⟩) (by show w.heap.size < w4.heap.size + 1; omega) (.int .i64 d0)
          replace ownZ := ownsRow_setCell_below ownZ (a := ⟨w.heap.size, 5, none⟩) (by show w.heap.size < w4.heap.size + 1; omega) (.int .i64 d1)
          replace ownZ := ownsRow_setCell_below ownZ (a := ⟨w.heap.size, 6, none⟩) (by show w.heap.size < w4.heap.size + 1; omega) (.int .i64 d2)
          replace ownZ := ownsRow_setCell_below ownZ (a := ⟨w.heap.size, 7, none⟩) (by show w.heap.size < w4.heap.size + 1; omega) (.int .i64 d3)
          replace ownZ := ownsRow_setCell_below ownZ (a := ⟨w.heap.size, 8, none⟩) (by show w.heap.size < w4.heap.size + 1; omega) (.slice a' l.length cap')
          obtain ⟨a2, cap2, ea, hW2⟩ := wrIn_own ownZ
          injection ea with e1 _ e3
          subst e1 e3
          have HW2 : Hid (WrIn _ a' cap' l) := hW2
          clear hW2 ownZ ownf
          have k0 := RV.cell 0 _ rfl
          have g0 := RV.free 0 (by simp)
          have k1 := RV.cell 1 _ rfl
          have g1 := RV.free 1 (by simp)
          have k2 := RV.cell 2 _ rfl
          have g2 := RV.free 2 (by simp)
          have k3 := RV.cell 3 _ rfl
          have g3 := RV.free 3 (by simp)
          have k4 := RV.cell 4 _ rfl
          have g4 := RV.free 4 (by simp)
          have k5 := RV.cell 5 _ rfl
          have g5 := RV.free 5 (by simp)
          have k6 := RV.cell 6 _ rfl
          have g6 := RV.free 6 (by simp)
          have k7 := RV.cell 7 _ rfl
          have g7 := RV.free 7 (by simp)
          have k8 := RV.cell 8 _ rfl
          have g8 := RV.free 8 (by simp)
          go_wp2_with fail
          refine bodyPost_ret (refDec_results RZ rfl rfl ⟨_, rfl⟩ ⟨_, rfl⟩ ⟨_, rfl⟩ ⟨_, rfl⟩ ⟨_, rfl⟩ ⟨_, rfl⟩ ⟨_, rfl⟩ ⟨_, rfl⟩ ⟨_, _, _, rfl⟩) rfl ⟨.inl ⟨⟨site, seq, wall, count, d0, d1, d2, d3, l⟩, a', cap', YES.out, HW2.out, rfl⟩, hbZ⟩
        · have et : (t.toList == s.toList) = false := by rw [strB]; simp [ht]
          have NO : Hid (∀ x, ¬ Good (toL s) x) := fun x hx => by
            have e := FULL.out x hx
            have h2 := hx.2
            rw [e] at h2
            exact ht (by rw [O3.out]; exact toL_inj h2)
          clear ht ownf
          have RZ := (((((((((RV.set 0 (.int .i64 0) (by simp)).set 1 (.int .i64 0) (by simp)).set 2 (.int .i64 0) (by simp)).set 3 (.int .i64 0) (by simp)).set 4 (.int .i64 0) (by simp)).set 5 (.int .i64 0) (by simp)).set 6 (.int .i64 0) (by simp)).set 7 (.int .i64 0) (by simp)).set 8 (.slice none 0 0) (by simp))
          have hbZ := (((((((((hbX.setCell (p := ⟨w.heap.size, 0, none⟩) (Nat.le_refl _) (.int .i64 0)).setCell (p := ⟨w.heap.size, 1, none⟩) (Nat.le_refl _) (.int .i64 0)).setCell (p := ⟨w.heap.size, 2, none⟩) (Nat.le_refl _) (.int .i64 0)).setCell (p := ⟨w.heap.size, 3, none⟩) (Nat.le_refl _) (.int .i64 0)).setCell (p := ⟨w.heap.size, 4, none⟩) (Nat.le_refl _) (.int .i64 0)).setCell (p := ⟨w.heap.size, 5, none⟩) (Nat.le_refl _) (.int .i64 0)).setCell (p := ⟨w.heap.size, 6, none⟩) (Nat.le_refl _) (.int .i64 0)).setCell (p := ⟨w.heap.size, 7, none⟩) (Nat.le_refl _) (.int .i64 0)).setCell (p := ⟨w.heap.size, 8, none⟩) (Nat.le_refl _) (.slice none 0 0))
          have k0 := RV.cell 0 _ rfl
          have g0 := RV.free 0 (by simp)
          have k1 := RV.cell 1 _ rfl
          have g1 := RV.free 1 (by simp)
          have k2 := RV.cell 2 _ rfl
          have g2 := RV.free 2 (by simp)
          have k3 := RV.cell 3 _ rfl
          have g3 := RV.free 3 (by simp)
          have k4 := RV.cell 4 _ rfl
          have g4 := RV.free 4 (by simp)
          have k5 := RV.cell 5 _ rfl
          have g5 := RV.free 5 (by simp)
          have k6 := RV.cell 6 _ rfl
          have g6 := RV.free 6 (by simp)
          have k7 := RV.cell 7 _ rfl
          have g7 := RV.free 7 (by simp)
          have k8 := RV.cell 8 _ rfl
          have g8 := RV.free 8 (by simp)
          go_wp2_with fail
          refine bodyPost_ret (refDec_results RZ rfl rfl ⟨_, rfl⟩ ⟨_, rfl⟩ ⟨_, rfl⟩ ⟨_, rfl⟩ ⟨_, rfl⟩ ⟨_, rfl⟩ ⟨_, rfl⟩ ⟨_, rfl⟩ ⟨_, _, _, rfl⟩) rfl ⟨.inr ⟨NO.out, rfl⟩, hbZ⟩
      · have NO : Hid (∀ x, ¬ Good (toL s) x) := fun x hx => by
          have e := FULL.out x hx
          have h2 := hx.1
          rw [e] at h2
          rw [show TxV.ok ⟨site, seq, wall, count, d0, d1, d2, d3, l⟩ = okTx site seq wall count d0 d1 d2 d3 l from rfl, o1] at h2
          cases h2
        clear o1 HOR ownf
        have RZ := (((((((((RV.set 0 (.int .i64 0) (by simp)).set 1 (.int .i64 0) (by simp)).set 2 (.int .i64 0) (by simp)).set 3 (.int .i64 0) (by simp)).set 4 (.int .i64 0) (by simp)).set 5 (.int .i64 0) (by simp)).set 6 (.int .i64 0) (by simp)).set 7 (.int .i64 0) (by simp)).set 8 (.slice none 0 0) (by simp))
        have hbZ := (((((((((hbX.setCell (p := ⟨w.heap.size, 0, none⟩) (Nat.le_refl _) (.int .i64 0)).setCell (p := ⟨w.heap.size, 1, none⟩) (Nat.le_refl _) (.int .i64 0)).setCell (p := ⟨w.heap.size, 2, none⟩) (Nat.le_refl _) (.int .i64 0)).setCell (p := ⟨w.heap.size, 3, none⟩) (Nat.le_refl _) (.int .i64 0)).setCell (p := ⟨w.heap.size, 4, none⟩) (Nat.le_refl _) (.int .i64 0)).setCell (p := ⟨w.heap.size, 5, none⟩) (Nat.le_refl _) (.int .i64 0)).setCell (p := ⟨w.heap.size, 6, none⟩) (Nat.le_refl _) (.int .i64 0)).setCell (p := ⟨w.heap.size, 7, none⟩) (Nat.le_refl _) (.int .i64 0)).setCell (p := ⟨w.heap.size, 8, none⟩) (Nat.le_refl _) (.slice none 0 0))
        have k0 := RV.cell 0 _ rfl
        have g0 := RV.free 0 (by simp)
        have k1 := RV.cell 1 _ rfl
        have g1 := RV.free 1 (by simp)
        have k2 := RV.cell 2 _ rfl
        have g2 := RV.free 2 (by simp)
        have k3 := RV.cell 3 _ rfl
        have g3 := RV.free 3 (by simp)
        have k4 := RV.cell 4 _ rfl
        have g4 := RV.free 4 (by simp)
        have k5 := RV.cell 5 _ rfl
        have g5 := RV.free 5 (by simp)
        have k6 := RV.cell 6 _ rfl
        have g6 := RV.free 6 (by simp)
        have k7 := RV.cell 7 _ rfl
        have g7 := RV.free 7 (by simp)
        have k8 := RV.cell 8 _ rfl
        have g8 := RV.free 8 (by simp)
        go_wp2_with fail
        refine bodyPost_ret (refDec_results RZ rfl rfl ⟨_, rfl⟩ ⟨_, rfl⟩ ⟨_, rfl⟩ ⟨_, rfl⟩ ⟨_, rfl⟩ ⟨_, rfl⟩ ⟨_, rfl⟩ ⟨_, rfl⟩ ⟨_, _, _, rfl⟩) rfl ⟨.inr ⟨NO.out, rfl⟩, hbZ⟩

theorem refDecTx_any (s : ByteArray) (w : World) (hl : s.size ≤ 1000000) : Calls Tryd.prog 23 #[.string s] w fun e w' => RefTxOut (toL s) w e w' := by
  by_cases h : s.size = 0
  · exact refDecTx_none s w h
  · exact refDecTx_some s w (by omega) hl

end Go.Proofs.YteebebahlegmlaaDoor
