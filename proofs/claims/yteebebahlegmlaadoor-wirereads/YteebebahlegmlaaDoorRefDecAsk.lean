/-
  What the document's own DecodeAsk does, as the model runs it.
-/
import Derived.Test.YteebebahlegmlaaDoorRefNum
import Derived.Test.YteebebahlegmlaaDoorRefAsk
import Derived.Test.YteebebahlegmlaaDoorDecAsk
namespace Go.Proofs.YteebebahlegmlaaDoor
open Go.RowKit

theorem RefNumIs.full {S S' : ByteArray} {v n : Int} {r : List UInt8} (h : RefNumIs S v S') (hS : toL S = numL 5 n ++ r) (h0 : 0 ≤ n) (h1 : n ≤ 1099511627776) : v = n ∧ toL S' = r := by
  refine h.2.2 n r ?_
  rw [hS]
  exact rd_num 5 n r h0 (by rw [pow6]; omega)

theorem refAsk_chain {s S1 S2 S3 S4 S5 : ByteArray} {site v0 v1 v2 v3 : Int} (h0 : RefNumIs (s.extract 1 s.size) site S1) (h1 : RefNumIs S1 v0 S2) (h2 : RefNumIs S2 v1 S3) (h3 : RefNumIs S3 v2 S4) (h4 : RefNumIs S4 v3 S5) :
    ∀ y, GoodAsk (toL s) y → y = ⟨site, v0, v1, v2, v3⟩ := by
  rintro ⟨q, a0, a1, a2, a3⟩ hy
  obtain ⟨bs, b0, b1, b2, b3⟩ := ask_parts hy.1
  have e : toL s = askL q a0 a1 a2 a3 [] := hy.2.symm.trans (askS_toL q a0 a1 a2 a3)
  have e0 : toL (s.extract 1 s.size) = numL 5 q ++ (numL 5 a0 ++ (numL 5 a1 ++ (numL 5 a2 ++ (numL 5 a3 ++ [])))) := by
    rw [extract_toL, e]
    rfl
  obtain ⟨z0, r0⟩ := h0.full e0 bs.1 (by have := bs.2; simp only at this; omega)
  obtain ⟨z1, r1⟩ := h1.full r0 b0.1 b0.2
  obtain ⟨z2, r2⟩ := h2.full r1 b1.1 b1.2
  obtain ⟨z3, r3⟩ := h3.full r2 b2.1 b2.2
  obtain ⟨z4, r4⟩ := h4.full r3 b3.1 b3.2
  rw [z0, z1, z2, z3, z4]

/-- EncodeAsk's string and error, of whatever numbers -/
theorem refAsk_any (site a0 a1 a2 a3 : Int) (w : World) : ∃ (t : ByteArray) (n : Int), ((AskV.ok ⟨site, a0, a1, a2, a3⟩ = true ∧ n = 0 ∧ t = askS site a0 a1 a2 a3) ∨ (AskV.ok ⟨site, a0, a1, a2, a3⟩ = false ∧ n = 1)) ∧
    Calls Tryd.prog 17 #[.int .i64 site, .agg #[.int .i64 a0, .int .i64 a1, .int .i64 a2, .int .i64 a3]] w fun e w' => e = .returned (.tuple #[.string t, .int .i64 n]) ∧ Below w.heap.size w w' := by
  cases h : inB site 0 3
  · exact ⟨_, 1, .inr ⟨by simp [AskV.ok, h], rfl⟩, refAsk_arg1 site a0 a1 a2 a3 w h⟩
  · cases h2 : timesB a0 a1 a2 a3
    · exact ⟨_, 1, .inr ⟨by simp [AskV.ok, h2], rfl⟩, refAsk_arg2 site a0 a1 a2 a3 w h h2⟩
    · exact ⟨_, 0, .inl ⟨by simp [AskV.ok, h, h2], rfl, rfl⟩, refAsk_ok site a0 a1 a2 a3 w h h2⟩

def RefAskOut (L : List UInt8) (w : World) (e : Ending) (w' : World) : Prop :=
  ((∃ x : AskV, GoodAsk L x ∧ e = .returned (.tuple #[.int .i64 x.site, .agg #[.int .i64 x.a0, .int .i64 x.a1, .int .i64 x.a2, .int .i64 x.a3], .int .i64 0])) ∨
   ((∀ x, ¬ GoodAsk L x) ∧ e = .returned (.tuple #[.int .i64 0, .agg #[.int .i64 0, .int .i64 0, .int .i64 0, .int .i64 0], .int .i64 3]))) ∧ Below w.heap.size w w'

/-- what is handed back: the number, the vector in the result's box, the error -/
theorem ask_results {tmps : Array Value} {w : World} {b : Nat} {n e a0 a1 a2 a3 : Int} (h : Row4 w b a0 a1 a2 a3) (h2 : tmps[2]? = some (.int .i64 n)) (h3 : tmps[3]? = some (.pointer (some ⟨b, 0, none⟩))) (h4 : tmps[4]? = some (.int .i64 e)) :
    (results Tryd.f25 tmps).run Tryd.prog w = .ok (.tuple #[.int .i64 n, .agg #[.int .i64 a0, .int .i64 a1, .int .i64 a2, .int .i64 a3], .int .i64 e]) w := by
  have z0 := h.c0
  have z1 := h.c1
  have z2 := h.c2
  have z3 := h.c3
  simp [results, Tryd.results25, go_sem, h2, h3, h4, z0, z1, z2, z3]

set_option maxHeartbeats 4000000 in
theorem refDecAsk_none (s : ByteArray) (w : World) (hs : s.size = 0) :
    Calls Tryd.prog 25 #[.string s] w fun e w' => RefAskOut (toL s) w e w' := by
  have hn : toL s = [] := List.eq_nil_of_length_eq_zero (by rw [toL_length]; exact hs)
  have es : s.toList.isEmpty = true := by rw [byteList, hn]; rfl
  have NO : Hid (∀ x, ¬ GoodAsk (toL s) x) := fun x hx => by
    have h := hx.2
    rw [hn, AskV.bytes, askS_toL] at h
    cases h
  clear hn hs
  have RV := Row4.new w 37 0 0 0 0
  go_enter Tryd.func25, Tryd.ntmps25
  go_wp2_with fail
  refine bodyPost_ret (ask_results RV rfl rfl rfl) rfl ⟨.inr ⟨NO.out, rfl⟩, boxed (Below.refl _ _) _⟩

set_option maxHeartbeats 8000000 in
theorem refDecAsk_some (s : ByteArray) (w : World) (hs : 1 ≤ s.size) :
    Calls Tryd.prog 25 #[.string s] w fun e w' => RefAskOut (toL s) w e w' := by
  have es : s.toList.isEmpty = false := by
    rw [byteList]
    cases h : toL s with
    | nil => have := toL_length s; rw [h] at this; simp at this; omega
    | cons => rfl
  have h1 : (1 : Int) ≤ s.size := by omega
  clear hs
  have RV := (Row4.new w 37 0 0 0 0).boxed (.cells #[.string (s.extract 1 s.size)] 75)
  have RT := RowL.new (w := w.alloc (.cells #[.int .i64 0, .int .i64 0, .int .i64 0, .int .i64 0] 37)) (T := 75) (n := w.heap.size + 1) [.string (s.extract 1 s.size)] (by simp)
  have hb := boxed (boxed (Below.refl _ w) (.cells #[.int .i64 0, .int .i64 0, .int .i64 0, .int .i64 0] 37)) (.cells #[.string (s.extract 1 s.size)] 75)
  have hne : w.heap.size ≠ w.heap.size + 1 := by omega
  go_enter Tryd.func25, Tryd.ntmps25
  go_wp2_with fail
  refine (refNum_any (w.heap.size + 1) (s.extract 1 s.size) _ RT).mono ?_
  rintro e w1 ⟨site, rfl, S1, n0, RT', y0⟩
  have N0 : Hid (RefNumIs (s.extract 1 s.size) site S1) := n0
  have hlt : w.heap.size + 1 < w1.heap.size := RT'.lt
  have hnv : w1.heap.size ≠ w.heap.size + 1 := by omega
  replace RV := (RV.only y0 hne).boxed (.cells #[.int .i64 0, .int .i64 0, .int .i64 0, .int .i64 0] 37)
  replace hb := boxed (only_below hb y0 (by omega)) (.cells #[.int .i64 0, .int .i64 0, .int .i64 0, .int .i64 0] 37)
  have RW := Row4.new w1 37 0 0 0 0
  clear n0 y0 RT
  have RT := RT'.boxed (.cells #[.int .i64 0, .int .i64 0, .int .i64 0, .int .i64 0] 37)
  clear RT'
  go_wp2_with fail
  refine wp_loop_rounds 5 ?_
  rw [rounds_succ]
  go_wp2_with fail
  refine (refNum_any (w.heap.size + 1) S1 _ RT).mono ?_
  rintro e w2 ⟨v0, rfl, S2, n1, RT', y1⟩
  have N1 : Hid (RefNumIs S1 v0 S2) := n1
  replace RW := RW.only y1 hnv
  replace RV := RV.only y1 hne
  replace hb := only_below hb y1 (by omega)
  clear n1 y1 RT
  have RT := RT'.far ⟨w1.heap.size, 0, none⟩ (.int .i64 v0) (by show w1.heap.size ≠ w.heap.size + 1; omega)
  replace hb := hb.setCell (p := ⟨w1.heap.size, 0, none⟩) (by show w.heap.size ≤ w1.heap.size; omega) (.int .i64 v0)
  have RX := RW.set0 v0
  replace RV := RV.far ⟨w1.heap.size, 0, none⟩ (.int .i64 v0) (by show w1.heap.size ≠ w.heap.size; omega)
  have c0 := RW.c0
  have c1 := RW.c1
  have c2 := RW.c2
  have c3 := RW.c3
  have f0 := RW.f0
  have f1 := RW.f1
  have f2 := RW.f2
  have f3 := RW.f3
  go_wp2_with fail
  clear c0 c1 c2 c3 f0 f1 f2 f3 RW RT'
  have RW := RX
  clear RX
  rw [rounds_succ]
  go_wp2_with fail
  refine (refNum_any (w.heap.size + 1) S2 _ RT).mono ?_
  rintro e w3 ⟨v1, rfl, S3, n2, RT', y2⟩
  have N2 : Hid (RefNumIs S2 v1 S3) := n2
  replace RW := RW.only y2 hnv
  replace RV := RV.only y2 hne
  replace hb := only_below hb y2 (by omega)
  clear n2 y2 RT
  have RT := RT'.far ⟨w1.heap.size, 1, none⟩ (.int .i64 v1) (by show w1.heap.size ≠ w.heap.size + 1; omega)
  replace hb := hb.setCell (p := ⟨w1.heap.size, 1, none⟩) (by show w.heap.size ≤ w1.heap.size; omega) (.int .i64 v1)
  have RX := RW.set1 v1
  replace RV := RV.far ⟨w1.heap.size, 1, none⟩ (.int .i64 v1) (by show w1.heap.size ≠ w.heap.size; omega)
  have c0 := RW.c0
  have c1 := RW.c1
  have c2 := RW.c2
  have c3 := RW.c3
  have f0 := RW.f0
  have f1 := RW.f1
  have f2 := RW.f2
  have f3 := RW.f3
  go_wp2_with fail
  clear c0 c1 c2 c3 f0 f1 f2 f3 RW RT'
  have RW := RX
  clear RX
  rw [rounds_succ]
  go_wp2_with fail
  refine (refNum_any (w.heap.size + 1) S3 _ RT).mono ?_
  rintro e w4 ⟨v2, rfl, S4, n3, RT', y3⟩
  have N3 : Hid (RefNumIs S3 v2 S4) := n3
  replace RW := RW.only y3 hnv
  replace RV := RV.only y3 hne
  replace hb := only_below hb y3 (by omega)
  clear n3 y3 RT
  have RT := RT'.far ⟨w1.heap.size, 2, none⟩ (.int .i64 v2) (by show w1.heap.size ≠ w.heap.size + 1; omega)
  replace hb := hb.setCell (p := ⟨w1.heap.size, 2, none⟩) (by show w.heap.size ≤ w1.heap.size; omega) (.int .i64 v2)
  have RX := RW.set2 v2
  replace RV := RV.far ⟨w1.heap.size, 2, none⟩ (.int .i64 v2) (by show w1.heap.size ≠ w.heap.size; omega)
  have c0 := RW.c0
  have c1 := RW.c1
  have c2 := RW.c2
  have c3 := RW.c3
  have f0 := RW.f0
  have f1 := RW.f1
  have f2 := RW.f2
  have f3 := RW.f3
  go_wp2_with fail
  clear c0 c1 c2 c3 f0 f1 f2 f3 RW RT'
  have RW := RX
  clear RX
  rw [rounds_succ]
  go_wp2_with fail
  refine (refNum_any (w.heap.size + 1) S4 _ RT).mono ?_
  rintro e w5 ⟨v3, rfl, S5, n4, RT', y4⟩
  have N4 : Hid (RefNumIs S4 v3 S5) := n4
  replace RW := RW.only y4 hnv
  replace RV := RV.only y4 hne
  replace hb := only_below hb y4 (by omega)
  clear n4 y4 RT
  have RT := RT'.far ⟨w1.heap.size, 3, none⟩ (.int .i64 v3) (by show w1.heap.size ≠ w.heap.size + 1; omega)
  replace hb := hb.setCell (p := ⟨w1.heap.size, 3, none⟩) (by show w.heap.size ≤ w1.heap.size; omega) (.int .i64 v3)
  have RX := RW.set3 v3
  replace RV := RV.far ⟨w1.heap.size, 3, none⟩ (.int .i64 v3) (by show w1.heap.size ≠ w.heap.size; omega)
  have c0 := RW.c0
  have c1 := RW.c1
  have c2 := RW.c2
  have c3 := RW.c3
  have f0 := RW.f0
  have f1 := RW.f1
  have f2 := RW.f2
  have f3 := RW.f3
  go_wp2_with fail
  clear c0 c1 c2 c3 f0 f1 f2 f3 RW RT'
  have RW := RX
  clear RX
  rw [rounds_succ]
  have CH : Hid (∀ y, GoodAsk (toL s) y → y = ⟨site, v0, v1, v2, v3⟩) := refAsk_chain N0.out N1.out N2.out N3.out N4.out
  clear N0 N1 N2 N3 N4 RT
  have c0 := RW.c0
  have c1 := RW.c1
  have c2 := RW.c2
  have c3 := RW.c3
  go_wp2_with fail
  obtain ⟨t, n, hor, hcall⟩ := refAsk_any site v0 v1 v2 v3 (w5.setCell ⟨w1.heap.size, 3, none⟩ (.int .i64 v3))
  have HOR : Hid ((AskV.ok ⟨site, v0, v1, v2, v3⟩ = true ∧ n = 0 ∧ t = askS site v0 v1 v2 v3) ∨ (AskV.ok ⟨site, v0, v1, v2, v3⟩ = false ∧ n = 1)) := hor
  clear hor
  refine hcall.mono ?_
  rintro e w6 ⟨rfl, hb6⟩
  clear hcall
  replace RW := RW.later hb6
  replace RV := RV.later hb6
  replace hb := behind hb hb6
  clear hb6 c0 c1 c2 c3
  have c0 := RW.c0
  have c1 := RW.c1
  have c2 := RW.c2
  have c3 := RW.c3
  have k0 := RV.c0
  have k1 := RV.c1
  have k2 := RV.c2
  have k3 := RV.c3
  have g0 := RV.f0
  have g1 := RV.f1
  have g2 := RV.f2
  have g3 := RV.f3
  rcases HOR.out with ⟨o1, rfl, o3⟩ | ⟨o1, rfl⟩
  · have O3 : Hid (t = askS site v0 v1 v2 v3) := o3
    have O1 : Hid (AskV.ok ⟨site, v0, v1, v2, v3⟩ = true) := o1
    clear o1 o3 HOR
    by_cases ht : t = s
    · have et : (t.toList == s.toList) = true := by rw [strB, ht]; simp
      have YES : Hid (GoodAsk (toL s) ⟨site, v0, v1, v2, v3⟩) := ⟨O1.out, by rw [← ht, O3.out]; rfl⟩
      clear ht
      have RZ := (RV.set (x0 := v0) (x1 := v1) (x2 := v2) (x3 := v3)).drew
      have hbZ := ((((hb.setCell (p := ⟨w.heap.size, 0, none⟩) (Nat.le_refl _) (.int .i64 v0)).setCell (p := ⟨w.heap.size, 1, none⟩) (Nat.le_refl _) (.int .i64 v1)).setCell (p := ⟨w.heap.size, 2, none⟩) (Nat.le_refl _) (.int .i64 v2)).setCell (p := ⟨w.heap.size, 3, none⟩) (Nat.le_refl _) (.int .i64 v3)).drew
      go_wp2_with fail
      go_region
      all_goals (try go_wp2)
      refine bodyPost_ret (ask_results RZ rfl rfl rfl) rfl ⟨.inl ⟨⟨site, v0, v1, v2, v3⟩, YES.out, rfl⟩, hbZ⟩
    · have et : (t.toList == s.toList) = false := by rw [strB]; simp [ht]
      have NO : Hid (∀ x, ¬ GoodAsk (toL s) x) := fun x hx => by
        have e := CH.out x hx
        have h2 := hx.2
        rw [e] at h2
        exact ht (by rw [O3.out]; exact toL_inj h2)
      clear ht
      have RZ := RV.set (x0 := 0) (x1 := 0) (x2 := 0) (x3 := 0)
      have hbZ := (((hb.setCell (p := ⟨w.heap.size, 0, none⟩) (Nat.le_refl _) (.int .i64 0)).setCell (p := ⟨w.heap.size, 1, none⟩) (Nat.le_refl _) (.int .i64 0)).setCell (p := ⟨w.heap.size, 2, none⟩) (Nat.le_refl _) (.int .i64 0)).setCell (p := ⟨w.heap.size, 3, none⟩) (Nat.le_refl _) (.int .i64 0)
      go_wp2_with fail
      refine bodyPost_ret (ask_results RZ rfl rfl rfl) rfl ⟨.inr ⟨NO.out, rfl⟩, hbZ⟩
  · have NO : Hid (∀ x, ¬ GoodAsk (toL s) x) := fun x hx => by
      have e := CH.out x hx
      have h2 := hx.1
      rw [e, o1] at h2
      cases h2
    clear o1 HOR
    have RZ := RV.set (x0 := 0) (x1 := 0) (x2 := 0) (x3 := 0)
    have hbZ := (((hb.setCell (p := ⟨w.heap.size, 0, none⟩) (Nat.le_refl _) (.int .i64 0)).setCell (p := ⟨w.heap.size, 1, none⟩) (Nat.le_refl _) (.int .i64 0)).setCell (p := ⟨w.heap.size, 2, none⟩) (Nat.le_refl _) (.int .i64 0)).setCell (p := ⟨w.heap.size, 3, none⟩) (Nat.le_refl _) (.int .i64 0)
    go_wp2_with fail
    refine bodyPost_ret (ask_results RZ rfl rfl rfl) rfl ⟨.inr ⟨NO.out, rfl⟩, hbZ⟩

theorem refDecAsk_any (s : ByteArray) (w : World) : Calls Tryd.prog 25 #[.string s] w fun e w' => RefAskOut (toL s) w e w' := by
  by_cases h : s.size = 0
  · exact refDecAsk_none s w h
  · exact refDecAsk_some s w (by omega)

end Go.Proofs.YteebebahlegmlaaDoor
