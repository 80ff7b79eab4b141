/-
  'copselaw.WireReads': the walk: the law returns true, whatever the bytes are; nothing that was there is written.
-/
import Derived.Test.YteebebahlegmlaaDoorRefDecTx
import Derived.Test.YteebebahlegmlaaDoorSame
import Derived.Test.YteebebahlegmlaaDoorErrOf
namespace Go.Proofs.YteebebahlegmlaaDoor
open Go.RowKit

/-- bytes as a string, wherever they lie -/
theorem conv_bytes {w : World} {n : Nat} {a : Option Addr} {L : List UInt8} {c : Nat} (h : BytesAt w n a L) : (convert 44 9 (.slice a L.length c)).run Tryd.prog w = .ok (.string ⟨L.toArray⟩) w := by
  rcases h with rfl | ⟨b, o, rfl, _, hcell⟩
  · exact conv0 a c w
  · have := convAt (R := L) L.length c (Nat.le_refl _) hcell
    rw [List.take_length] at this
    exact this

theorem tx_dec (L : List UInt8) : ∃ (q0 q1 q2 q3 q4 q5 q6 q7 : Int) (l : List Wr) (n : Int) (ev : Value), SameErr ev n ∧
    (∀ w, L.length ≤ 300 → Calls Tryd.prog 23 #[.string ⟨L.toArray⟩] w fun e w' => ∃ aN capN, e = .returned (.tuple #[.agg #[.int .i64 q0, .int .i64 q1, .int .i64 q2, .int .i64 q3, .int .i64 q4, .int .i64 q5, .int .i64 q6, .int .i64 q7, .slice aN l.length capN], .int .i64 n]) ∧ WrIn w' aN capN l ∧ Below w.heap.size w w') ∧
    (∀ w a c, L.length ≤ 300 → BytesAt w w.heap.size a L → L.length ≤ c → Calls Tryd.prog 24 #[.slice a L.length c] w fun e w' => ∃ aN capN, e = .returned (.tuple #[.agg #[.int .i64 q0, .int .i64 q1, .int .i64 q2, .int .i64 q3, .int .i64 q4, .int .i64 q5, .int .i64 q6, .int .i64 q7, .slice aN l.length capN], ev]) ∧ WrIn w' aN capN l ∧ Below w.heap.size w w') := by
  by_cases h : ∃ x, Good L x
  · obtain ⟨x, hx⟩ := h
    refine ⟨x.site, x.seq, x.wall, x.count, x.d0, x.d1, x.d2, x.d3, x.l, 0, .nilIface, sameErr_nil, fun w hl => ?_, fun w a c hl hB hc => ?_⟩
    · refine (refDecTx_any ⟨L.toArray⟩ w (by show L.toArray.size ≤ _; simp; omega)).mono fun e w' ho => ?_
      rcases ho with ⟨⟨y, aN, capN, hy, hW, he⟩ | ⟨hno, _⟩, hb⟩
      · obtain rfl := good_one hx hy
        exact ⟨aN, capN, he, hW, hb⟩
      · exact absurd hx (hno x)
    · refine (decTx_any a L c w hB hc (by omega)).mono fun e w' ho => ?_
      rcases ho with ⟨⟨y, aN, capN, hy, hW, he⟩ | ⟨hno, _⟩, hb⟩
      · obtain rfl := good_one hx hy
        exact ⟨aN, capN, he, hW, hb⟩
      · exact absurd hx (hno x)
  · refine ⟨0, 0, 0, 0, 0, 0, 0, 0, [], 3, .iface 24 (.int .i64 3), sameErr_no 3, fun w hl => ?_, fun w a c hl hB hc => ?_⟩
    · refine (refDecTx_any ⟨L.toArray⟩ w (by show L.toArray.size ≤ _; simp; omega)).mono fun e w' ho => ?_
      rcases ho with ⟨⟨y, aN, capN, hy, hW, he⟩ | ⟨hno, he⟩, hb⟩
      · exact absurd ⟨y, hy⟩ h
      · exact ⟨none, 0, he, ⟨by simp, by omega, .inl rfl⟩, hb⟩
    · refine (decTx_any a L c w hB hc (by omega)).mono fun e w' ho => ?_
      rcases ho with ⟨⟨y, aN, capN, hy, hW, he⟩ | ⟨hno, he⟩, hb⟩
      · exact absurd ⟨y, hy⟩ h
      · exact ⟨none, 0, he, ⟨by simp, by omega, .inl rfl⟩, hb⟩

theorem ask_dec (L : List UInt8) : ∃ (site v0 v1 v2 v3 n : Int) (ev : Value), SameErr ev n ∧
    (∀ w, Calls Tryd.prog 25 #[.string ⟨L.toArray⟩] w fun e w' => e = .returned (.tuple #[.int .i64 site, .agg #[.int .i64 v0, .int .i64 v1, .int .i64 v2, .int .i64 v3], .int .i64 n]) ∧ Below w.heap.size w w') ∧
    (∀ w a c, L.length ≤ 300 → BytesAt w w.heap.size a L → L.length ≤ c → Calls Tryd.prog 26 #[.slice a L.length c] w fun e w' => e = .returned (.tuple #[.int .i64 site, .agg #[.int .i64 v0, .int .i64 v1, .int .i64 v2, .int .i64 v3], ev]) ∧ Below w.heap.size w w') := by
  by_cases h : ∃ x, GoodAsk L x
  · obtain ⟨x, hx⟩ := h
    refine ⟨x.site, x.a0, x.a1, x.a2, x.a3, 0, .nilIface, sameErr_nil, fun w => ?_, fun w a c hl hB hc => ?_⟩
    · refine (refDecAsk_any ⟨L.toArray⟩ w).mono fun e w' ho => ?_
      rcases ho with ⟨⟨y, hy, he⟩ | ⟨hno, _⟩, hb⟩
      · obtain rfl := goodAsk_one hx hy
        exact ⟨he, hb⟩
      · exact absurd hx (hno x)
    · refine (decAsk_any a L c w hB hc (by omega)).mono fun e w' ho => ?_
      rcases ho with ⟨⟨y, hy, he⟩ | ⟨hno, _⟩, hb⟩
      · obtain rfl := goodAsk_one hx hy
        exact ⟨he, hb⟩
      · exact absurd hx (hno x)
  · refine ⟨0, 0, 0, 0, 0, 3, .iface 24 (.int .i64 3), sameErr_no 3, fun w => ?_, fun w a c hl hB hc => ?_⟩
    · refine (refDecAsk_any ⟨L.toArray⟩ w).mono fun e w' ho => ?_
      rcases ho with ⟨⟨y, hy, he⟩ | ⟨hno, he⟩, hb⟩
      · exact absurd ⟨y, hy⟩ h
      · exact ⟨he, hb⟩
    · refine (decAsk_any a L c w hB hc (by omega)).mono fun e w' ho => ?_
      rcases ho with ⟨⟨y, hy, he⟩ | ⟨hno, he⟩, hb⟩
      · exact absurd ⟨y, hy⟩ h
      · exact ⟨he, hb⟩

set_option maxHeartbeats 4000000 in
theorem reads_true (a : Option Addr) (c : Nat) (L : List UInt8) (w : World) (hB : BytesAt w w.heap.size a L) (hc : L.length ≤ c) (hg : w.cell? ⟨0, 0, none⟩ = some (.iface 106 (.agg #[.pointer (some ⟨1, 28, none⟩)]))) :
    Calls Tryd.prog 5 #[.slice a L.length c] w fun e w' => e = .returned (.bool true) ∧ Below w.heap.size w w' := by
  obtain ⟨len, hlen⟩ : ∃ len, L.length = len := ⟨_, rfl⟩
  have HL : Hid (L.length = len) := hlen
  by_cases h300 : 300 < (len : Int)
  · rw [hlen]
    clear hlen
    go_enter Tryd.func5, Tryd.ntmps5
    go_wp2_with fail
    go_ret
    exact ⟨rfl, Below.refl _ _⟩
  · have hl : Hid (L.length ≤ 300) := by show L.length ≤ 300; omega
    obtain ⟨q0, q1, q2, q3, q4, q5, q6, q7, l, n, ev, se, tr, tw⟩ := tx_dec L
    obtain ⟨site, v0, v1, v2, v3, m, ev2, se2, ar, aw⟩ := ask_dec L
    have SE : Hid (SameErr ev n) := se
    have SE2 : Hid (SameErr ev2 m) := se2
    have TR : Hid _ := tr
    have TW : Hid _ := tw
    have AR : Hid _ := ar
    have AW : Hid _ := aw
    have HG : Hid (w.cell? ⟨0, 0, none⟩ = some (.iface 106 (.agg #[.pointer (some ⟨1, 28, none⟩)]))) := hg
    have HB : Hid (BytesAt w w.heap.size a L) := hB
    have HC : Hid (L.length ≤ c) := hc
    clear se se2 tr tw ar aw hg hB hc
    have cv : ∀ w', Below w.heap.size w w' → (convert 44 9 (.slice a len c)).run Tryd.prog w' = .ok (.string ⟨L.toArray⟩) w' := fun w' hb => by rw [← HL.out]; exact conv_bytes (HB.out.later hb hb.size)
    obtain ⟨s, hs⟩ : ∃ s : ByteArray, (⟨L.toArray⟩ : ByteArray) = s := ⟨_, rfl⟩
    have HS : Hid ((⟨L.toArray⟩ : ByteArray) = s) := hs
    rw [hs] at cv
    have CV : Hid (∀ w', Below w.heap.size w w' → (convert 44 9 (.slice a len c)).run Tryd.prog w' = .ok (.string s) w') := cv
    clear cv hs
    rw [hlen]
    clear hlen
    have k0 := CV.out w (Below.refl _ _)
    have eqv := eqVecB
    have sm := same4_self
    go_enter Tryd.func5, Tryd.ntmps5
    go_wp2_with fail
    clear k0
    rw [← HS.out]
    refine (TR.out _ hl.out).mono ?_
    rintro e w1 ⟨a1, cap1, rfl, W1, hb1⟩
    replace W1 := W1.later (boxed (Below.refl _ w1) (.cells #[.int .i64 q0, .int .i64 q1, .int .i64 q2, .int .i64 q3, .int .i64 q4, .int .i64 q5, .int .i64 q6, .int .i64 q7, .slice a1 l.length cap1] 40))
    have R1 := RowL.new (w := w1) (T := 40) [.int .i64 q0, .int .i64 q1, .int .i64 q2, .int .i64 q3, .int .i64 q4, .int .i64 q5, .int .i64 q6, .int .i64 q7, .slice a1 l.length cap1] rfl
    have hb := boxed hb1 (.cells #[.int .i64 q0, .int .i64 q1, .int .i64 q2, .int .i64 q3, .int .i64 q4, .int .i64 q5, .int .i64 q6, .int .i64 q7, .slice a1 l.length cap1] 40)
    clear hb1
    go_wp2_with fail
    rw [← HL.out]
    refine (TW.out _ a c hl.out (HB.out.later hb (by have := hb.size; omega)) HC.out).mono ?_
    rintro e w2 ⟨a2, cap2, rfl, W2, hb2⟩
    replace R1 := (R1.later hb2).boxed (.cells #[.int .i64 q0, .int .i64 q1, .int .i64 q2, .int .i64 q3, .int .i64 q4, .int .i64 q5, .int .i64 q6, .int .i64 q7, .slice a2 l.length cap2] 40)
    replace W1 := (W1.later hb2).later (boxed (Below.refl _ w2) (.cells #[.int .i64 q0, .int .i64 q1, .int .i64 q2, .int .i64 q3, .int .i64 q4, .int .i64 q5, .int .i64 q6, .int .i64 q7, .slice a2 l.length cap2] 40))
    replace W2 := W2.later (boxed (Below.refl _ w2) (.cells #[.int .i64 q0, .int .i64 q1, .int .i64 q2, .int .i64 q3, .int .i64 q4, .int .i64 q5, .int .i64 q6, .int .i64 q7, .slice a2 l.length cap2] 40))
    have R2 := RowL.new (w := w2) (T := 40) [.int .i64 q0, .int .i64 q1, .int .i64 q2, .int .i64 q3, .int .i64 q4, .int .i64 q5, .int .i64 q6, .int .i64 q7, .slice a2 l.length cap2] rfl
    replace hb := boxed (behind hb hb2) (.cells #[.int .i64 q0, .int .i64 q1, .int .i64 q2, .int .i64 q3, .int .i64 q4, .int .i64 q5, .int .i64 q6, .int .i64 q7, .slice a2 l.length cap2] 40)
    clear hb2
    rw [HL.out]
    have k0 := CV.out _ hb
    go_wp2_with fail
    clear k0
    rw [← HS.out]
    refine (AR.out _).mono ?_
    rintro e w3 ⟨rfl, hb3⟩
    replace R1 := (R1.later hb3).boxed (.cells #[.int .i64 v0, .int .i64 v1, .int .i64 v2, .int .i64 v3] 37)
    replace R2 := (R2.later hb3).boxed (.cells #[.int .i64 v0, .int .i64 v1, .int .i64 v2, .int .i64 v3] 37)
    replace W1 := (W1.later hb3).later (boxed (Below.refl _ w3) (.cells #[.int .i64 v0, .int .i64 v1, .int .i64 v2, .int .i64 v3] 37))
    replace W2 := (W2.later hb3).later (boxed (Below.refl _ w3) (.cells #[.int .i64 v0, .int .i64 v1, .int .i64 v2, .int .i64 v3] 37))
    have R3 := RowL.new (w := w3) (T := 37) [.int .i64 v0, .int .i64 v1, .int .i64 v2, .int .i64 v3] rfl
    replace hb := boxed (behind hb hb3) (.cells #[.int .i64 v0, .int .i64 v1, .int .i64 v2, .int .i64 v3] 37)
    clear hb3
    go_wp2_with fail
    rw [← HL.out]
    refine (AW.out _ a c hl.out (HB.out.later hb (by have := hb.size; omega)) HC.out).mono ?_
    rintro e w4 ⟨rfl, hb4⟩
    rw [HL.out]
    replace R1 := (R1.later hb4).boxed (.cells #[.int .i64 v0, .int .i64 v1, .int .i64 v2, .int .i64 v3] 37)
    replace R2 := (R2.later hb4).boxed (.cells #[.int .i64 v0, .int .i64 v1, .int .i64 v2, .int .i64 v3] 37)
    replace R3 := (R3.later hb4).boxed (.cells #[.int .i64 v0, .int .i64 v1, .int .i64 v2, .int .i64 v3] 37)
    replace W1 := (W1.later hb4).later (boxed (Below.refl _ w4) (.cells #[.int .i64 v0, .int .i64 v1, .int .i64 v2, .int .i64 v3] 37))
    replace W2 := (W2.later hb4).later (boxed (Below.refl _ w4) (.cells #[.int .i64 v0, .int .i64 v1, .int .i64 v2, .int .i64 v3] 37))
    have R4 := RowL.new (w := w4) (T := 37) [.int .i64 v0, .int .i64 v1, .int .i64 v2, .int .i64 v3] rfl
    replace hb := boxed (behind hb hb4) (.cells #[.int .i64 v0, .int .i64 v1, .int .i64 v2, .int .i64 v3] 37)
    clear hb4
    go_wp2_with fail
    refine (SE.out _ (cell_later hb HG.out)).mono ?_
    rintro e w5 ⟨rfl, hb5⟩
    replace R1 := R1.later hb5
    replace R2 := R2.later hb5
    replace R3 := R3.later hb5
    replace R4 := R4.later hb5
    replace W1 := W1.later hb5
    replace W2 := W2.later hb5
    replace hb := behind hb hb5
    clear hb5
    have c0 := R1.cell 0 _ rfl
    have d0 := R2.cell 0 _ rfl
    have c1 := R1.cell 1 _ rfl
    have d1 := R2.cell 1 _ rfl
    have c2 := R1.cell 2 _ rfl
    have d2 := R2.cell 2 _ rfl
    have c3 := R1.cell 3 _ rfl
    have d3 := R2.cell 3 _ rfl
    have c4 := R1.cell 4 _ rfl
    have d4 := R2.cell 4 _ rfl
    have c5 := R1.cell 5 _ rfl
    have d5 := R2.cell 5 _ rfl
    have c6 := R1.cell 6 _ rfl
    have d6 := R2.cell 6 _ rfl
    have c7 := R1.cell 7 _ rfl
    have d7 := R2.cell 7 _ rfl
    have c8 := R1.cell 8 _ rfl
    have d8 := R2.cell 8 _ rfl
    go_wp2_with fail
    refine (same_any _ _ _ _ _ _ _ _ _ _ _ _ l _ W2 W1).mono ?_
    rintro e w6 ⟨rfl, hb6⟩
    replace R3 := R3.later hb6
    replace R4 := R4.later hb6
    replace hb := behind hb hb6
    clear hb6 c0 c1 c2 c3 c4 c5 c6 c7 c8 d0 d1 d2 d3 d4 d5 d6 d7 d8 R1 R2 W1 W2
    go_wp2_with fail
    refine (SE2.out _ (cell_later hb HG.out)).mono ?_
    rintro e w7 ⟨rfl, hb7⟩
    replace R3 := R3.later hb7
    replace R4 := R4.later hb7
    replace hb := behind hb hb7
    clear hb7
    have c0 := R3.cell 0 _ rfl
    have d0 := R4.cell 0 _ rfl
    have c1 := R3.cell 1 _ rfl
    have d1 := R4.cell 1 _ rfl
    have c2 := R3.cell 2 _ rfl
    have d2 := R4.cell 2 _ rfl
    have c3 := R3.cell 3 _ rfl
    have d3 := R4.cell 3 _ rfl
    go_wp2_with fail
    go_ret
    exact ⟨rfl, hb⟩

end Go.Proofs.YteebebahlegmlaaDoor
