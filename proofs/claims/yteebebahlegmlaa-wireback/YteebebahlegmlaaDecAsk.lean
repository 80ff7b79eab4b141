/-
  What wire.DecodeAsk does, as the model runs it: the ask that the bytes are, or ErrForm where they are none.
-/
import Derived.Test.YteebebahlegmlaaReadWrite
namespace Go.Proofs.Yteebebahlegmlaa
open Go.RowKit

theorem NumIs.sound {most : Int} {R R' : List UInt8} {wrong wrong' : Bool} {v : Int} (h : NumIs most R wrong v R' wrong') (hx : wrong' = false) : wrong = false ∧ (0 ≤ v ∧ v ≤ most) ∧ R = numL 5 v ++ R' := by
  rcases h.2 with ⟨h1, h2, h3⟩ | ⟨_, _, h3⟩
  · obtain ⟨⟨s0, _⟩, s1⟩ := rd_sound 5 R v R' h1
    exact ⟨by rw [← h3]; exact hx, ⟨s0, h2⟩, s1⟩
  · rw [hx] at h3; cases h3
theorem NumIs.full {most : Int} {R R' : List UInt8} {wrong wrong' : Bool} {v n : Int} {r : List UInt8} (h : NumIs most R wrong v R' wrong') (hw : wrong = false) (hR : R = numL 5 n ++ r) (h0 : 0 ≤ n) (h1 : n ≤ most) (hm : most ≤ 1099511627776) : v = n ∧ R' = r ∧ wrong' = false := by
  have e := rd_num 5 n r h0 (by rw [pow6]; omega)
  rw [← hR] at e
  rcases h.2 with ⟨h2, _, h3⟩ | ⟨h2, _, _⟩
  · rw [e] at h2
    injection h2 with h2
    injection h2 with h4 h5
    exact ⟨h4.symm, h5.symm, by rw [h3, hw]⟩
  · exact absurd h1 (h2 n r e)

/-- the first byte -/
def KindIs (R : List UInt8) (wrong : Bool) (c : UInt8) (R' : List UInt8) (wrong' : Bool) : Prop := (wrong' = false ↔ wrong = false ∧ R = c :: R') ∧ R'.length ≤ R.length ∧ (∀ r, R = c :: r → R' = r)

theorem doneB_iff {R : List UInt8} {wrong : Bool} : doneB R wrong = true ↔ wrong = false ∧ R = [] := by cases wrong <;> simp [doneB]

theorem ask_chain {L R0 R1 R2 R3 R4 R5 : List UInt8} {x0 x1 x2 x3 x4 x5 : Bool} {site v0 v1 v2 v3 : Int} (hK : KindIs L false 97 R0 x0) (hS : NumIs 3 R0 x0 site R1 x1) (h0 : NumIs 1099511627776 R1 x1 v0 R2 x2) (h1 : NumIs 1099511627776 R2 x2 v1 R3 x3) (h2 : NumIs 1099511627776 R3 x3 v2 R4 x4) (h3 : NumIs 1099511627776 R4 x4 v3 R5 x5) :
    (doneB R5 x5 = true → GoodAsk L ⟨site, v0, v1, v2, v3⟩) ∧ (∀ y, GoodAsk L y → doneB R5 x5 = true) := by
  constructor
  · intro h
    obtain ⟨hx, hR⟩ := doneB_iff.1 h
    obtain ⟨e4, b3, q3⟩ := h3.sound hx
    obtain ⟨e3, b2, q2⟩ := h2.sound e4
    obtain ⟨e2, b1, q1⟩ := h1.sound e3
    obtain ⟨e1, b0, q0⟩ := h0.sound e2
    obtain ⟨e0, bs, qs⟩ := hS.sound e1
    obtain ⟨_, qk⟩ := hK.1.1 e0
    refine ⟨?_, ?_⟩
    · simp only [AskV.ok, Bool.and_eq_true, inB_iff, timesB, timeB_iff]
      exact ⟨⟨bs.1, bs.2⟩, ⟨⟨b0, b1⟩, b2⟩, b3⟩
    · show toL (askS site v0 v1 v2 v3) = L
      rw [askS_toL, qk, qs, q0, q1, q2, q3, hR]
      rfl
  · rintro ⟨s, a0, a1, a2, a3⟩ hy
    obtain ⟨bs, b0, b1, b2, b3⟩ := ask_parts hy.1
    have e : L = askL s a0 a1 a2 a3 [] := hy.2.symm.trans (askS_toL s a0 a1 a2 a3)
    unfold askL at e
    have r0 := hK.2.2 _ e
    have y0 := hK.1.2 ⟨rfl, by rw [r0]; exact e⟩
    obtain ⟨_, r1, y1⟩ := hS.full y0 r0 bs.1 bs.2 (by decide)
    obtain ⟨_, r2, y2⟩ := h0.full y1 r1 b0.1 b0.2 (by decide)
    obtain ⟨_, r3, y3⟩ := h1.full y2 r2 b1.1 b1.2 (by decide)
    obtain ⟨_, r4, y4⟩ := h2.full y3 r3 b2.1 b2.2 (by decide)
    obtain ⟨_, r5, y5⟩ := h3.full y4 r4 b3.1 b3.2 (by decide)
    exact doneB_iff.2 ⟨y5, r5⟩

/-- a reader, new -/
theorem Rd.new {w : World} {a : Option Addr} {L : List UInt8} {c T n : Nat} (hn : w.heap.size = n) (hc : L.length ≤ c) (hB : BytesAt w n a L) : Rd (w.alloc (.cells #[.slice a L.length c, .bool false] T)) n L false := by
  subst hn
  refine ⟨⟨a, c, by go_simp, hc, ?_⟩, by go_simp, by go_simp, by go_simp⟩
  rcases hB with hB | ⟨b, o, ea, hne, hcell⟩
  · exact .inl hB
  · refine .inr ⟨b, o, ea, hne, fun j u hu => ?_⟩
    exact cell_later (boxed (Below.refl _ _) _) (hcell j u hu)
theorem BytesAt.later {w w' : World} {n n' : Nat} {a : Option Addr} {L : List UInt8} (h : BytesAt w n a L) (hb : Below w.heap.size w w') (hn : n ≤ n') : BytesAt w' n' a L := by
  rcases h with h | ⟨b, o, ea, hne, hcell⟩
  · exact .inl h
  · exact .inr ⟨b, o, ea, by omega, fun j u hu => cell_later hb (hcell j u hu)⟩

/-- what was there before the reader is as it was -/
theorem only_below {g : Nat} {W w w' : World} (h : Below W.heap.size W w) (hO : Only g w w') (hg : W.heap.size ≤ g) : Below W.heap.size W w' := h.trans (hO.below hg h.size)

def AskOut (L : List UInt8) (w : World) (e : Ending) (w' : World) : Prop :=
  ((∃ x : AskV, GoodAsk L x ∧ e = .returned (.tuple #[.int .i64 x.site, .agg #[.int .i64 x.a0, .int .i64 x.a1, .int .i64 x.a2, .int .i64 x.a3], .nilIface])) ∨
   ((∀ x, ¬ GoodAsk L x) ∧ e = .returned (.tuple #[.int .i64 0, .agg #[.int .i64 0, .int .i64 0, .int .i64 0, .int .i64 0], .iface 56 (.int .i64 3)]))) ∧ Below w.heap.size w w'

set_option maxHeartbeats 4000000 in
theorem decAsk_any (a : Option Addr) (L : List UInt8) (c : Nat) (w : World) (hB : BytesAt w w.heap.size a L) (hc : L.length ≤ c) (hl : L.length ≤ 1000000) :
    Calls Try.prog 25 #[.slice a L.length c] w fun e w' => AskOut L w e w' := by
  have RV := (Row4.new w 34 0 0 0 0).boxed (.cells #[.slice a L.length c, .bool false] 64)
  have D := Rd.new (w := w.alloc (.cells #[.int .i64 0, .int .i64 0, .int .i64 0, .int .i64 0] 34)) (n := w.heap.size + 1) (T := 64) (by simp) hc (hB.later (boxed (Below.refl _ _) _) (by omega))
  have hb := boxed (boxed (Below.refl _ w) (.cells #[.int .i64 0, .int .i64 0, .int .i64 0, .int .i64 0] 34)) (.cells #[.slice a L.length c, .bool false] 64)
  have hne : w.heap.size ≠ w.heap.size + 1 := by omega
  go_enter Try.func25, Try.ntmps25
  go_wp2_with fail
  refine (kind_any (w.heap.size + 1) L false 97 _ D hl).mono ?_
  rintro e w1 ⟨rfl, R0, x0, k0, D0, y0⟩
  have K0 : Hid (KindIs L false 97 R0 x0) := k0
  replace RV := RV.only y0 hne
  replace hb := only_below hb y0 (by omega)
  clear k0 y0 D
  go_wp2_with fail
  refine (rdNumber_any (w.heap.size + 1) R0 x0 3 _ D0).mono ?_
  rintro e w2 ⟨site, rfl, R1, x1, n1, D1, y1⟩
  have N1 : Hid (NumIs 3 R0 x0 site R1 x1) := n1
  replace RV := RV.only y1 hne
  replace hb := only_below hb y1 (by omega)
  clear n1 y1 D0
  go_wp2_with fail
  refine (vec_any (w.heap.size + 1) R1 x1 _ D1).mono ?_
  rintro e w3 ⟨v0, v1, v2, v3, rfl, R2, x2, R3, x3, R4, x4, R5, x5, m0, m1, m2, m3, D2, y2⟩
  have CH : Hid ((doneB R5 x5 = true → GoodAsk L ⟨site, v0, v1, v2, v3⟩) ∧ (∀ y, GoodAsk L y → doneB R5 x5 = true)) := ask_chain K0.out N1.out m0 m1 m2 m3
  replace RV := RV.only y2 hne
  replace hb := only_below hb y2 (by omega)
  clear m0 m1 m2 m3 y2 D1
  have RH := Row4.new w3 34 v0 v1 v2 v3
  replace RV := RV.boxed (.cells #[.int .i64 v0, .int .i64 v1, .int .i64 v2, .int .i64 v3] 34)
  replace D2 := D2.alloc (.cells #[.int .i64 v0, .int .i64 v1, .int .i64 v2, .int .i64 v3] 34)
  replace hb := boxed hb (.cells #[.int .i64 v0, .int .i64 v1, .int .i64 v2, .int .i64 v3] 34)
  go_wp2_with fail
  refine (isDone_any (w.heap.size + 1) R5 x5 _ D2).mono ?_
  rintro e w4 ⟨rfl, hb4⟩
  replace RV := RV.later hb4
  replace RH := RH.later hb4
  replace hb := behind hb hb4
  clear hb4 D2
  have k0 := RV.c0
  have k1 := RV.c1
  have k2 := RV.c2
  have k3 := RV.c3
  have f0 := RV.f0
  have f1 := RV.f1
  have f2 := RV.f2
  have f3 := RV.f3
  cases hd : doneB R5 x5
  · have NO : Hid (∀ x, ¬ GoodAsk L x) := fun x hx => by rw [CH.out.2 x hx] at hd; cases hd
    clear hd
    have RZ := RV.set (x0 := 0) (x1 := 0) (x2 := 0) (x3 := 0)
    go_wp2_with fail
    have z0 := RZ.c0
    have z1 := RZ.c1
    have z2 := RZ.c2
    have z3 := RZ.c3
    exact bodyPost_ret (v := .tuple #[.int .i64 0, .agg #[.int .i64 0, .int .i64 0, .int .i64 0, .int .i64 0], .iface 56 (.int .i64 3)]) (by simp [results, Try.results25, go_sem, z0, z1, z2, z3]) rfl ⟨.inr ⟨NO.out, rfl⟩, (((hb.setCell (Nat.le_refl _) _).setCell (Nat.le_refl _) _).setCell (Nat.le_refl _) _).setCell (Nat.le_refl _) _⟩
  · have YES : Hid (GoodAsk L ⟨site, v0, v1, v2, v3⟩) := CH.out.1 hd
    clear hd
    have c0 := RH.c0
    have c1 := RH.c1
    have c2 := RH.c2
    have c3 := RH.c3
    have RZ := RV.set (x0 := v0) (x1 := v1) (x2 := v2) (x3 := v3)
    go_wp2_with fail
    go_region
    all_goals (try go_wp2)
    have z0 := RZ.drew.c0
    have z1 := RZ.drew.c1
    have z2 := RZ.drew.c2
    have z3 := RZ.drew.c3
    exact bodyPost_ret (v := .tuple #[.int .i64 site, .agg #[.int .i64 v0, .int .i64 v1, .int .i64 v2, .int .i64 v3], .nilIface]) (by simp [results, Try.results25, go_sem, z0, z1, z2, z3]) rfl ⟨.inl ⟨⟨site, v0, v1, v2, v3⟩, YES.out, rfl⟩, ((((hb.setCell (Nat.le_refl _) _).setCell (Nat.le_refl _) _).setCell (Nat.le_refl _) _).setCell (Nat.le_refl _) _).drew⟩

end Go.Proofs.Yteebebahlegmlaa
