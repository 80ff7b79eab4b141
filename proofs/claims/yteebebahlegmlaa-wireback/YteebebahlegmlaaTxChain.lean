/-
  What reading a transaction amounts to; no Go in sight.
-/
import Derived.Test.YteebebahlegmlaaDecAsk
namespace Go.Proofs.Yteebebahlegmlaa
open Go.RowKit

theorem take_sound {R R' : List UInt8} {wrong wrong' : Bool} {n : Int} {s : ByteArray} (h : TakeIs R wrong n s R' wrong') (hx : wrong' = false) (n0 : 0 ≤ n) : wrong = false ∧ (s.size : Int) = n ∧ R = toL s ++ R' := by
  rcases h with ⟨h1, h2, h3, h4⟩ | ⟨_, _, _, h4⟩
  · refine ⟨by rw [← h4]; exact hx, ?_, by rw [h2, h3, List.take_append_drop]⟩
    have : (toL s).length = n.toNat := by rw [h2, List.length_take]; omega
    rw [toL_length] at this
    omega
  · rw [hx] at h4; cases h4
theorem take_full {R R' : List UInt8} {wrong wrong' : Bool} {n : Int} {s d : ByteArray} {r : List UInt8} (h : TakeIs R wrong n s R' wrong') (hw : wrong = false) (hn : n = (d.size : Int)) (hR : R = toL d ++ r) : s = d ∧ R' = r ∧ wrong' = false := by
  have hl : (toL d).length = n.toNat := by rw [toL_length]; omega
  rcases h with ⟨h1, h2, h3, h4⟩ | ⟨h1, _, _, _⟩
  · refine ⟨toL_inj ?_, ?_, by rw [h4, hw]⟩
    · rw [h2, hR, ← hl, List.take_left]
    · rw [h3, hR, ← hl, List.drop_left]
  · rw [hR, List.length_append] at h1
    omega

theorem write_sound {R R' : List UInt8} {wrong wrong' : Bool} {key : Int} {data : ByteArray} {gone : Bool} (h : WriteIs R wrong key data gone R' wrong') (hx : wrong' = false) : wrong = false ∧ R = wrL ⟨key, data, gone⟩ ++ R' := by
  obtain ⟨R0, x0, R1, x1, R2, x2, g, n, n0, n1, hg, n2, t⟩ := h
  obtain ⟨e2, s2, q3⟩ := take_sound t hx n2.nonneg
  obtain ⟨e1, _, q2⟩ := n2.sound e2
  obtain ⟨e0, b1, q1⟩ := n1.sound e1
  obtain ⟨e, _, q0⟩ := n0.sound e0
  refine ⟨e, ?_⟩
  have hgi : g = if gone then 1 else 0 := by
    rw [hg]
    have : g = 0 ∨ g = 1 := by omega
    rcases this with rfl | rfl <;> rfl
  simp only [wrL, List.append_assoc]
  rw [q0, q1, q2, q3, ← hgi, s2]
theorem write_full {R R' : List UInt8} {wrong wrong' : Bool} {key : Int} {data : ByteArray} {gone : Bool} {y : Wr} {r : List UInt8} (h : WriteIs R wrong key data gone R' wrong') (hw : wrong = false) (hR : R = wrL y ++ r) (hy : 0 ≤ y.key ∧ y.key ≤ 7 ∧ y.data.size ≤ 12) :
    (⟨key, data, gone⟩ : Wr) = y ∧ R' = r ∧ wrong' = false := by
  obtain ⟨R0, x0, R1, x1, R2, x2, g, n, n0, n1, hg, n2, t⟩ := h
  simp only [wrL, List.append_assoc] at hR
  obtain ⟨a0, r0, e0⟩ := n0.full hw hR hy.1 hy.2.1 (by decide)
  obtain ⟨a1, r1, e1⟩ := n1.full e0 r0 (by cases y.gone <;> decide) (by cases y.gone <;> decide) (by decide)
  obtain ⟨a2, r2, e2⟩ := n2.full e1 r1 (by omega) (by omega) (by decide)
  obtain ⟨a3, r3, e3⟩ := take_full t e2 a2 r2
  refine ⟨?_, r3, e3⟩
  obtain ⟨yk, yd, yg⟩ := y
  simp only at a0 a1 a3
  have : gone = yg := by
    rw [hg, a1]
    cases yg <;> rfl
  rw [a0, a3, this]
theorem write_length {R R' : List UInt8} {wrong wrong' : Bool} {key : Int} {data : ByteArray} {gone : Bool} (h : WriteIs R wrong key data gone R' wrong') : R'.length ≤ R.length := by
  obtain ⟨R0, x0, R1, x1, R2, x2, g, n, n0, n1, hg, n2, t⟩ := h
  have a0 := n0.1
  have a1 := n1.1
  have a2 := n2.1
  have a3 := take_length t
  omega

/-- writes, one behind the other -/
inductive WsIs (R : List UInt8) (x : Bool) : List Wr → List UInt8 → Bool → Prop
  | nil : WsIs R x [] R x
  | snoc {l : List Wr} {R1 R2 : List UInt8} {x1 x2 : Bool} {key : Int} {data : ByteArray} {gone : Bool} : WsIs R x l R1 x1 → WriteIs R1 x1 key data gone R2 x2 → WsIs R x (l ++ [⟨key, data, gone⟩]) R2 x2

theorem wrsL_snoc (l : List Wr) (x : Wr) : wrsL (l ++ [x]) = wrsL l ++ wrL x := by simp [wrsL]
theorem ws_sound {R R' : List UInt8} {x x' : Bool} {l : List Wr} (h : WsIs R x l R' x') : x' = false → x = false ∧ R = wrsL l ++ R' := by
  induction h with
  | nil => exact fun e => ⟨e, rfl⟩
  | snoc _ hw ih =>
    intro e
    obtain ⟨e1, q1⟩ := write_sound hw e
    obtain ⟨e0, q0⟩ := ih e1
    exact ⟨e0, by rw [q0, q1, wrsL_snoc, List.append_assoc]⟩
theorem ws_full {R R' : List UInt8} {x x' : Bool} {l m : List Wr} {r : List UInt8} (h : WsIs R x l R' x') (hx : x = false) (hR : R = wrsL m ++ r) (hm : ∀ y ∈ m, 0 ≤ y.key ∧ y.key ≤ 7 ∧ y.data.size ≤ 12) :
    l.length ≤ m.length → l = m.take l.length ∧ R' = wrsL (m.drop l.length) ++ r ∧ x' = false := by
  induction h with
  | nil => exact fun _ => ⟨by simp, by simpa using hR, hx⟩
  | @snoc l R1 R2 x1 x2 key data gone _ hw ih =>
    intro hl
    rw [List.length_append, List.length_singleton] at hl ⊢
    obtain ⟨q0, q1, q2⟩ := ih (by omega)
    have hk : l.length < m.length := by omega
    have e : wrsL (m.drop l.length) = wrL m[l.length] ++ wrsL (m.drop (l.length + 1)) := by
      unfold wrsL
      rw [List.drop_eq_getElem_cons hk, List.flatMap_cons]
    rw [e, List.append_assoc] at q1
    obtain ⟨a, b, c⟩ := write_full hw q2 q1 (hm _ (List.getElem_mem hk))
    refine ⟨?_, b, c⟩
    rw [a, List.take_succ_eq_append_getElem hk, ← q0]
theorem ws_length {R R' : List UInt8} {x x' : Bool} {l : List Wr} (h : WsIs R x l R' x') : R'.length ≤ R.length := by
  induction h with
  | nil => exact Nat.le_refl _
  | snoc _ hw ih => exact Nat.le_trans (write_length hw) ih

theorem tx_chain {L R0 R1 R2 R3 R4 R5 R6 R7 R8 R9 R10 : List UInt8} {x0 x1 x2 x3 x4 x5 x6 x7 x8 x9 x10 : Bool} {site seq wall count v0 v1 v2 v3 nw : Int} {l : List Wr}
    (hK : KindIs L false 116 R0 x0) (h1 : NumIs 3 R0 x0 site R1 x1) (h2 : NumIs 1099511627776 R1 x1 seq R2 x2) (h3 : NumIs 1099511627776 R2 x2 wall R3 x3) (h4 : NumIs 1099511627776 R3 x3 count R4 x4)
    (h5 : NumIs 1099511627776 R4 x4 v0 R5 x5) (h6 : NumIs 1099511627776 R5 x5 v1 R6 x6) (h7 : NumIs 1099511627776 R6 x6 v2 R7 x7) (h8 : NumIs 1099511627776 R7 x7 v3 R8 x8) (h9 : NumIs 5 R8 x8 nw R9 x9) (hW : WsIs R9 x9 l R10 x10) (hl : (l.length : Int) = nw) :
    (doneB R10 x10 = true → toL (txS site seq wall count v0 v1 v2 v3 l) = L) ∧ (∀ y, Good L y → doneB R10 x10 = true ∧ y = ⟨site, seq, wall, count, v0, v1, v2, v3, l⟩) := by
  constructor
  · intro h
    obtain ⟨hx, hR⟩ := doneB_iff.1 h
    obtain ⟨e9, q10⟩ := ws_sound hW hx
    obtain ⟨e8, _, q9⟩ := h9.sound e9
    obtain ⟨e7, _, q8⟩ := h8.sound e8
    obtain ⟨e6, _, q7⟩ := h7.sound e7
    obtain ⟨e5, _, q6⟩ := h6.sound e6
    obtain ⟨e4, _, q5⟩ := h5.sound e5
    obtain ⟨e3, _, q4⟩ := h4.sound e4
    obtain ⟨e2, _, q3⟩ := h3.sound e3
    obtain ⟨e1, _, q2⟩ := h2.sound e2
    obtain ⟨e0, _, q1⟩ := h1.sound e1
    obtain ⟨_, qk⟩ := hK.1.1 e0
    rw [txS_toL, qk, q1, q2, q3, q4, q5, q6, q7, q8, q9, q10, hR, hl, List.append_nil]
    rfl
  · rintro ⟨s, q, wl, ct, a0, a1, a2, a3, m⟩ hy
    obtain ⟨bs, bq, bw, bc, b0, b1, b2, b3, bm⟩ := ok_parts hy.1
    simp only at bs bq bw bc b0 b1 b2 b3 bm
    have hlen := okWs_len bm
    have e : L = headL s q wl ct a0 a1 a2 a3 m.length (wrsL m) := hy.2.symm.trans (txS_toL s q wl ct a0 a1 a2 a3 m)
    unfold headL at e
    have r0 := hK.2.2 _ e
    have y0 := hK.1.2 ⟨rfl, by rw [r0]; exact e⟩
    obtain ⟨z1, r1, y1⟩ := h1.full y0 r0 bs.1 bs.2 (by decide)
    obtain ⟨z2, r2, y2⟩ := h2.full y1 r1 (by omega) bq.2 (by decide)
    obtain ⟨z3, r3, y3⟩ := h3.full y2 r2 bw.1 bw.2 (by decide)
    obtain ⟨z4, r4, y4⟩ := h4.full y3 r3 bc.1 bc.2 (by decide)
    obtain ⟨z5, r5, y5⟩ := h5.full y4 r4 b0.1 b0.2 (by decide)
    obtain ⟨z6, r6, y6⟩ := h6.full y5 r5 b1.1 b1.2 (by decide)
    obtain ⟨z7, r7, y7⟩ := h7.full y6 r6 b2.1 b2.2 (by decide)
    obtain ⟨z8, r8, y8⟩ := h8.full y7 r7 b3.1 b3.2 (by decide)
    obtain ⟨z9, r9, y9⟩ := h9.full y8 r8 (by omega) (by omega) (by decide)
    have hlm : l.length = m.length := by omega
    obtain ⟨w1, w2, w3⟩ := ws_full (m := m) (r := []) hW y9 (by simpa using r9) (okWs_mem bm) (by omega)
    have hlm2 : l = m := by rw [hlm, List.take_length] at w1; exact w1
    refine ⟨doneB_iff.2 ⟨w3, ?_⟩, ?_⟩
    · rw [w2, hlm, List.drop_length]
      rfl
    · rw [z1, z2, z3, z4, z5, z6, z7, z8, hlm2]

end Go.Proofs.Yteebebahlegmlaa
