/-
  What wire.DecodeTx does, as the model runs it: the transaction that the bytes are, or ErrForm where they are none.
-/
import Derived.Test.YteebebahlegmlaaTxChain
import Derived.Test.YteebebahlegmlaaRows9
import Derived.Test.YteebebahlegmlaaWireRightTx
namespace Go.Proofs.Yteebebahlegmlaa
open Go.RowKit

theorem Rd.drew {w : World} {rb : Nat} {R : List UInt8} {wrong : Bool} (h : Rd w rb R wrong) : Rd w.drew rb R wrong := h.kept fun _ _ => rfl
theorem Rd.grown {w w' : World} {rb : Nat} {R : List UInt8} {wrong : Bool} {r : Option Nat} (h : Rd w rb R wrong) (hg : w.grownBy w' r) (hr : ∀ k, r = some k → rb < k) : Rd w' rb R wrong := by
  obtain ⟨a, c, q0, hc, hB⟩ := h.rest
  have e := hg.block rb h.lt (fun x => by have := hr rb x.symm; omega)
  refine ⟨⟨a, c, by rw [World.cell?_of_block (w := w) e]; exact q0, hc, ?_⟩, by rw [World.cell?_of_block (w := w) e]; exact h.c1, by rw [World.frozen?_of_block (w := w) e]; exact h.f0, by rw [World.frozen?_of_block (w := w) e]; exact h.f1⟩
  rcases hB with hB | ⟨b, o, ea, hne, hcell⟩
  · exact .inl hB
  · refine .inr ⟨b, o, ea, hne, fun j u hu => ?_⟩
    have hx := hcell j u hu
    rw [World.cell?_of_block (w := w) (hg.block b (World.block_lt_of_cell? _ _ hx) (fun x => by have := hr b x.symm; omega))]
    exact hx
theorem owns_far {w w' : World} {B : Nat} {T : TypeId} {v : Value} {n : Nat} {xs : List Value} {rb : Nat} (h : w.ownsRow B T 3 v n xs) (hO : Only rb w w') (hr : rb < B) : w'.ownsRow B T 3 v n xs := by
  refine h.kept hO ?_
  cases hv : v.ownBlock with
  | none => exact .inl rfl
  | some k =>
    refine .inr (fun e => ?_)
    injection e with e
    have := (h.lt k hv).1
    omega
theorem own_later {w w' : World} {B : Nat} {T : TypeId} {v : Value} {n : Nat} {xs : List Value} (h : w.ownsRow B T 3 v n xs) (hb : Below w.heap.size w w') : w'.ownsRow B T 3 v n xs :=
  h.kept (row := none) ⟨hb.os, hb.tape, hb.output, hb.size, fun k hk _ => hb.block k hk⟩ (by cases v.ownBlock <;> simp)
theorem own_rows {w : World} {B : Nat} {T : TypeId} {v : Value} {n : Nat} {xs : List Value} (h : w.ownsRow B T 3 v n xs) : ∀ k, v.ownBlock = some k → B ≤ k := fun k hk => (h.lt k hk).1

theorem writeInfo : (Try.prog.info? 43).map (fun i => (i.zero, i.size, i.bytes)) = some (some (.agg #[.int .i64 0, .string ⟨#[]⟩, .bool false]), 3, 32) := by kernel_rfl

def txA (site seq wall count d0 d1 d2 d3 : Int) (v : Value) : List Value := [.int .i64 site, .int .i64 seq, .int .i64 wall, .int .i64 count, .int .i64 d0, .int .i64 d1, .int .i64 d2, .int .i64 d3, v]

def TxOut (L : List UInt8) (w : World) (e : Ending) (w' : World) : Prop :=
  ((∃ (x : TxV) (a : Option Addr) (cap : Nat), Good L x ∧ WrIn w' a cap x.l ∧ e = .returned (.tuple #[.agg #[.int .i64 x.site, .int .i64 x.seq, .int .i64 x.wall, .int .i64 x.count, .int .i64 x.d0, .int .i64 x.d1, .int .i64 x.d2, .int .i64 x.d3, .slice a x.l.length cap], .nilIface])) ∨
   ((∀ x, ¬ Good L x) ∧ e = .returned (.tuple #[.agg #[.int .i64 0, .int .i64 0, .int .i64 0, .int .i64 0, .int .i64 0, .int .i64 0, .int .i64 0, .int .i64 0, .slice none 0 0], .iface 56 (.int .i64 3)]))) ∧ Below w.heap.size w w'

/-- what is handed back: the transaction in the result's box, and the error -/
theorem dec_results {tmps : Array Value} {w : World} {b : Nat} {q0 q1 q2 q3 q4 q5 q6 q7 q8 ev : Value} (h : RowL w b [q0, q1, q2, q3, q4, q5, q6, q7, q8]) (h2 : tmps[2]? = some (.pointer (some ⟨b, 0, none⟩))) (h3 : tmps[3]? = some ev)
    (p0 : ∃ n, q0 = .int .i64 n) (p1 : ∃ n, q1 = .int .i64 n) (p2 : ∃ n, q2 = .int .i64 n) (p3 : ∃ n, q3 = .int .i64 n) (p4 : ∃ n, q4 = .int .i64 n) (p5 : ∃ n, q5 = .int .i64 n) (p6 : ∃ n, q6 = .int .i64 n) (p7 : ∃ n, q7 = .int .i64 n) (p8 : ∃ a n c, q8 = .slice a n c) :
    (results Try.f23 tmps).run Try.prog w = .ok (.tuple #[.agg #[q0, q1, q2, q3, q4, q5, q6, q7, q8], ev]) w := by
  obtain ⟨n0, rfl⟩ := p0
  obtain ⟨n1, rfl⟩ := p1
  obtain ⟨n2, rfl⟩ := p2
  obtain ⟨n3, rfl⟩ := p3
  obtain ⟨n4, rfl⟩ := p4
  obtain ⟨n5, rfl⟩ := p5
  obtain ⟨n6, rfl⟩ := p6
  obtain ⟨n7, rfl⟩ := p7
  obtain ⟨a, n, c, rfl⟩ := p8
  have z0 := h.cell 0 _ rfl
  have z1 := h.cell 1 _ rfl
  have z2 := h.cell 2 _ rfl
  have z3 := h.cell 3 _ rfl
  have z4 := h.cell 4 _ rfl
  have z5 := h.cell 5 _ rfl
  have z6 := h.cell 6 _ rfl
  have z7 := h.cell 7 _ rfl
  have z8 := h.cell 8 _ rfl
  simp [results, Try.results23, go_sem, h2, h3, z0, z1, z2, z3, z4, z5, z6, z7, z8]

set_option maxHeartbeats 8000000 in
theorem decTx_any (a : Option Addr) (L : List UInt8) (c : Nat) (w : World) (hB : BytesAt w w.heap.size a L) (hc : L.length ≤ c) (hl : L.length ≤ 1000000) :
    Calls Try.prog 23 #[.slice a L.length c] w fun e w' => TxOut L w e w' := by
  have RV := (RowL.new (w := w) (T := 41) [.int .i64 0, .int .i64 0, .int .i64 0, .int .i64 0, .int .i64 0, .int .i64 0, .int .i64 0, .int .i64 0, .slice none 0 0] rfl).boxed (.cells #[.slice a L.length c, .bool false] 64)
  have D := Rd.new (w := w.alloc (.cells #[.int .i64 0, .int .i64 0, .int .i64 0, .int .i64 0, .int .i64 0, .int .i64 0, .int .i64 0, .int .i64 0, .slice none 0 0] 41)) (n := w.heap.size + 1) (T := 64) (by simp) hc (hB.later (boxed (Below.refl _ _) _) (by omega))
  have hb := boxed (boxed (Below.refl _ w) (.cells #[.int .i64 0, .int .i64 0, .int .i64 0, .int .i64 0, .int .i64 0, .int .i64 0, .int .i64 0, .int .i64 0, .slice none 0 0] 41)) (.cells #[.slice a L.length c, .bool false] 64)
  have hne : w.heap.size ≠ w.heap.size + 1 := by omega
  go_enter Try.func23, Try.ntmps23
  go_wp2_with fail
  refine (kind_any (w.heap.size + 1) L false 116 _ D hl).mono ?_
  rintro e w1 ⟨rfl, R0, x0, k0, D0, y0⟩
  have K0 : Hid (KindIs L false 116 R0 x0) := k0
  replace RV := (RV.only y0 hne).boxed (.cells #[.int .i64 0, .int .i64 0, .int .i64 0, .int .i64 0, .int .i64 0, .int .i64 0, .int .i64 0, .int .i64 0, .slice none 0 0] 41)
  replace hb := boxed (only_below hb y0 (by omega)) (.cells #[.int .i64 0, .int .i64 0, .int .i64 0, .int .i64 0, .int .i64 0, .int .i64 0, .int .i64 0, .int .i64 0, .slice none 0 0] 41)
  replace D0 := D0.alloc (.cells #[.int .i64 0, .int .i64 0, .int .i64 0, .int .i64 0, .int .i64 0, .int .i64 0, .int .i64 0, .int .i64 0, .slice none 0 0] 41)
  have RT := RowL.new (w := w1) (T := 41) [.int .i64 0, .int .i64 0, .int .i64 0, .int .i64 0, .int .i64 0, .int .i64 0, .int .i64 0, .int .i64 0, .slice none 0 0] rfl
  have hlt : w.heap.size + 1 < w1.heap.size := by have := y0.size; simp at this; omega
  have hnt : w1.heap.size ≠ w.heap.size + 1 := by omega
  clear k0 y0 D
  go_wp2_with fail
  refine (rdNumber_any (w.heap.size + 1) R0 x0 3 _ D0).mono ?_
  rintro e w2 ⟨site, rfl, R1, x1, n1, D1, y1⟩
  have N1 : Hid (NumIs 3 R0 x0 site R1 x1) := n1
  replace RV := RV.only y1 hne
  replace RT := RT.only y1 hnt
  replace hb := only_below hb y1 (by omega)
  clear n1 y1 D0
  have c0 := RT.cell 0 _ rfl
  have f0 := RT.free 0 (by simp)
  replace RV := RV.far ⟨w1.heap.size, 0, none⟩ (.int .i64 site) (by show w1.heap.size ≠ w.heap.size; omega)
  replace RT := RT.set 0 (.int .i64 site) (by simp)
  replace hb := hb.setCell (p := ⟨w1.heap.size, 0, none⟩) (by show w.heap.size ≤ w1.heap.size; omega) (.int .i64 site)
  replace D1 := D1.far ⟨w1.heap.size, 0, none⟩ (.int .i64 site) (by show w.heap.size + 1 < w1.heap.size; omega)
  go_wp2_with fail
  clear c0 f0
  refine (rdNumber_any (w.heap.size + 1) R1 x1 1099511627776 _ D1).mono ?_
  rintro e w3 ⟨seq, rfl, R2, x2, n2, D2, y2⟩
  have N2 : Hid (NumIs 1099511627776 R1 x1 seq R2 x2) := n2
  replace RV := RV.only y2 hne
  replace RT := RT.only y2 hnt
  replace hb := only_below hb y2 (by omega)
  clear n2 y2 D1
  have c1 := RT.cell 1 _ rfl
  have f1 := RT.free 1 (by simp)
  replace RV := RV.far ⟨w1.heap.size, 1, none⟩ (.int .i64 seq) (by show w1.heap.size ≠ w.heap.size; omega)
  replace RT := RT.set 1 (.int .i64 seq) (by simp)
  replace hb := hb.setCell (p := ⟨w1.heap.size, 1, none⟩) (by show w.heap.size ≤ w1.heap.size; omega) (.int .i64 seq)
  replace D2 := D2.far ⟨w1.heap.size, 1, none⟩ (.int .i64 seq) (by show w.heap.size + 1 < w1.heap.size; omega)
  go_wp2_with fail
  clear c1 f1
  refine (rdNumber_any (w.heap.size + 1) R2 x2 1099511627776 _ D2).mono ?_
  rintro e w4 ⟨wall, rfl, R3, x3, n3, D3, y3⟩
  have N3 : Hid (NumIs 1099511627776 R2 x2 wall R3 x3) := n3
  replace RV := RV.only y3 hne
  replace RT := RT.only y3 hnt
  replace hb := only_below hb y3 (by omega)
  clear n3 y3 D2
  have c2 := RT.cell 2 _ rfl
  have f2 := RT.free 2 (by simp)
  replace RV := RV.far ⟨w1.heap.size, 2, none⟩ (.int .i64 wall) (by show w1.heap.size ≠ w.heap.size; omega)
  replace RT := RT.set 2 (.int .i64 wall) (by simp)
  replace hb := hb.setCell (p := ⟨w1.heap.size, 2, none⟩) (by show w.heap.size ≤ w1.heap.size; omega) (.int .i64 wall)
  replace D3 := D3.far ⟨w1.heap.size, 2, none⟩ (.int .i64 wall) (by show w.heap.size + 1 < w1.heap.size; omega)
  go_wp2_with fail
  clear c2 f2
  refine (rdNumber_any (w.heap.size + 1) R3 x3 1099511627776 _ D3).mono ?_
  rintro e w5 ⟨count, rfl, R4, x4, n4, D4, y4⟩
  have N4 : Hid (NumIs 1099511627776 R3 x3 count R4 x4) := n4
  replace RV := RV.only y4 hne
  replace RT := RT.only y4 hnt
  replace hb := only_below hb y4 (by omega)
  clear n4 y4 D3
  have c3 := RT.cell 3 _ rfl
  have f3 := RT.free 3 (by simp)
  replace RV := RV.far ⟨w1.heap.size, 3, none⟩ (.int .i64 count) (by show w1.heap.size ≠ w.heap.size; omega)
  replace RT := RT.set 3 (.int .i64 count) (by simp)
  replace hb := hb.setCell (p := ⟨w1.heap.size, 3, none⟩) (by show w.heap.size ≤ w1.heap.size; omega) (.int .i64 count)
  replace D4 := D4.far ⟨w1.heap.size, 3, none⟩ (.int .i64 count) (by show w.heap.size + 1 < w1.heap.size; omega)
  go_wp2_with fail
  clear c3 f3
  refine (vec_any (w.heap.size + 1) R4 x4 _ D4).mono ?_
  rintro e w6 ⟨v0, v1, v2, v3, rfl, R5, x5, R6, x6, R7, x7, R8, x8, m5, m6, m7, m8, D8, y8⟩
  have N5 : Hid (NumIs 1099511627776 R4 x4 v0 R5 x5) := m5
  have N6 : Hid (NumIs 1099511627776 R5 x5 v1 R6 x6) := m6
  have N7 : Hid (NumIs 1099511627776 R6 x6 v2 R7 x7) := m7
  have N8 : Hid (NumIs 1099511627776 R7 x7 v3 R8 x8) := m8
  replace RV := RV.only y8 hne
  replace RT := RT.only y8 hnt
  replace hb := only_below hb y8 (by omega)
  clear m5 m6 m7 m8 y8 D4
  have c4 := RT.cell 4 _ rfl
  have f4 := RT.free 4 (by simp)
  have c5 := RT.cell 5 _ rfl
  have f5 := RT.free 5 (by simp)
  have c6 := RT.cell 6 _ rfl
  have f6 := RT.free 6 (by simp)
  have c7 := RT.cell 7 _ rfl
  have f7 := RT.free 7 (by simp)
  replace RV := RV.far ⟨w1.heap.size, 4, none⟩ (.int .i64 v0) (by show w1.heap.size ≠ w.heap.size; omega)
  replace RT := RT.set 4 (.int .i64 v0) (by simp)
  replace hb := hb.setCell (p := ⟨w1.heap.size, 4, none⟩) (by show w.heap.size ≤ w1.heap.size; omega) (.int .i64 v0)
  replace D8 := D8.far ⟨w1.heap.size, 4, none⟩ (.int .i64 v0) (by show w.heap.size + 1 < w1.heap.size; omega)
  replace RV := RV.far ⟨w1.heap.size, 5, none⟩ (.int .i64 v1) (by show w1.heap.size ≠ w.heap.size; omega)
  replace RT := RT.set 5 (.int .i64 v1) (by simp)
  replace hb := hb.setCell (p := ⟨w1.heap.size, 5, none⟩) (by show w.heap.size ≤ w1.heap.size; omega) (.int .i64 v1)
  replace D8 := D8.far ⟨w1.heap.size, 5, none⟩ (.int .i64 v1) (by show w.heap.size + 1 < w1.heap.size; omega)
  replace RV := RV.far ⟨w1.heap.size, 6, none⟩ (.int .i64 v2) (by show w1.heap.size ≠ w.heap.size; omega)
  replace RT := RT.set 6 (.int .i64 v2) (by simp)
  replace hb := hb.setCell (p := ⟨w1.heap.size, 6, none⟩) (by show w.heap.size ≤ w1.heap.size; omega) (.int .i64 v2)
  replace D8 := D8.far ⟨w1.heap.size, 6, none⟩ (.int .i64 v2) (by show w.heap.size + 1 < w1.heap.size; omega)
  replace RV := RV.far ⟨w1.heap.size, 7, none⟩ (.int .i64 v3) (by show w1.heap.size ≠ w.heap.size; omega)
  replace RT := RT.set 7 (.int .i64 v3) (by simp)
  replace hb := hb.setCell (p := ⟨w1.heap.size, 7, none⟩) (by show w.heap.size ≤ w1.heap.size; omega) (.int .i64 v3)
  replace D8 := D8.far ⟨w1.heap.size, 7, none⟩ (.int .i64 v3) (by show w.heap.size + 1 < w1.heap.size; omega)
  go_wp2_with fail
  clear c4 f4 c5 f5 c6 f6 c7 f7
  refine (rdNumber_any (w.heap.size + 1) R8 x8 5 _ D8).mono ?_
  rintro e w7 ⟨nw, rfl, R9, x9, n9, D9, y9⟩
  have N9 : Hid (NumIs 5 R8 x8 nw R9 x9) := n9
  replace RV := RV.only y9 hne
  replace RT := RT.only y9 hnt
  replace hb := only_below hb y9 (by omega)
  clear n9 y9 D8
  have RTX : RowL w7 w1.heap.size (txA site seq wall count v0 v1 v2 v3 (.slice none 0 0)) := RT
  have hsz : w1.heap.size + 1 ≤ w7.heap.size := RT.lt
  clear RT
  have nw0 := N9.out.nonneg
  have hlen9 : R9.length ≤ 1000000 := by
    have a0 := K0.out.2.1
    have a1 := N1.out.1
    have a2 := N2.out.1
    have a3 := N3.out.1
    have a4 := N4.out.1
    have a5 := N5.out.1
    have a6 := N6.out.1
    have a7 := N7.out.1
    have a8 := N8.out.1
    have a9 := N9.out.1
    omega
  obtain ⟨m, rfl⟩ : ∃ m : Nat, nw = m := ⟨nw.toNat, by omega⟩
  have hm5 : m ≤ 5 := by
    rcases N9.out.2 with ⟨_, h, _⟩ | ⟨_, h, _⟩ <;> omega
  clear nw0
  go_wp2_with fail
  go_loopw [30] (fun iv wr => ∃ (k : Nat) (z : Int) (l : List Wr) (R : List UInt8) (x : Bool) (v : Value), k ≤ m ∧ z = k ∧ iv = .int .i64 z ∧ l.length = k ∧ WsIs R9 x9 l R x ∧ RowL wr w1.heap.size (txA site seq wall count v0 v1 v2 v3 v) ∧ wr.ownsRow (w1.heap.size + 1) 43 3 v l.length (wrsC l) ∧ Rd wr (w.heap.size + 1) R x ∧ RowL wr w.heap.size [.int .i64 0, .int .i64 0, .int .i64 0, .int .i64 0, .int .i64 0, .int .i64 0, .int .i64 0, .int .i64 0, .slice none 0 0] ∧ Below w.heap.size w wr ∧ w1.heap.size + 1 ≤ wr.heap.size) (fun i _ => m - (intOf i).toNat)
  case atStart => exact ⟨0, 0, [], R9, x9, .slice none 0 0, by omega, rfl, rfl, rfl, .nil, RTX, World.ownsRow_nil _ _ _ _, D9, RV, hb, hsz⟩
  case round =>
    clear RTX D9 RV hb hsz
    obtain ⟨k, z, l, R, x, v, hk, hz, rfl, hlk, hws, RT, own, D, RV, hb, hsz⟩ := hrel
    have HWS : Hid (WsIs R9 x9 l R x) := hws
    have HLK : Hid (l.length = k) := hlk
    have hl5 : l.length ≤ 5 := by omega
    clear hws hlk
    by_cases hlt2 : k < m
    · have h1 : z < (m : Int) := by omega
      have h3 : 0 ≤ z := by omega
      have HZ : Hid (z = k) := hz
      clear hz
      have hlenR : R.length ≤ 1000000 := Nat.le_trans (ws_length HWS.out) hlen9
      have c8 : wr.cell? ⟨w1.heap.size, 8, none⟩ = some v := RT.cell 8 _ rfl
      obtain ⟨i0, hi, hz0, hz1, hz2⟩ := info_parts writeInfo
      go_wp2_with fail
      go_region_law (first
        | (refine step_call rfl 39 #[.pointer (some ⟨w.heap.size + 1, 0, none⟩)] (by go_simp) (write_any (w.heap.size + 1) R x _ D.drew hlenR) ?_
           rintro e w8 ⟨key, data, gone, rfl, R', x', wi, D', y8⟩
           refine ⟨_, rfl, ?_⟩
           have WI : Hid (WriteIs R x key data gone R' x') := wi
           have RT8 := RT.drew.only y8 hnt
           have RV8 := RV.drew.only y8 hne
           have hb8 := only_below hb.drew y8 (by omega)
           have own8 := owns_far (w := wr.drew) own y8 (by omega)
           have c8b : w8.cell? ⟨w1.heap.size, 8, none⟩ = some v := RT8.cell 8 _ rfl
           have hlt8 := RT8.lt
           clear wi y8)
        | (refine step_append_lies _ rfl (.tmp 33) (.tmp 36) 39 rfl (w1.heap.size + 1) 43 i0 (.agg #[.int .i64 0, .string ⟨#[]⟩, .bool false]) 3 32 Try.underlying39 hi hz0 hz1 hz2 rfl (by decide) v l.length (wrsC l) (by simp [Act.eval]) (own8.alloc _) ⟨w8.heap.size, 0, none⟩ 1 1 (wrC ⟨key, data, gone⟩) (by simp [Act.eval]) rfl (World.news_of_block (heap_alloc_new w8 (.cells #[.int .i64 key, .string data, .bool gone] 43))) (by intro u hu; simp [wrC] at hu; rcases hu with rfl | rfl | rfl <;> rfl) (by decide) (by simp only [maxLen]; omega) (by omega) (by simp; omega) _ rfl ?_
           intro g cap w9 own9 gr9 eg9 lt9
           have RT9 := (RT8.boxed (.cells #[.int .i64 key, .string data, .bool gone] 43)).grown gr9 (fun e => by have := own_rows own8 _ e.symm; omega)
           have RV9 := (RV8.boxed (.cells #[.int .i64 key, .string data, .bool gone] 43)).grown gr9 (fun e => by have := own_rows own8 _ e.symm; omega)
           have D9 := (D'.alloc (.cells #[.int .i64 key, .string data, .bool gone] 43)).grown gr9 (fun j hj => by have := own_rows own8 _ hj; omega)
           have hb9 := (boxed hb8 (.cells #[.int .i64 key, .string data, .bool gone] 43)).grown gr9 (by have := hb8.size; simp; omega) (fun j hj => by have := own_rows own8 _ hj; omega)
           have c8c : w9.cell? ⟨w1.heap.size, 8, none⟩ = some v := RT9.cell 8 _ rfl
           have f8c : w9.frozen? ⟨w1.heap.size, 8, none⟩ = false := RT9.free 8 (by simp [txA])))
      all_goals
        have RT10 : RowL (w9.setCell ⟨w1.heap.size, 8, none⟩ (.slice (some ⟨g, 0, none⟩) (l.length + 1) cap)) w1.heap.size (txA site seq wall count v0 v1 v2 v3 (.slice (some ⟨g, 0, none⟩) (l.length + 1) cap)) := RT9.set 8 (.slice (some ⟨g, 0, none⟩) (l.length + 1) cap) (by simp [txA])
        have RV10 := RV9.far ⟨w1.heap.size, 8, none⟩ (.slice (some ⟨g, 0, none⟩) (l.length + 1) cap) (by show w1.heap.size ≠ w.heap.size; omega)
        have D10 := D9.far ⟨w1.heap.size, 8, none⟩ (.slice (some ⟨g, 0, none⟩) (l.length + 1) cap) (by show w.heap.size + 1 < w1.heap.size; omega)
        have hb10 := hb9.setCell (p := ⟨w1.heap.size, 8, none⟩) (by show w.heap.size ≤ w1.heap.size; omega) (.slice (some ⟨g, 0, none⟩) (l.length + 1) cap)
        have own10 := ownsRow_setCell_below own9 (a := ⟨w1.heap.size, 8, none⟩) (by show w1.heap.size < w1.heap.size + 1; omega) (.slice (some ⟨g, 0, none⟩) (l.length + 1) cap)
        go_wp2_with fail
        go_roundw
        case rel => exact ⟨k + 1, z + 1, l ++ [⟨key, data, gone⟩], R', x', _, by omega, by have := HZ.out; omega, by go_num, by have := HLK.out; simp; omega, .snoc HWS.out WI.out, RT10, by rw [wrsC_snoc, List.length_append]; exact own10, D10, RV10, hb10, by have := RT10.lt; omega⟩
        case measure => simp [intOf]; omega
    · obtain rfl : k = m := by omega
      have CH : Hid ((doneB R x = true → toL (txS site seq wall count v0 v1 v2 v3 l) = L) ∧ (∀ y, Good L y → doneB R x = true ∧ y = ⟨site, seq, wall, count, v0, v1, v2, v3, l⟩)) := tx_chain K0.out N1.out N2.out N3.out N4.out N5.out N6.out N7.out N8.out N9.out HWS.out (by have := HLK.out; omega)
      obtain ⟨a', cap', rfl, hW⟩ := wrIn_own own
      have OWN : Hid (wr.ownsRow (w1.heap.size + 1) 43 3 (.slice a' l.length cap') l.length (wrsC l)) := own
      clear own
      go_wp2_with fail
      refine (isDone_any (w.heap.size + 1) R x _ D).mono ?_
      rintro e w8 ⟨rfl, hb8⟩
      have RV8 := RV.later hb8
      have RT8 := RT.later hb8
      replace hW := hW.later hb8
      replace OWN : Hid (w8.ownsRow (w1.heap.size + 1) 43 3 (.slice a' l.length cap') l.length (wrsC l)) := own_later OWN.out hb8
      have hbX := behind hb hb8
      clear hb8 D RV RT
      cases hd : doneB R x
      · have NO : Hid (∀ y, ¬ Good L y) := fun y hy => by rw [(CH.out.2 y hy).1] at hd; cases hd
        clear hd
        have RZ := (((((((((RV8.set 0 (.int .i64 0) (by simp)).set 1 (.int .i64 0) (by simp)).set 2 (.int .i64 0) (by simp)).set 3 (.int .i64 0) (by simp)).set 4 (.int .i64 0) (by simp)).set 5 (.int .i64 0) (by simp)).set 6 (.int .i64 0) (by simp)).set 7 (.int .i64 0) (by simp)).set 8 (.slice none 0 0) (by simp))
        have hbZ := (((((((((hbX.setCell (p := ⟨w.heap.size, 0, none⟩) (Nat.le_refl _) (.int .i64 0)).setCell (p := ⟨w.heap.size, 1, none⟩) (Nat.le_refl _) (.int .i64 0)).setCell (p := ⟨w.heap.size, 2, none⟩) (Nat.le_refl _) (.int .i64 0)).setCell (p := ⟨w.heap.size, 3, none⟩) (Nat.le_refl _) (.int .i64 0)).setCell (p := ⟨w.heap.size, 4, none⟩) (Nat.le_refl _) (.int .i64 0)).setCell (p := ⟨w.heap.size, 5, none⟩) (Nat.le_refl _) (.int .i64 0)).setCell (p := ⟨w.heap.size, 6, none⟩) (Nat.le_refl _) (.int .i64 0)).setCell (p := ⟨w.heap.size, 7, none⟩) (Nat.le_refl _) (.int .i64 0)).setCell (p := ⟨w.heap.size, 8, none⟩) (Nat.le_refl _) (.slice none 0 0))
        have k0 := RV8.cell 0 _ rfl
        have g0 := RV8.free 0 (by simp)
        have k1 := RV8.cell 1 _ rfl
        have g1 := RV8.free 1 (by simp)
        have k2 := RV8.cell 2 _ rfl
        have g2 := RV8.free 2 (by simp)
        have k3 := RV8.cell 3 _ rfl
        have g3 := RV8.free 3 (by simp)
        have k4 := RV8.cell 4 _ rfl
        have g4 := RV8.free 4 (by simp)
        have k5 := RV8.cell 5 _ rfl
        have g5 := RV8.free 5 (by simp)
        have k6 := RV8.cell 6 _ rfl
        have g6 := RV8.free 6 (by simp)
        have k7 := RV8.cell 7 _ rfl
        have g7 := RV8.free 7 (by simp)
        have k8 := RV8.cell 8 _ rfl
        have g8 := RV8.free 8 (by simp)
        go_wp2_with fail
        refine bodyPost_ret (v := .tuple #[.agg #[.int .i64 0, .int .i64 0, .int .i64 0, .int .i64 0, .int .i64 0, .int .i64 0, .int .i64 0, .int .i64 0, .slice none 0 0], .iface 56 (.int .i64 3)]) (dec_results RZ rfl rfl ⟨_, rfl⟩ ⟨_, rfl⟩ ⟨_, rfl⟩ ⟨_, rfl⟩ ⟨_, rfl⟩ ⟨_, rfl⟩ ⟨_, rfl⟩ ⟨_, rfl⟩ ⟨_, _, _, rfl⟩) rfl ⟨.inr ⟨NO.out, rfl⟩, hbZ⟩
      · have HD : Hid (doneB R x = true) := hd
        clear hd
        have c0 := RT8.cell 0 _ rfl
        have c1 := RT8.cell 1 _ rfl
        have c2 := RT8.cell 2 _ rfl
        have c3 := RT8.cell 3 _ rfl
        have c4 := RT8.cell 4 _ rfl
        have c5 := RT8.cell 5 _ rfl
        have c6 := RT8.cell 6 _ rfl
        have c7 := RT8.cell 7 _ rfl
        have c8 := RT8.cell 8 _ rfl
        cases ho : okTx site seq wall count v0 v1 v2 v3 l
        · have NO : Hid (∀ y, ¬ Good L y) := fun y hy => by
            have h1 := (CH.out.2 y hy).2
            have h2 := hy.1
            rw [h1] at h2
            rw [show TxV.ok ⟨site, seq, wall, count, v0, v1, v2, v3, l⟩ = okTx site seq wall count v0 v1 v2 v3 l from rfl, ho] at h2
            cases h2
          have HO : Hid (okTx site seq wall count v0 v1 v2 v3 l = false) := ho
          clear ho
          go_wp2_with fail
          refine (rightTx_is hW HO.out).mono ?_
          rintro e w9 ⟨rfl, hb9⟩
          replace RV8 := RV8.later hb9
          replace hbX := behind hbX hb9
          clear hb9 RT8 hW c0 c1 c2 c3 c4 c5 c6 c7 c8
          have RZ := (((((((((RV8.set 0 (.int .i64 0) (by simp)).set 1 (.int .i64 0) (by simp)).set 2 (.int .i64 0) (by simp)).set 3 (.int .i64 0) (by simp)).set 4 (.int .i64 0) (by simp)).set 5 (.int .i64 0) (by simp)).set 6 (.int .i64 0) (by simp)).set 7 (.int .i64 0) (by simp)).set 8 (.slice none 0 0) (by simp))
          have hbZ := (((((((((hbX.setCell (p := ⟨w.heap.size, 0, none⟩) (Nat.le_refl _) (.int .i64 0)).setCell (p := ⟨w.heap.size, 1, none⟩) (Nat.le_refl _) (.int .i64 0)).setCell (p := ⟨w.heap.size, 2, none⟩) (Nat.le_refl _) (.int .i64 0)).setCell (p := ⟨w.heap.size, 3, none⟩) (Nat.le_refl _) (.int .i64 0)).setCell (p := ⟨w.heap.size, 4, none⟩) (Nat.le_refl _) (.int .i64 0)).setCell (p := ⟨w.heap.size, 5, none⟩) (Nat.le_refl _) (.int .i64 0)).setCell (p := ⟨w.heap.size, 6, none⟩) (Nat.le_refl _) (.int .i64 0)).setCell (p := ⟨w.heap.size, 7, none⟩) (Nat.le_refl _) (.int .i64 0)).setCell (p := ⟨w.heap.size, 8, none⟩) (Nat.le_refl _) (.slice none 0 0))
          have k0 := RV8.cell 0 _ rfl
          have g0 := RV8.free 0 (by simp)
          have k1 := RV8.cell 1 _ rfl
          have g1 := RV8.free 1 (by simp)
          have k2 := RV8.cell 2 _ rfl
          have g2 := RV8.free 2 (by simp)
          have k3 := RV8.cell 3 _ rfl
          have g3 := RV8.free 3 (by simp)
          have k4 := RV8.cell 4 _ rfl
          have g4 := RV8.free 4 (by simp)
          have k5 := RV8.cell 5 _ rfl
          have g5 := RV8.free 5 (by simp)
          have k6 := RV8.cell 6 _ rfl
          have g6 := RV8.free 6 (by simp)
          have k7 := RV8.cell 7 _ rfl
          have g7 := RV8.free 7 (by simp)
          have k8 := RV8.cell 8 _ rfl
          have g8 := RV8.free 8 (by simp)
          go_wp2_with fail
          refine bodyPost_ret (v := .tuple #[.agg #[.int .i64 0, .int .i64 0, .int .i64 0, .int .i64 0, .int .i64 0, .int .i64 0, .int .i64 0, .int .i64 0, .slice none 0 0], .iface 56 (.int .i64 3)]) (dec_results RZ rfl rfl ⟨_, rfl⟩ ⟨_, rfl⟩ ⟨_, rfl⟩ ⟨_, rfl⟩ ⟨_, rfl⟩ ⟨_, rfl⟩ ⟨_, rfl⟩ ⟨_, rfl⟩ ⟨_, _, _, rfl⟩) rfl ⟨.inr ⟨NO.out, rfl⟩, hbZ⟩
        · have YES : Hid (Good L ⟨site, seq, wall, count, v0, v1, v2, v3, l⟩) := ⟨ho, CH.out.1 HD.out⟩
          have HO : Hid (okTx site seq wall count v0 v1 v2 v3 l = true) := ho
          clear ho
          go_wp2_with fail
          refine (rightTx_is hW HO.out).mono ?_
          rintro e w9 ⟨rfl, hb9⟩
          replace RV8 := RV8.later hb9
          replace RT8 := RT8.later hb9
          have ownZ := own_later OWN.out hb9
          replace hbX := behind hbX hb9
          clear hb9
          replace c0 := RT8.cell 0 _ rfl
          replace c1 := RT8.cell 1 _ rfl
          replace c2 := RT8.cell 2 _ rfl
          replace c3 := RT8.cell 3 _ rfl
          replace c4 := RT8.cell 4 _ rfl
          replace c5 := RT8.cell 5 _ rfl
          replace c6 := RT8.cell 6 _ rfl
          replace c7 := RT8.cell 7 _ rfl
          replace c8 := RT8.cell 8 _ rfl
          have RZ := (((((((((RV8.set 0 (.int .i64 site) (by simp)).set 1 (.int .i64 seq) (by simp)).set 2 (.int .i64 wall) (by simp)).set 3 (.int .i64 count) (by simp)).set 4 (.int .i64 v0) (by simp)).set 5 (.int .i64 v1) (by simp)).set 6 (.int .i64 v2) (by simp)).set 7 (.int .i64 v3) (by simp)).set 8 (.slice a' l.length cap') (by simp))
          replace ownZ := ownsRow_setCell_below ownZ (a := ⟨w.heap.size, 0, none⟩) (by show w.heap.size < w1.heap.size + 1; omega) (.int .i64 site)
          replace ownZ := ownsRow_setCell_below ownZ (a := ⟨w.heap.size, 1, none⟩) (by show w.heap.size < w1.heap.size + 1; omega) (.int .i64 seq)
          replace ownZ := ownsRow_setCell_below ownZ (a := ⟨w.heap.size, 2, none⟩) (by show w.heap.size < w1.heap.size + 1; omega) (.int .i64 wall)
          replace ownZ := ownsRow_setCell_below ownZ (a := ⟨w.heap.size, 3, none⟩) (by show w.heap.size < w1.heap.size + 1; omega) (.int .i64 count)
          replace ownZ := ownsRow_setCell_below ownZ (a := ⟨w.heap.size, 4, none⟩) (by show w.heap.size < w1.heap.size + 1; omega) (.int .i64 v0)
          replace ownZ := ownsRow_setCell_below ownZ (a := ⟨w.heap.size, 5, none⟩) (by show w.heap.size < w1.heap.size + 1; omega) (.int .i64 v1)
          replace ownZ := ownsRow_setCell_below ownZ (a := ⟨w.heap.size, 6, none⟩) (by show w.heap.size < w1.heap.size + 1; omega) (.int .i64 v2)
          replace ownZ := ownsRow_setCell_below ownZ (a := ⟨w.heap.size, 7, none⟩) (by show w.heap.size < w1.heap.size + 1; omega) (.int .i64 v3)
          replace ownZ := ownsRow_setCell_below ownZ (a := ⟨w.heap.size, 8, none⟩) (by show w.heap.size < w1.heap.size + 1; omega) (.slice a' l.length cap')
          obtain ⟨a2, cap2, ea, hW2⟩ := wrIn_own ownZ
          injection ea with e1 _ e3
          subst e1 e3
          have HW2 : Hid (WrIn _ a' cap' l) := hW2
          clear hW2 ownZ hW OWN
          have hbZ := (((((((((hbX.setCell (p := ⟨w.heap.size, 0, none⟩) (Nat.le_refl _) (.int .i64 site)).setCell (p := ⟨w.heap.size, 1, none⟩) (Nat.le_refl _) (.int .i64 seq)).setCell (p := ⟨w.heap.size, 2, none⟩) (Nat.le_refl _) (.int .i64 wall)).setCell (p := ⟨w.heap.size, 3, none⟩) (Nat.le_refl _) (.int .i64 count)).setCell (p := ⟨w.heap.size, 4, none⟩) (Nat.le_refl _) (.int .i64 v0)).setCell (p := ⟨w.heap.size, 5, none⟩) (Nat.le_refl _) (.int .i64 v1)).setCell (p := ⟨w.heap.size, 6, none⟩) (Nat.le_refl _) (.int .i64 v2)).setCell (p := ⟨w.heap.size, 7, none⟩) (Nat.le_refl _) (.int .i64 v3)).setCell (p := ⟨w.heap.size, 8, none⟩) (Nat.le_refl _) (.slice a' l.length cap'))
          have k0 := RV8.cell 0 _ rfl
          have g0 := RV8.free 0 (by simp)
          have k1 := RV8.cell 1 _ rfl
          have g1 := RV8.free 1 (by simp)
          have k2 := RV8.cell 2 _ rfl
          have g2 := RV8.free 2 (by simp)
          have k3 := RV8.cell 3 _ rfl
          have g3 := RV8.free 3 (by simp)
          have k4 := RV8.cell 4 _ rfl
          have g4 := RV8.free 4 (by simp)
          have k5 := RV8.cell 5 _ rfl
          have g5 := RV8.free 5 (by simp)
          have k6 := RV8.cell 6 _ rfl
          have g6 := RV8.free 6 (by simp)
          have k7 := RV8.cell 7 _ rfl
          have g7 := RV8.free 7 (by simp)
          have k8 := RV8.cell 8 _ rfl
          have g8 := RV8.free 8 (by simp)
          go_wp2_with fail
          refine bodyPost_ret (v := .tuple #[.agg #[.int .i64 site, .int .i64 seq, .int .i64 wall, .int .i64 count, .int .i64 v0, .int .i64 v1, .int .i64 v2, .int .i64 v3, .slice a' l.length cap'], .nilIface]) (dec_results RZ rfl rfl ⟨_, rfl⟩ ⟨_, rfl⟩ ⟨_, rfl⟩ ⟨_, rfl⟩ ⟨_, rfl⟩ ⟨_, rfl⟩ ⟨_, rfl⟩ ⟨_, rfl⟩ ⟨_, _, _, rfl⟩) rfl ⟨.inl ⟨⟨site, seq, wall, count, v0, v1, v2, v3, l⟩, a', cap', YES.out, HW2.out, rfl⟩, hbZ⟩

end Go.Proofs.Yteebebahlegmlaa
