/-
  Bytes that were written, read back: contracts for copsekeep.WireBack; copsekeep.pick, copsekeep.sent.
-/
import Derived.Test.YteebebahlegmlaaDecTx
import Derived.Test.YteebebahlegmlaaWireTx
import Derived.Test.YteebebahlegmlaaWireAsk
import Derived.Test.YteebebahlegmlaaSame
namespace Go.Proofs.Yteebebahlegmlaa
open Go.RowKit

theorem byteCells_at (S : ByteArray) (j : Nat) (u : UInt8) (h : (toL S)[j]? = some u) : (byteCells S)[j]? = some (.int .u8 u.toNat) := by
  unfold byteCells
  rw [List.getElem?_map]
  show ((toL S)[j]?).map _ = _
  rw [h]
  rfl
/-- the first bytes of a row that the call owns -/
theorem Own.bytes {w : World} {B g cap : Nat} {S : ByteArray} (h : Own w B g cap S) (r : Nat) : BytesAt w w.heap.size (some ⟨g, 0, none⟩) ((toL S).take r) := by
  refine .inr ⟨g, 0, rfl, h.lt, fun j u hu => ?_⟩
  rw [Nat.zero_add]
  refine h.have_ j _ (byteCells_at S j u ?_)
  rw [List.getElem?_take] at hu
  split at hu
  · exact hu
  · cases hu
theorem Own.all {w : World} {B g cap : Nat} {S : ByteArray} (h : Own w B g cap S) : BytesAt w w.heap.size (some ⟨g, 0, none⟩) (toL S) := by
  have := h.bytes (toL S).length
  rwa [List.take_length] at this

/-- where the bytes are a transaction's -/
theorem decTx_good {x : TxV} {L : List UInt8} (hx : Good L x) (a : Option Addr) (len c : Nat) (hlen : L.length = len) (w : World) (hB : BytesAt w w.heap.size a L) (hc : len ≤ c) (hl : len ≤ 1000000) :
    Calls Try.prog 23 #[.slice a len c] w fun e w' => ∃ a2 cap2, e = .returned (.tuple #[.agg #[.int .i64 x.site, .int .i64 x.seq, .int .i64 x.wall, .int .i64 x.count, .int .i64 x.d0, .int .i64 x.d1, .int .i64 x.d2, .int .i64 x.d3, .slice a2 x.l.length cap2], .nilIface]) ∧ WrIn w' a2 cap2 x.l ∧ Below w.heap.size w w' := by
  subst hlen
  refine (decTx_any a L c w hB hc hl).mono fun e w' ho => ?_
  rcases ho with ⟨⟨y, aN, capN, hy, hW, he⟩ | ⟨hno, _⟩, hb⟩
  · obtain rfl := good_one hx hy
    exact ⟨aN, capN, he, hW, hb⟩
  · exact absurd hx (hno x)
/-- .. and where they are none's -/
theorem decTx_bad {L : List UInt8} (hx : ∀ x, ¬ Good L x) (a : Option Addr) (len c : Nat) (hlen : L.length = len) (w : World) (hB : BytesAt w w.heap.size a L) (hc : len ≤ c) (hl : len ≤ 1000000) :
    Calls Try.prog 23 #[.slice a len c] w fun e w' => e = .returned (.tuple #[.agg #[.int .i64 0, .int .i64 0, .int .i64 0, .int .i64 0, .int .i64 0, .int .i64 0, .int .i64 0, .int .i64 0, .slice none 0 0], .iface 56 (.int .i64 3)]) ∧ Below w.heap.size w w' := by
  subst hlen
  refine (decTx_any a L c w hB hc hl).mono fun e w' ho => ?_
  rcases ho with ⟨⟨y, aN, capN, hy, hW, he⟩ | ⟨hno, he⟩, hb⟩
  · exact absurd hy (hx y)
  · exact ⟨he, hb⟩
theorem decAsk_good {x : AskV} {L : List UInt8} (hx : GoodAsk L x) (a : Option Addr) (len c : Nat) (hlen : L.length = len) (w : World) (hB : BytesAt w w.heap.size a L) (hc : len ≤ c) (hl : len ≤ 1000000) :
    Calls Try.prog 25 #[.slice a len c] w fun e w' => e = .returned (.tuple #[.int .i64 x.site, .agg #[.int .i64 x.a0, .int .i64 x.a1, .int .i64 x.a2, .int .i64 x.a3], .nilIface]) ∧ Below w.heap.size w w' := by
  subst hlen
  refine (decAsk_any a L c w hB hc hl).mono fun e w' ho => ?_
  rcases ho with ⟨⟨y, hy, he⟩ | ⟨hno, _⟩, hb⟩
  · obtain rfl := goodAsk_one hx hy
    exact ⟨he, hb⟩
  · exact absurd hx (hno x)
theorem decAsk_bad {L : List UInt8} (hx : ∀ x, ¬ GoodAsk L x) (a : Option Addr) (len c : Nat) (hlen : L.length = len) (w : World) (hB : BytesAt w w.heap.size a L) (hc : len ≤ c) (hl : len ≤ 1000000) :
    Calls Try.prog 25 #[.slice a len c] w fun e w' => e = .returned (.tuple #[.int .i64 0, .agg #[.int .i64 0, .int .i64 0, .int .i64 0, .int .i64 0], .iface 56 (.int .i64 3)]) ∧ Below w.heap.size w w' := by
  subst hlen
  refine (decAsk_any a L c w hB hc hl).mono fun e w' ho => ?_
  rcases ho with ⟨⟨y, hy, he⟩ | ⟨hno, he⟩, hb⟩
  · exact absurd hy (hx y)
  · exact ⟨he, hb⟩

/-- no beginning of a transaction's bytes is one -/
theorem cut_tx {x : TxV} {L : List UInt8} (hx : Good L x) {r : Nat} (hr : r < L.length) : ∀ y, ¬ Good (L.take r) y := fun y hy => by
  have e : toL x.bytes = toL y.bytes ++ L.drop r := by rw [hx.2, hy.2, List.take_append_drop]
  have := (tx_prefix hx.1 hy.1 e).2
  have h2 := congrArg List.length this
  rw [List.length_drop] at h2
  simp at h2
  omega
theorem cut_ask {x : AskV} {L : List UInt8} (hx : GoodAsk L x) {r : Nat} (hr : r < L.length) : ∀ y, ¬ GoodAsk (L.take r) y := fun y hy => by
  have e : toL x.bytes = toL y.bytes ++ L.drop r := by rw [hx.2, hy.2, List.take_append_drop]
  have := (ask_prefix hx.1 hy.1 e).2
  have h2 := congrArg List.length this
  rw [List.length_drop] at h2
  simp at h2
  omega

theorem pick_num (a : Int) (n : Nat) (h0 : 0 < n) (h1 : n ≤ 1000000) : ∃ r : Nat, wrap64 ((IntKind.u64.wrap a).tmod n) = r ∧ r < n := by
  have hw : 0 ≤ IntKind.u64.wrap a := by
    unfold IntKind.wrap
    simp [IntKind.signed, IntKind.bits]
    omega
  rw [Int.tmod_eq_emod_of_nonneg hw]
  have b0 := Int.emod_nonneg (IntKind.u64.wrap a) (b := n) (by omega)
  have b1 := Int.emod_lt_of_pos (IntKind.u64.wrap a) (b := n) (by omega)
  refine ⟨(IntKind.u64.wrap a % n).toNat, ?_, by omega⟩
  unfold wrap64
  omega

set_option maxHeartbeats 1000000 in
theorem pick_any (a : Int) (n : Nat) (h0 : 0 < n) (h1 : n ≤ 1000000) (w : World) :
    Calls Try.prog 24 #[.int .i64 a, .int .i64 n] w fun e w' => ∃ r : Nat, e = .returned (.int .i64 r) ∧ r < n ∧ w' = w := by
  obtain ⟨r, hr, hlt⟩ := pick_num a n h0 h1
  go_enter Try.func24, Try.ntmps24
  go_wp2_with fail
  go_ret
  exact ⟨r, by rw [← hr]; rfl, hlt, rfl⟩

theorem sent_ok : okTx 1 2 0 0 0 1 0 0 [⟨3, ⟨#[120]⟩, false⟩] = true := by rfl

set_option maxHeartbeats 2000000 in
theorem sent_any (w : World) : Calls Try.prog 21 #[] w fun e w' => e = .returned (.bool true) ∧ Below w.heap.size w w' := by
  have W0 : WrIn ((w.alloc (.cells #[.int .i64 3, .string ⟨#[120]⟩, .bool false] 43)).alloc (.cells #[.int .i64 1, .int .i64 2, .int .i64 0, .int .i64 0, .int .i64 0, .int .i64 1, .int .i64 0, .int .i64 0, .slice (some ⟨w.heap.size, 0, none⟩) 1 1] 41)) (some ⟨w.heap.size, 0, none⟩) 1 [⟨3, ⟨#[120]⟩, false⟩] := by
    refine ⟨by simp, by omega, .inr ⟨w.heap.size, 0, rfl, fun i hi => ?_⟩⟩
    obtain rfl : i = 0 := by simpa using hi
    refine ⟨?_, ?_, ?_⟩ <;> (go_simp; rfl)
  have R1 := RowL.new (w := w.alloc (.cells #[.int .i64 3, .string ⟨#[120]⟩, .bool false] 43)) (T := 41) (n := w.heap.size + 1) [.int .i64 1, .int .i64 2, .int .i64 0, .int .i64 0, .int .i64 0, .int .i64 1, .int .i64 0, .int .i64 0, .slice (some ⟨w.heap.size, 0, none⟩) 1 1] (by simp)
  have hb := boxed (boxed (Below.refl _ w) (.cells #[.int .i64 3, .string ⟨#[120]⟩, .bool false] 43)) (.cells #[.int .i64 1, .int .i64 2, .int .i64 0, .int .i64 0, .int .i64 0, .int .i64 1, .int .i64 0, .int .i64 0, .slice (some ⟨w.heap.size, 0, none⟩) 1 1] 41)
  go_enter Try.func21, Try.ntmps21
  go_wp2_with fail
  refine (encTx_ok 1 2 0 0 0 1 0 0 (some ⟨w.heap.size, 0, none⟩) 1 [⟨3, ⟨#[120]⟩, false⟩] _ W0 sent_ok).mono ?_
  rintro e w1 ⟨S, g, cp, rfl, hS, O, hb1⟩
  have GD : Hid (Good (toL S) ⟨1, 2, 0, 0, 0, 1, 0, 0, [⟨3, ⟨#[120]⟩, false⟩]⟩) := ⟨sent_ok, by rw [hS]; rfl⟩
  have hz : S.size ≤ 1000000 := by
    rw [hS]
    have a := wrS_size (s := headS 1 2 0 0 0 1 0 0 1) (okWs_each (l := [⟨3, ⟨#[120]⟩, false⟩]) rfl) 1 (by simp)
    have b := headS_size 1 2 0 0 0 1 0 0 1
    exact Nat.le_trans a (by omega)
  replace W0 := W0.later hb1
  replace R1 := R1.later hb1
  replace hb := behind hb hb1
  clear hS hb1
  go_wp2_with fail
  refine (decTx_good GD.out (some ⟨g, 0, none⟩) S.size cp (toL_length S) _ O.all O.room hz).mono ?_
  rintro e w2 ⟨a2, cap2, rfl, W2, hb2⟩
  replace W0 := (W0.later hb2).later (boxed (Below.refl _ w2) (.cells #[.int .i64 1, .int .i64 2, .int .i64 0, .int .i64 0, .int .i64 0, .int .i64 1, .int .i64 0, .int .i64 0, .slice a2 1 cap2] 41))
  replace W2 := W2.later (boxed (Below.refl _ w2) (.cells #[.int .i64 1, .int .i64 2, .int .i64 0, .int .i64 0, .int .i64 0, .int .i64 1, .int .i64 0, .int .i64 0, .slice a2 1 cap2] 41))
  replace R1 := (R1.later hb2).boxed (.cells #[.int .i64 1, .int .i64 2, .int .i64 0, .int .i64 0, .int .i64 0, .int .i64 1, .int .i64 0, .int .i64 0, .slice a2 1 cap2] 41)
  have R2 := RowL.new (w := w2) (T := 41) [.int .i64 1, .int .i64 2, .int .i64 0, .int .i64 0, .int .i64 0, .int .i64 1, .int .i64 0, .int .i64 0, .slice a2 1 cap2] rfl
  replace hb := boxed (behind hb hb2) (.cells #[.int .i64 1, .int .i64 2, .int .i64 0, .int .i64 0, .int .i64 0, .int .i64 1, .int .i64 0, .int .i64 0, .slice a2 1 cap2] 41)
  clear hb2 O
  have c0 := R1.cell 0 _ rfl
  have d0 := R2.cell 0 _ rfl
  have c1 := R1.cell 1 _ rfl
  have d1 := R2.cell 1 _ rfl
  have c2 := R1.cell 2 _ rfl
  have d2 := R2.cell 2 _ rfl
  have c3 := R1.cell 3 _ rfl
  have d3 := R2.cell 3 _ rfl
  have c4 := R1.cell 4 _ rfl
  have d4 := R2.cell 4 _ rfl
  have c5 := R1.cell 5 _ rfl
  have d5 := R2.cell 5 _ rfl
  have c6 := R1.cell 6 _ rfl
  have d6 := R2.cell 6 _ rfl
  have c7 := R1.cell 7 _ rfl
  have d7 := R2.cell 7 _ rfl
  have c8 := R1.cell 8 _ rfl
  have d8 := R2.cell 8 _ rfl
  go_wp2_with fail
  refine (same_any 1 2 0 0 0 1 0 0 _ _ _ _ [⟨3, ⟨#[120]⟩, false⟩] _ W0 W2).mono ?_
  rintro e w3 ⟨rfl, hb3⟩
  go_wp2_with fail
  go_ret
  exact ⟨rfl, behind hb hb3⟩

end Go.Proofs.Yteebebahlegmlaa
