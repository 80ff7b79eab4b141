/-
  What the document's own DecodeTx does, as the model runs it.
-/
import Derived.Test.YteebebahlegmlaaDoorRefDecAsk
import Derived.Test.YteebebahlegmlaaDoorRefTx
import Derived.Test.YteebebahlegmlaaDoorDecTx
namespace Go.Proofs.YteebebahlegmlaaDoor
open Go.RowKit

/-- EncodeTx's string and error, of whatever numbers -/
theorem refTx_any (site seq wall count d0 d1 d2 d3 : Int) (a : Option Addr) (cap : Nat) (l : List Wr) (w : World) (hW : WrIn w a cap l) : ∃ (t : ByteArray) (n : Int), ((okTx site seq wall count d0 d1 d2 d3 l = true ∧ n = 0 ∧ t = txS site seq wall count d0 d1 d2 d3 l) ∨ (okTx site seq wall count d0 d1 d2 d3 l = false ∧ n = 1)) ∧
    Calls Tryd.prog 15 #[.agg #[.int .i64 site, .int .i64 seq, .int .i64 wall, .int .i64 count, .int .i64 d0, .int .i64 d1, .int .i64 d2, .int .i64 d3, .slice a l.length cap]] w fun e w' => e = .returned (.tuple #[.string t, .int .i64 n]) ∧ Below w.heap.size w w' := by
  cases h : okTx site seq wall count d0 d1 d2 d3 l
  · exact ⟨_, 1, .inr ⟨rfl, rfl⟩, refTx_arg site seq wall count d0 d1 d2 d3 a cap l w hW h⟩
  · exact ⟨_, 0, .inl ⟨rfl, rfl, rfl⟩, refTx_ok site seq wall count d0 d1 d2 d3 a cap l w hW h⟩

/-- where the bytes are of a transaction, so far it is read: how many writes are to come, those that were read, and what is left -/
def Sofar (L : List UInt8) (site seq wall count d0 d1 d2 d3 : Int) (n : Int) (l : List Wr) (S : ByteArray) : Prop :=
  ∀ y : TxV, Good L y → y = ⟨site, seq, wall, count, d0, d1, d2, d3, y.l⟩ ∧ l.length ≤ y.l.length ∧ n = (y.l.length : Int) - l.length ∧ l = y.l.take l.length ∧ toL S = wrsL (y.l.drop l.length)

theorem refTx_chain {s S1 S2 S3 S4 S5 S6 S7 S8 S9 : ByteArray} {site seq wall count d0 d1 d2 d3 n : Int} (h0 : RefNumIs (s.extract 1 s.size) site S1) (h1 : RefNumIs S1 seq S2) (h2 : RefNumIs S2 wall S3) (h3 : RefNumIs S3 count S4)
    (h4 : RefNumIs S4 d0 S5) (h5 : RefNumIs S5 d1 S6) (h6 : RefNumIs S6 d2 S7) (h7 : RefNumIs S7 d3 S8) (h8 : RefNumIs S8 n S9) : Sofar (toL s) site seq wall count d0 d1 d2 d3 n [] S9 := by
  rintro ⟨q, sq, wl, ct, a0, a1, a2, a3, m⟩ hy
  obtain ⟨bs, bq, bw, bc, b0, b1, b2, b3, bm⟩ := ok_parts hy.1
  simp only at bs bq bw bc b0 b1 b2 b3 bm
  have hlen := okWs_len bm
  have e : toL s = headL q sq wl ct a0 a1 a2 a3 m.length (wrsL m) := hy.2.symm.trans (txS_toL q sq wl ct a0 a1 a2 a3 m)
  have e0 : toL (s.extract 1 s.size) = numL 5 q ++ (numL 5 sq ++ (numL 5 wl ++ (numL 5 ct ++ (numL 5 a0 ++ (numL 5 a1 ++ (numL 5 a2 ++ (numL 5 a3 ++ (numL 5 m.length ++ wrsL m)))))))) := by
    rw [extract_toL, e]
    rfl
  obtain ⟨z0, r0⟩ := h0.full e0 bs.1 (by omega)
  obtain ⟨z1, r1⟩ := h1.full r0 (by omega) bq.2
  obtain ⟨z2, r2⟩ := h2.full r1 bw.1 bw.2
  obtain ⟨z3, r3⟩ := h3.full r2 bc.1 bc.2
  obtain ⟨z4, r4⟩ := h4.full r3 b0.1 b0.2
  obtain ⟨z5, r5⟩ := h5.full r4 b1.1 b1.2
  obtain ⟨z6, r6⟩ := h6.full r5 b2.1 b2.2
  obtain ⟨z7, r7⟩ := h7.full r6 b3.1 b3.2
  obtain ⟨z8, r8⟩ := h8.full r7 (by omega) (by omega)
  refine ⟨by rw [z0, z1, z2, z3, z4, z5, z6, z7], Nat.zero_le _, by rw [z8]; simp, rfl, r8⟩

theorem extract0_toL (S : ByteArray) (m : Nat) : toL (S.extract 0 m) = (toL S).take m := by
  show (S.extract 0 m).data.toList = _
  rw [ByteArray.data_extract, Array.toList_extract]
  simp

/-- one write more -/
theorem sofar_next {L : List UInt8} {site seq wall count d0 d1 d2 d3 n key g kk : Int} {l : List Wr} {S Sa Sb Sc : ByteArray} (h : Sofar L site seq wall count d0 d1 d2 d3 n l S) (hn : 0 < n) (h0 : RefNumIs S key Sa) (h1 : RefNumIs Sa g Sb) (h2 : RefNumIs Sb kk Sc) :
    (∀ y, Good L y → 0 ≤ kk ∧ kk ≤ Sc.size) ∧ (∀ m : Nat, kk = m → Sofar L site seq wall count d0 d1 d2 d3 (n - 1) (l ++ [⟨key, Sc.extract 0 m, g == 1⟩]) (Sc.extract m Sc.size)) := by
  have main : ∀ y, Good L y → ∃ (hk : l.length < y.l.length) (r : List UInt8), key = y.l[l.length].key ∧ g = (if y.l[l.length].gone then 1 else 0) ∧ kk = (y.l[l.length].data.size : Int) ∧ toL Sc = toL y.l[l.length].data ++ r ∧ r = wrsL (y.l.drop (l.length + 1)) := by
    intro y hy
    obtain ⟨_, hl, e1, e2, e3⟩ := h y hy
    have hk : l.length < y.l.length := by omega
    have hm := okWs_mem (ok_parts hy.1).2.2.2.2.2.2.2.2 _ (List.getElem_mem hk)
    refine ⟨hk, wrsL (y.l.drop (l.length + 1)), ?_⟩
    have e : wrsL (y.l.drop l.length) = wrL y.l[l.length] ++ wrsL (y.l.drop (l.length + 1)) := by
      unfold wrsL
      rw [List.drop_eq_getElem_cons hk, List.flatMap_cons]
    rw [e] at e3
    simp only [wrL, List.append_assoc] at e3
    obtain ⟨z0, r0⟩ := h0.full e3 hm.1 (by omega)
    obtain ⟨z1, r1⟩ := h1.full r0 (by cases y.l[l.length].gone <;> decide) (by cases y.l[l.length].gone <;> decide)
    obtain ⟨z2, r2⟩ := h2.full r1 (by omega) (by omega)
    exact ⟨z0, z1, z2, r2, rfl⟩
  constructor
  · intro y hy
    obtain ⟨hk, r, _, _, z2, z3, _⟩ := main y hy
    have := congrArg List.length z3
    rw [toL_length, List.length_append, toL_length] at this
    omega
  · intro m hm y hy
    obtain ⟨hk, r, z0, z1, z2, z3, z4⟩ := main y hy
    obtain ⟨x1, hl, e1, e2, e3⟩ := h y hy
    have hd : (toL y.l[l.length].data).length = m := by rw [toL_length]; omega
    refine ⟨x1, by simp; omega, by simp; omega, ?_, ?_⟩
    · rw [List.length_append, List.length_singleton, List.take_succ_eq_append_getElem hk, ← e2]
      congr 1
      have hx : (⟨key, Sc.extract 0 m, g == 1⟩ : Wr) = y.l[l.length] := by
        have hdata : Sc.extract 0 m = y.l[l.length].data := toL_inj (by rw [extract0_toL, z3, ← hd, List.take_left])
        have hgone : (g == 1) = y.l[l.length].gone := by
          rw [z1]
          cases y.l[l.length].gone <;> rfl
        rw [hdata, hgone, z0]
      rw [hx]
    · rw [extract_toL, z3, ← hd, List.drop_left, z4]
      simp

def RefTxOut (L : List UInt8) (w : World) (e : Ending) (w' : World) : Prop :=
  ((∃ (x : TxV) (a : Option Addr) (cap : Nat), Good L x ∧ WrIn w' a cap x.l ∧ e = .returned (.tuple #[.agg #[.int .i64 x.site, .int .i64 x.seq, .int .i64 x.wall, .int .i64 x.count, .int .i64 x.d0, .int .i64 x.d1, .int .i64 x.d2, .int .i64 x.d3, .slice a x.l.length cap], .int .i64 0])) ∨
   ((∀ x, ¬ Good L x) ∧ e = .returned (.tuple #[.agg #[.int .i64 0, .int .i64 0, .int .i64 0, .int .i64 0, .int .i64 0, .int .i64 0, .int .i64 0, .int .i64 0, .slice none 0 0], .int .i64 3]))) ∧ Below w.heap.size w w'

theorem refDec_results {tmps : Array Value} {w : World} {b : Nat} {q0 q1 q2 q3 q4 q5 q6 q7 q8 ev : Value} (h : RowL w b [q0, q1, q2, q3, q4, q5, q6, q7, q8]) (h2 : tmps[2]? = some (.pointer (some ⟨b, 0, none⟩))) (h3 : tmps[3]? = some ev)
    (p0 : ∃ n, q0 = .int .i64 n) (p1 : ∃ n, q1 = .int .i64 n) (p2 : ∃ n, q2 = .int .i64 n) (p3 : ∃ n, q3 = .int .i64 n) (p4 : ∃ n, q4 = .int .i64 n) (p5 : ∃ n, q5 = .int .i64 n) (p6 : ∃ n, q6 = .int .i64 n) (p7 : ∃ n, q7 = .int .i64 n) (p8 : ∃ a n c, q8 = .slice a n c) :
    (results Tryd.f23 tmps).run Tryd.prog w = .ok (.tuple #[.agg #[q0, q1, q2, q3, q4, q5, q6, q7, q8], ev]) w := by
  obtain ⟨n0, rfl⟩ := p0
  obtain ⟨n1, rfl⟩ := p1
  obtain ⟨n2, rfl⟩ := p2
  obtain ⟨n3, rfl⟩ := p3
  obtain ⟨n4, rfl⟩ := p4
  obtain ⟨n5, rfl⟩ := p5
  obtain ⟨n6, rfl⟩ := p6
  obtain ⟨n7, rfl⟩ := p7
  obtain ⟨a, n, c, rfl⟩ := p8
  have z0 := h.cell 0 _ rfl
  have z1 := h.cell 1 _ rfl
  have z2 := h.cell 2 _ rfl
  have z3 := h.cell 3 _ rfl
  have z4 := h.cell 4 _ rfl
  have z5 := h.cell 5 _ rfl
  have z6 := h.cell 6 _ rfl
  have z7 := h.cell 7 _ rfl
  have z8 := h.cell 8 _ rfl
  simp [results, Tryd.results23, go_sem, h2, h3, z0, z1, z2, z3, z4, z5, z6, z7, z8]

set_option maxHeartbeats 4000000 in
theorem refDecTx_none (s : ByteArray) (w : World) (hs : s.size = 0) :
    Calls Tryd.prog 23 #[.string s] w fun e w' => RefTxOut (toL s) w e w' := by
  have hn : toL s = [] := List.eq_nil_of_length_eq_zero (by rw [toL_length]; exact hs)
  have es : s.toList.isEmpty = true := by rw [byteList, hn]; rfl
  have NO : Hid (∀ x, ¬ Good (toL s) x) := fun x hx => by
    have h := hx.2
    rw [hn, TxV.bytes, txS_toL] at h
    cases h
  clear hn hs
  have RV := RowL.new (w := w) (T := 40) [.int .i64 0, .int .i64 0, .int .i64 0, .int .i64 0, .int .i64 0, .int .i64 0, .int .i64 0, .int .i64 0, .slice none 0 0] rfl
  go_enter Tryd.func23, Tryd.ntmps23
  go_wp2_with fail
  refine bodyPost_ret (refDec_results RV rfl rfl ⟨_, rfl⟩ ⟨_, rfl⟩ ⟨_, rfl⟩ ⟨_, rfl⟩ ⟨_, rfl⟩ ⟨_, rfl⟩ ⟨_, rfl⟩ ⟨_, rfl⟩ ⟨_, _, _, rfl⟩) rfl ⟨.inr ⟨NO.out, rfl⟩, boxed (Below.refl _ _) _⟩

end Go.Proofs.YteebebahlegmlaaDoor
