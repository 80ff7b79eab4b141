/-
  Versions of keys: their order, which a vector has, the last one; rows of them in memory; no Go in sight but the cells.
-/
import Derived.Test.YtnbgjiibpnoieaaDoorPlain
import Derived.Test.YtnbgjiibpnoieaaDoorWrites
import Derived.Test.YtnbgjiibpnoieaaDoorRows9
namespace Go.Proofs.YtnbgjiibpnoieaaDoor
open Go.RowKit

/-- a version -/
structure Ver where
  wall : Int
  count : Int
  site : Int
  seq : Int
  data : ByteArray
  gone : Bool
/-- a version of a key -/
structure Hd where
  key : Int
  v : Ver

def ver0 : Ver := ⟨0, 0, 0, 0, ⟨#[]⟩, false⟩
/-- its cells -/
def verL (v : Ver) : List Value := [.int .i64 v.wall, .int .i64 v.count, .int .i64 v.site, .int .i64 v.seq, .string v.data, .bool v.gone]
def hdL (h : Hd) : List Value := [.int .i64 h.key, .int .i64 h.v.wall, .int .i64 h.v.count, .int .i64 h.v.site, .int .i64 h.v.seq, .string h.v.data, .bool h.v.gone]
def hdsL (l : List Hd) : List Value := l.flatMap hdL
def hdAt (l : List Hd) (i : Nat) : Hd := l.getD i ⟨0, ver0⟩

theorem hdsL_length (l : List Hd) : (hdsL l).length = l.length * 7 := by
  induction l with
  | nil => rfl
  | cons x l ih =>
    show (hdL x ++ hdsL l).length = _
    rw [List.length_append, ih]
    simp [hdL]
    omega
theorem hdsL_snoc (l : List Hd) (x : Hd) : hdsL (l ++ [x]) = hdsL l ++ hdL x := by simp [hdsL]
theorem hdsL_at : ∀ (l : List Hd) (i r : Nat) (u : Value), i < l.length → (hdL (hdAt l i))[r]? = some u → (hdsL l)[i * 7 + r]? = some u
  | [], _, _, _, h, _ => by simp at h
  | x :: l, 0, r, u, _, hu => by
    have hr : r < (hdL x).length := (List.getElem?_eq_some_iff.1 hu).1
    show (hdL x ++ hdsL l)[0 * 7 + r]? = some u
    rw [Nat.zero_mul, Nat.zero_add, List.getElem?_append_left hr]
    exact hu
  | x :: l, i + 1, r, u, h, hu => by
    have ih := hdsL_at l i r u (by simpa using h) hu
    show (hdL x ++ hdsL l)[(i + 1) * 7 + r]? = some u
    have e : (i + 1) * 7 + r = (hdL x).length + (i * 7 + r) := by simp [hdL]; omega
    rw [e, List.getElem?_append_right (by omega), Nat.add_sub_cancel_left]
    exact ih

/-- which one is earlier -/
def beforeV (a b : Ver) : Bool := if cmpS a.wall a.count b.wall b.count = 0 then decide (a.site < b.site) else decide (cmpS a.wall a.count b.wall b.count < 0)
/-- a vector has it -/
def hasV (a0 a1 a2 a3 : Int) (v : Ver) : Bool := decide (v.seq ≤ depOf v.site a0 a1 a2 a3)
/-- one more is looked at -/
def stepV (key a0 a1 a2 a3 : Int) (best : Option Ver) (h : Hd) : Option Ver :=
  if h.key = key ∧ hasV a0 a1 a2 a3 h.v = true ∧ (match best with | none => true | some b => beforeV b h.v) = true then some h.v else best
/-- the last one of a key that a vector has -/
def lastV (key a0 a1 a2 a3 : Int) (l : List Hd) : Option Ver := l.foldl (stepV key a0 a1 a2 a3) none
theorem lastV_snoc {key a0 a1 a2 a3 : Int} {l : List Hd} {k : Nat} (hk : k < l.length) : lastV key a0 a1 a2 a3 (l.take (k + 1)) = stepV key a0 a1 a2 a3 (lastV key a0 a1 a2 a3 (l.take k)) (hdAt l k) := by
  unfold lastV
  rw [List.take_succ_eq_append_getElem hk, List.foldl_append]
  simp [hdAt, List.getD, List.getElem?_eq_getElem hk]
theorem stepV_none {key a0 a1 a2 a3 : Int} {best : Option Ver} {h : Hd} (hn : ¬ (h.key = key ∧ hasV a0 a1 a2 a3 h.v = true ∧ (match best with | none => true | some b => beforeV b h.v) = true)) : stepV key a0 a1 a2 a3 best h = best := if_neg hn
theorem stepV_some {key a0 a1 a2 a3 : Int} {best : Option Ver} {h : Hd} (hn : h.key = key ∧ hasV a0 a1 a2 a3 h.v = true ∧ (match best with | none => true | some b => beforeV b h.v) = true) : stepV key a0 a1 a2 a3 best h = some h.v := if_pos hn

/-- a version that may be -/
def okVer (v : Ver) : Bool := (timeB v.wall && timeB v.count) && inB v.site 0 3 && inB v.seq 1 1099511627776 && decide ((v.data.size : Int) ≤ 12) && !(v.gone && !v.data.toList.isEmpty)
theorem okVer_site {v : Ver} (h : okVer v = true) : 0 ≤ v.site ∧ v.site ≤ 3 := by
  simp only [okVer, Bool.and_eq_true, inB_iff] at h
  exact h.1.1.1.2

/-- a slice that holds versions of keys: none, or its cells lie in one block -/
structure HdIn (w : World) (a : Option Addr) (cap : Nat) (l : List Hd) : Prop where
  len : l.length ≤ cap
  cap : cap ≤ 9223372036854775807
  held : l = [] ∨ ∃ b off, a = some ⟨b, off, none⟩ ∧ ∀ i r u, i < l.length → (hdL (hdAt l i))[r]? = some u → w.cell? ⟨b, off + (i * 7 + r), none⟩ = some u
theorem HdIn.later {w w' : World} {a : Option Addr} {cap : Nat} {l : List Hd} (hb : Below w.heap.size w w') (h : HdIn w a cap l) : HdIn w' a cap l :=
  ⟨h.len, h.cap, h.held.elim .inl fun ⟨b, off, e, c⟩ => .inr ⟨b, off, e, fun i r u hi hu => cell_later hb (c i r u hi hu)⟩⟩
theorem hdIn_own {w : World} {B : Nat} {T : TypeId} {v : Value} {l : List Hd} (h : w.ownsRow B T 7 v l.length (hdsL l)) : ∃ a cap, v = .slice a l.length cap ∧ HdIn w a cap l := by
  rcases h.2 with ⟨rfl, h0⟩ | ⟨g, cap, cur, rfl, hb, hg, hnc, hm, hs, ht⟩
  · exact ⟨none, 0, by rw [h0], ⟨by omega, by omega, .inl (List.eq_nil_of_length_eq_zero h0)⟩⟩
  · refine ⟨_, cap, rfl, ⟨hnc, by simp only [maxLen] at hm; omega, .inr ⟨g, 0, rfl, fun i r u hi hu => ?_⟩⟩⟩
    have hc := h.cells (g := g) rfl _ _ (hdsL_at l i r u hi hu)
    rw [addr_add] at hc
    rw [Nat.zero_add]
    exact hc

end Go.Proofs.YtnbgjiibpnoieaaDoor
