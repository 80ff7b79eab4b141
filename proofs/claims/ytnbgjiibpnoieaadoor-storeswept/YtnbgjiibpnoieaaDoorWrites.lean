/-
  Writes in memory (a slice of api.Write): what it holds, in later worlds; which writes may be; no Go in sight but the cells.
-/
import Derived.Test.YtnbgjiibpnoieaaDoorLater
import Derived.Test.YtnbgjiibpnoieaaDoorBytes
import Derived.Test.YtnbgjiibpnoieaaDoorRefIn
namespace Go.Proofs.YtnbgjiibpnoieaaDoor
open Go.RowKit

/-- a write: its key, its data, whether it is gone -/
structure Wr where
  key : Int
  data : ByteArray
  gone : Bool

/-- the n-th, or none -/
def wrAt (l : List Wr) (i : Nat) : Wr := l.getD i ⟨0, ⟨#[]⟩, false⟩

/-- the cells of a row of writes -/
def WrCells (w : World) (b off : Nat) (l : List Wr) : Prop :=
  ∀ i, i < l.length → w.cell? ⟨b, off + i * 3, none⟩ = some (.int .i64 (wrAt l i).key) ∧ w.cell? ⟨b, off + i * 3 + 1, none⟩ = some (.string (wrAt l i).data) ∧ w.cell? ⟨b, off + i * 3 + 1 + 1, none⟩ = some (.bool (wrAt l i).gone)

theorem WrCells.later {w w' : World} {b off : Nat} {l : List Wr} (hb : Below w.heap.size w w') (h : WrCells w b off l) : WrCells w' b off l := fun i hi =>
  ⟨cell_later hb (h i hi).1, cell_later hb (h i hi).2.1, cell_later hb (h i hi).2.2⟩

/-- the i-th of the writes may be: its key, above the one ahead; its data; none, if it is gone -/
def okAt (l : List Wr) (i : Nat) : Bool :=
  inB (wrAt l i).key 0 7 && !(decide (0 < i) && decide ((wrAt l i).key ≤ (wrAt l (i - 1)).key)) && decide ((wrAt l i).data.size ≤ 12) && !((wrAt l i).gone && !(wrAt l i).data.toList.isEmpty)
/-- the writes may be -/
def okWs (l : List Wr) : Bool := (List.range l.length).all (okAt l) && inB l.length 1 5

theorem okWs_bad {l : List Wr} {k : Nat} (hk : k < l.length) (h : okAt l k = false) : okWs l = false := by
  have e : (List.range l.length).all (okAt l) = false := by
    rw [List.all_eq_false]
    exact ⟨k, List.mem_range.2 hk, by simp [h]⟩
  simp [okWs, e]
theorem okWs_all {l : List Wr} (h : ∀ j, j < l.length → okAt l j = true) : okWs l = inB l.length 1 5 := by
  have e : (List.range l.length).all (okAt l) = true := by
    rw [List.all_eq_true]
    exact fun j hj => h j (List.mem_range.1 hj)
  simp [okWs, e]

/-- the same of a write, at which place, behind which key -/
def okV (k : Nat) (prev : Int) (x : Wr) : Bool :=
  inB x.key 0 7 && !(decide (0 < k) && decide (x.key ≤ prev)) && decide (x.data.size ≤ 12) && !(x.gone && !x.data.toList.isEmpty)
theorem okAt_eq {l : List Wr} {k : Nat} {x : Wr} (h : wrAt l k = x) : okAt l k = okV k (wrAt l (k - 1)).key x := by rw [← h]; rfl
theorem okv_key {k : Nat} {p key : Int} {data : ByteArray} {gone : Bool} (h : inB key 0 7 = false) : okV k p ⟨key, data, gone⟩ = false := by simp [okV, h]
theorem okv_prev {k : Nat} {p key : Int} {data : ByteArray} {gone : Bool} (h0 : 0 < k) (h : key ≤ p) : okV k p ⟨key, data, gone⟩ = false := by simp [okV, h0, h]
theorem okv_len {k : Nat} {p key : Int} {data : ByteArray} {gone : Bool} (h : 12 < (data.size : Int)) : okV k p ⟨key, data, gone⟩ = false := by
  have e : decide (data.size ≤ 12) = false := decide_eq_false (by omega)
  simp [okV, e]
theorem okv_gone {k : Nat} {p key : Int} {data : ByteArray} {gone : Bool} (h : gone = true) (he : data.toList.isEmpty = false) : okV k p ⟨key, data, gone⟩ = false := by simp [okV, h, he]
theorem okv_good {k : Nat} {p key : Int} {data : ByteArray} {gone : Bool} (h : inB key 0 7 = true) (h0 : k = 0 ∨ ¬ key ≤ p) (hl : ¬ 12 < (data.size : Int)) (hg : gone = false ∨ data.toList.isEmpty = true) : okV k p ⟨key, data, gone⟩ = true := by
  have e : decide (data.size ≤ 12) = true := decide_eq_true (by omega)
  have e2 : (!(decide (0 < k) && decide (key ≤ p))) = true := by
    rcases h0 with h0 | h0
    · simp [h0]
    · simp only [decide_eq_false h0, Bool.and_false, Bool.not_false]
  have e3 : (!(gone && !data.toList.isEmpty)) = true := by
    rcases hg with hg | hg <;> simp [hg]
  simp only [okV, h, e, e2, e3, Bool.and_self]
theorem ok_next {l : List Wr} {k : Nat} (h : ∀ j, j < k → okAt l j = true) (hk : okAt l k = true) : ∀ j, j < k + 1 → okAt l j = true := fun j hj => by
  rcases Nat.lt_or_ge j k with h1 | h1
  · exact h j h1
  · obtain rfl : j = k := by omega
    exact hk

/-- a slice value that holds the writes l: none, or its cells lie in one block -/
structure WrIn (w : World) (a : Option Addr) (cap : Nat) (l : List Wr) : Prop where
  len : l.length ≤ cap
  cap : cap ≤ 9223372036854775807
  held : l = [] ∨ ∃ b off, a = some ⟨b, off, none⟩ ∧ WrCells w b off l

theorem WrIn.later {w w' : World} {a : Option Addr} {cap : Nat} {l : List Wr} (hb : Below w.heap.size w w') (h : WrIn w a cap l) : WrIn w' a cap l :=
  ⟨h.len, h.cap, h.held.elim .inl fun ⟨b, off, e, c⟩ => .inr ⟨b, off, e, c.later hb⟩⟩

/-- the dependency of a site -/
def depOf (site d0 d1 d2 d3 : Int) : Int := if site = 0 then d0 else if site = 1 then d1 else if site = 2 then d2 else d3
/-- a transaction may be -/
def okTx (site seq wall count d0 d1 d2 d3 : Int) (l : List Wr) : Bool :=
  inB site 0 3 && inB seq 1 1099511627776 && (timeB wall && timeB count) && timesB d0 d1 d2 d3 && decide (depOf site d0 d1 d2 d3 = seq - 1) && okWs l

/-- 1 if it is gone, else 0 -/
def flagS (g : Bool) : ByteArray := if g then ⟨#[1]⟩ else ⟨#[0]⟩
/-- a write's bytes behind others -/
def stepS (s : ByteArray) (x : Wr) : ByteArray := s ++ numS 5 x.key ++ flagS x.gone ++ (numS 5 (x.data.size : Int) ++ x.data)
/-- writes' bytes behind others -/
def wrS (s : ByteArray) (l : List Wr) : ByteArray := l.foldl stepS s
/-- all but the writes -/
def headS (site seq wall count d0 d1 d2 d3 : Int) (n : Int) : ByteArray := (⟨#[116]⟩ : ByteArray) ++ numS 5 site ++ numS 5 seq ++ numS 5 wall ++ numS 5 count ++ numS 5 d0 ++ numS 5 d1 ++ numS 5 d2 ++ numS 5 d3 ++ numS 5 n
/-- a transaction's bytes -/
def txS (site seq wall count d0 d1 d2 d3 : Int) (l : List Wr) : ByteArray := wrS (headS site seq wall count d0 d1 d2 d3 l.length) l

theorem flagS_size (g : Bool) : (flagS g).size = 1 := by cases g <;> rfl
theorem wrS_snoc {s : ByteArray} {l : List Wr} {k : Nat} (hk : k < l.length) : wrS s (l.take (k + 1)) = stepS (wrS s (l.take k)) (wrAt l k) := by
  unfold wrS
  rw [List.take_succ_eq_append_getElem hk, List.foldl_append]
  simp [wrAt, List.getD, List.getElem?_eq_getElem hk]
theorem stepS_size (s : ByteArray) (x : Wr) (h : x.data.size ≤ 12) : (stepS s x).size ≤ s.size + 25 := by
  have a := numS_size 5 x.key
  have b := numS_size 5 (x.data.size : Int)
  simp only [stepS, ByteArray.size_append, flagS_size]
  omega
theorem okAt_size {l : List Wr} {k : Nat} (h : okAt l k = true) : (wrAt l k).data.size ≤ 12 := by
  simp only [okAt, Bool.and_eq_true, decide_eq_true_eq] at h
  exact h.1.2
theorem okAt_key {l : List Wr} {k : Nat} (h : okAt l k = true) : 0 ≤ (wrAt l k).key ∧ (wrAt l k).key ≤ 7 := by
  simp only [okAt, Bool.and_eq_true, inB_iff] at h
  exact h.1.1.1
theorem wrS_size {s : ByteArray} {l : List Wr} (h : ∀ j, j < l.length → okAt l j = true) : ∀ k, k ≤ l.length → (wrS s (l.take k)).size ≤ s.size + 25 * k
  | 0, _ => by simp [wrS]
  | k + 1, hk => by
    rw [wrS_snoc (by omega)]
    have a := wrS_size (s := s) h k (by omega)
    have b := stepS_size (wrS s (l.take k)) (wrAt l k) (okAt_size (h k (by omega)))
    omega
theorem headS_size (site seq wall count d0 d1 d2 d3 n : Int) : (headS site seq wall count d0 d1 d2 d3 n).size ≤ 55 := by
  have a := numS_size 5 site
  have b := numS_size 5 seq
  have c := numS_size 5 wall
  have d := numS_size 5 count
  have e := numS_size 5 d0
  have f := numS_size 5 d1
  have g := numS_size 5 d2
  have h := numS_size 5 d3
  have i := numS_size 5 n
  have z : (⟨#[116]⟩ : ByteArray).size = 1 := rfl
  simp only [headS, ByteArray.size_append]
  omega
theorem okWs_each {l : List Wr} (h : okWs l = true) : ∀ j, j < l.length → okAt l j = true := fun j hj => by
  simp only [okWs, Bool.and_eq_true, List.all_eq_true] at h
  exact h.1 j (List.mem_range.2 hj)
theorem okWs_len {l : List Wr} (h : okWs l = true) : 1 ≤ l.length ∧ l.length ≤ 5 := by
  simp only [okWs, Bool.and_eq_true, inB_iff] at h
  omega

/-- writes that are small enough to be held -/
def fewB (l : List Wr) : Bool := decide (l.length ≤ 20) && (List.range l.length).all fun i => decide ((wrAt l i).data.size ≤ 100)
theorem fewB_many {l : List Wr} (h : 20 < (l.length : Int)) : fewB l = false := by
  have e : decide (l.length ≤ 20) = false := decide_eq_false (by omega)
  simp [fewB, e]
theorem fewB_big {l : List Wr} {k : Nat} (hk : k < l.length) (h : 100 < ((wrAt l k).data.size : Int)) : fewB l = false := by
  have e : ((List.range l.length).all fun i => decide ((wrAt l i).data.size ≤ 100)) = false := by
    rw [List.all_eq_false]
    exact ⟨k, List.mem_range.2 hk, by simp; omega⟩
  simp [fewB, e]
theorem fewB_all {l : List Wr} (h : ¬ 20 < (l.length : Int)) (ha : ∀ j, j < l.length → (wrAt l j).data.size ≤ 100) : fewB l = true := by
  have e : ((List.range l.length).all fun i => decide ((wrAt l i).data.size ≤ 100)) = true := by
    rw [List.all_eq_true]
    exact fun j hj => decide_eq_true (ha j (List.mem_range.1 hj))
  have e2 : decide (l.length ≤ 20) = true := decide_eq_true (by omega)
  simp only [fewB, e, e2, Bool.and_self]
theorem fewB_iff {l : List Wr} (h : fewB l = true) : l.length ≤ 20 ∧ ∀ j, j < l.length → (wrAt l j).data.size ≤ 100 := by
  simp only [fewB, Bool.and_eq_true, List.all_eq_true, decide_eq_true_eq] at h
  exact ⟨h.1, fun j hj => h.2 j (List.mem_range.2 hj)⟩

end Go.Proofs.YtnbgjiibpnoieaaDoor
