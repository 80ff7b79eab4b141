import Derived.Test.YtoanjdndmlffdaaGreatDoorChecked
import Derived.Lib.SmallJoins
import Derived.WalkSpells
import Derived.WalkLawsBesides
import Derived.BigQuiet
import Derived.Deep.AppendLies
import Derived.Deep.RegionLaw
import Derived.Lib.Overlaps
import Derived.Lib.AppendZerosOnto
import Derived.Deep.RegionHeld3
namespace Go.Proofs.YtoanjdndmlffdaaGreatDoor
section
open Go.ChangeShapes Go.WideShapes Go.ChangeAt Go.RowKit Go.Joins
theorem own : ownKnob Tryz.prog.godebug = none := by kernel_rfl
end
/-- the greater, and the lesser, of two -/
def maxZ (x y : Int) : Int := if x < y then y else x
def minZ (x y : Int) : Int := if y < x then y else x
theorem maxZ_pos {x y : Int} (h : x < y) : maxZ x y = y := if_pos h
theorem maxZ_neg {x y : Int} (h : ¬ x < y) : maxZ x y = x := if_neg h
theorem minZ_pos {x y : Int} (h : y < x) : minZ x y = y := if_pos h
theorem minZ_neg {x y : Int} (h : ¬ y < x) : minZ x y = x := if_neg h
/-- no number of the second row is above the first's -/
def covB (a0 a1 a2 a3 b0 b1 b2 b3 : Int) : Bool := decide (b0 ≤ a0) && decide (b1 ≤ a1) && decide (b2 ≤ a2) && decide (b3 ≤ a3)
/-- how two integers compare: -1, 0 or 1 -/
def cmpZ (x y : Int) : Int := if x < y then -1 else if y < x then 1 else 0
/-- how two stamps compare: by the wall, then by the count -/
def cmpS (aw ac bw bc : Int) : Int := if cmpZ aw bw = 0 then cmpZ ac bc else cmpZ aw bw
/-- a number that may be a time -/
def timeB (n : Int) : Bool := decide (0 ≤ n) && decide (n ≤ 1099511627776)

theorem cmpZ_lt {x y : Int} (h : x < y) : cmpZ x y = -1 := by unfold cmpZ; rw [if_pos h]
theorem cmpZ_gt {x y : Int} (h : y < x) : cmpZ x y = 1 := by unfold cmpZ; rw [if_neg (by omega), if_pos h]
theorem cmpZ_eq (x : Int) : cmpZ x x = 0 := by unfold cmpZ; rw [if_neg (by omega), if_neg (by omega)]
/-- all four are times -/
def timesB (a0 a1 a2 a3 : Int) : Bool := timeB a0 && timeB a1 && timeB a2 && timeB a3
theorem timeB_true {n : Int} (h0 : 0 ≤ n) (h1 : n ≤ 1099511627776) : timeB n = true := by simp [timeB, h0, h1]
theorem timeB_iff {n : Int} : timeB n = true ↔ 0 ≤ n ∧ n ≤ 1099511627776 := by simp [timeB]

theorem cmpZ_cases (x y : Int) : (x < y ∧ cmpZ x y = -1) ∨ (x = y ∧ cmpZ x y = 0) ∨ (y < x ∧ cmpZ x y = 1) := by
  rcases Int.lt_trichotomy x y with h | h | h
  · exact .inl ⟨h, cmpZ_lt h⟩
  · subst h; exact .inr (.inl ⟨rfl, cmpZ_eq x⟩)
  · exact .inr (.inr ⟨h, cmpZ_gt h⟩)

theorem cmpS_cases (aw ac bw bc : Int) :
    ((aw < bw ∨ aw = bw ∧ ac < bc) ∧ cmpS aw ac bw bc = -1) ∨ ((aw = bw ∧ ac = bc) ∧ cmpS aw ac bw bc = 0) ∨ ((bw < aw ∨ aw = bw ∧ bc < ac) ∧ cmpS aw ac bw bc = 1) := by
  have hw := cmpZ_cases aw bw
  have hc := cmpZ_cases ac bc
  unfold cmpS
  rcases hw with ⟨h, e⟩ | ⟨h, e⟩ | ⟨h, e⟩
  · exact .inl ⟨.inl h, by rw [e]; rfl⟩
  · rcases hc with ⟨g, f⟩ | ⟨g, f⟩ | ⟨g, f⟩
    · exact .inl ⟨.inr ⟨h, g⟩, by rw [if_pos e, f]⟩
    · exact .inr (.inl ⟨⟨h, g⟩, by rw [if_pos e, f]⟩)
    · exact .inr (.inr ⟨.inr ⟨h, g⟩, by rw [if_pos e, f]⟩)
  · exact .inr (.inr ⟨.inl h, by rw [e]; rfl⟩)
section
open Go.RowKit
/-- A world in which all that stood in W is as it was. -/
structure Later (W : World) where
  val : World
  below : Below W.heap.size W val

theorem Later.one (W : World) : Nonempty (Later W) := ⟨⟨W, Below.refl _ _⟩⟩

theorem Later.cell {W : World} {p : Addr} {v : Value} (h : W.cell? p = some v) (x : Later W) : x.val.cell? p = some v := cell_later x.below h

theorem behind {w w1 w2 : World} (h1 : Below w.heap.size w w1) (h2 : Below w1.heap.size w1 w2) : Below w.heap.size w w2 := h1.trans (h2.mono h1.size)
theorem boxed {w w1 : World} (h1 : Below w.heap.size w w1) (o : Obj) : Below w.heap.size w (w1.alloc o) := h1.alloc h1.size o

theorem wp_region_later {P : Program} {id : Nat} {Q : Exit → Act → World → Prop} {a : Act} {w : World} {l : List Oper} (hm : P.follows .mixedOrders = true) (hB : Region.lexB .any l.toArray = true)
    (h : wpQuiet P l.toArray (fun w' => ∃ x : Later w, w' = x.val) (fun a' => ∀ w', (∃ x : Later w, w' = x.val) → Q .normal a' w') l a) : (Code.region id l.toArray true).wp P Q a w :=
  wp_region_quiet (C := fun w' => ∃ x : Later w, w' = x.val) hm hB ⟨⟨w.drew, (Below.refl _ _).drew⟩, rfl⟩ (by simpa using h)

theorem calls_later {P : Program} {f : FuncId} {args : Array Value} {w : World} {x : Later w} {v : Value}
    (h : Calls P f args x.val fun e w' => e = .returned v ∧ Below x.val.heap.size x.val w') : Calls P f args x.val fun e w'' => e = .returned v ∧ ∃ y : Later w, w'' = y.val :=
  h.mono fun _ w'' ⟨he, hb⟩ => ⟨he, ⟨w'', behind x.below hb⟩, rfl⟩

theorem bcell {W w1 : World} (hb : Below W.heap.size W w1) : (∀ b o, b < W.heap.size → w1.cell? ⟨b, o, none⟩ = W.cell? ⟨b, o, none⟩) ∧ (∀ b o, b < W.heap.size → w1.frozen? ⟨b, o, none⟩ = W.frozen? ⟨b, o, none⟩) :=
  ⟨fun b o h => hb.cell (p := ⟨b, o, none⟩) h, fun b o h => hb.frozen (p := ⟨b, o, none⟩) h⟩

theorem blt {W w1 : World} (hb : Below W.heap.size W w1) : ∀ b, b < W.heap.size → b < w1.heap.size := fun _ h => Nat.lt_of_lt_of_le h hb.size

theorem bne {W w1 : World} (hb : Below W.heap.size W w1) : ∀ b, b < W.heap.size → ¬ b = w1.heap.size := fun b h => Nat.ne_of_lt (blt hb b h)
theorem bne2 {W w1 : World} (hb : Below W.heap.size W w1) : ∀ b, b < W.heap.size → ¬ w1.heap.size = b := fun b h => Nat.ne_of_gt (blt hb b h)

theorem below2 {w w1 : World} {a b : Obj} (hb : Below ((w.alloc a).alloc b).heap.size ((w.alloc a).alloc b) w1) : Below w.heap.size w w1 :=
  (((Below.refl _ _).alloc (Nat.le_refl _) _).alloc (by simp) _).trans (hb.mono (by simp; omega))
theorem below3 {w w1 : World} {a b c : Obj} (hb : Below (((w.alloc a).alloc b).alloc c).heap.size (((w.alloc a).alloc b).alloc c) w1) : Below w.heap.size w w1 :=
  ((((Below.refl _ _).alloc (Nat.le_refl _) _).alloc (by simp) _).alloc (by simp; omega) _).trans (hb.mono (by simp; omega))

theorem below_drawn {B : Nat} {a w : World} (n : Nat) (h : Below B a w) : Below B a (w.drewN n) := ⟨h.os, h.tape, h.output, h.size, h.block⟩
end
/-- one byte, as a string -/
def byteS (n : Int) : ByteArray := ⟨#[UInt8.ofNat n.toNat]⟩
/-- a number's bytes, at most f + 1 of them -/
def numS : Nat → Int → ByteArray
  | 0, n => byteS n
  | f + 1, n => if n < 128 then byteS n else byteS (n % 128 + 128) ++ numS f (n / 128)
theorem numS_lt {f : Nat} {n : Int} (h : n < 128) : numS f n = byteS n := by
  cases f with
  | zero => rfl
  | succ f => exact if_pos h
theorem numS_ge {f : Nat} {n : Int} (h : ¬ n < 128) : numS (f + 1) n = byteS (n % 128 + 128) ++ numS f (n / 128) := if_neg h
theorem byteS_size (n : Int) : (byteS n).size = 1 := rfl
theorem numS_size (f : Nat) (n : Int) : (numS f n).size ≤ f + 1 := by
  induction f generalizing n with
  | zero => exact Nat.le_refl 1
  | succ f ih =>
    by_cases h : n < 128
    · rw [numS_lt h, byteS_size]; omega
    · rw [numS_ge h, ByteArray.size_append, byteS_size]; have := ih (n / 128); omega
theorem addS {P : Program} (a b : ByteArray) (h : a.size + b.size ≤ 1000000) (w : World) : (Op.stringOp .add a b).run P w = .ok (.string (a ++ b)) w :=
  run_string_add_sum w a b (by omega)
section
open Go.RowKit
/-- a number that lies between two -/
def inB (n lo hi : Int) : Bool := decide (lo ≤ n) && decide (n ≤ hi)
theorem inB_iff {n lo hi : Int} : inB n lo hi = true ↔ lo ≤ n ∧ n ≤ hi := by simp [inB]
end
section
open Go.RowKit
/-- a write: its key, its data, whether it is gone -/
structure Wr where
  key : Int
  data : ByteArray
  gone : Bool

/-- the n-th, or none -/
def wrAt (l : List Wr) (i : Nat) : Wr := l.getD i ⟨0, ⟨#[]⟩, false⟩

/-- the cells of a row of writes -/
def WrCells (w : World) (b off : Nat) (l : List Wr) : Prop :=
  ∀ i, i < l.length → w.cell? ⟨b, off + i * 3, none⟩ = some (.int .i64 (wrAt l i).key) ∧ w.cell? ⟨b, off + i * 3 + 1, none⟩ = some (.string (wrAt l i).data) ∧ w.cell? ⟨b, off + i * 3 + 1 + 1, none⟩ = some (.bool (wrAt l i).gone)

theorem WrCells.later {w w' : World} {b off : Nat} {l : List Wr} (hb : Below w.heap.size w w') (h : WrCells w b off l) : WrCells w' b off l := fun i hi =>
  ⟨cell_later hb (h i hi).1, cell_later hb (h i hi).2.1, cell_later hb (h i hi).2.2⟩

/-- the i-th of the writes may be: its key, above the one ahead; its data; none, if it is gone -/
def okAt (l : List Wr) (i : Nat) : Bool :=
  inB (wrAt l i).key 0 7 && !(decide (0 < i) && decide ((wrAt l i).key ≤ (wrAt l (i - 1)).key)) && decide ((wrAt l i).data.size ≤ 12) && !((wrAt l i).gone && !(wrAt l i).data.toList.isEmpty)
/-- the writes may be -/
def okWs (l : List Wr) : Bool := (List.range l.length).all (okAt l) && inB l.length 1 5

theorem okWs_bad {l : List Wr} {k : Nat} (hk : k < l.length) (h : okAt l k = false) : okWs l = false := by
  have e : (List.range l.length).all (okAt l) = false := by
    rw [List.all_eq_false]
    exact ⟨k, List.mem_range.2 hk, by simp [h]⟩
  simp [okWs, e]
theorem okWs_all {l : List Wr} (h : ∀ j, j < l.length → okAt l j = true) : okWs l = inB l.length 1 5 := by
  have e : (List.range l.length).all (okAt l) = true := by
    rw [List.all_eq_true]
    exact fun j hj => h j (List.mem_range.1 hj)
  simp [okWs, e]

/-- the same of a write, at which place, behind which key -/
def okV (k : Nat) (prev : Int) (x : Wr) : Bool :=
  inB x.key 0 7 && !(decide (0 < k) && decide (x.key ≤ prev)) && decide (x.data.size ≤ 12) && !(x.gone && !x.data.toList.isEmpty)
theorem okAt_eq {l : List Wr} {k : Nat} {x : Wr} (h : wrAt l k = x) : okAt l k = okV k (wrAt l (k - 1)).key x := by rw [← h]; rfl
theorem okv_key {k : Nat} {p key : Int} {data : ByteArray} {gone : Bool} (h : inB key 0 7 = false) : okV k p ⟨key, data, gone⟩ = false := by simp [okV, h]
theorem okv_prev {k : Nat} {p key : Int} {data : ByteArray} {gone : Bool} (h0 : 0 < k) (h : key ≤ p) : okV k p ⟨key, data, gone⟩ = false := by simp [okV, h0, h]
theorem okv_len {k : Nat} {p key : Int} {data : ByteArray} {gone : Bool} (h : 12 < (data.size : Int)) : okV k p ⟨key, data, gone⟩ = false := by
  have e : decide (data.size ≤ 12) = false := decide_eq_false (by omega)
  simp [okV, e]
theorem okv_gone {k : Nat} {p key : Int} {data : ByteArray} {gone : Bool} (h : gone = true) (he : data.toList.isEmpty = false) : okV k p ⟨key, data, gone⟩ = false := by simp [okV, h, he]
theorem okv_good {k : Nat} {p key : Int} {data : ByteArray} {gone : Bool} (h : inB key 0 7 = true) (h0 : k = 0 ∨ ¬ key ≤ p) (hl : ¬ 12 < (data.size : Int)) (hg : gone = false ∨ data.toList.isEmpty = true) : okV k p ⟨key, data, gone⟩ = true := by
  have e : decide (data.size ≤ 12) = true := decide_eq_true (by omega)
  have e2 : (!(decide (0 < k) && decide (key ≤ p))) = true := by
    rcases h0 with h0 | h0
    · simp [h0]
    · simp only [decide_eq_false h0, Bool.and_false, Bool.not_false]
  have e3 : (!(gone && !data.toList.isEmpty)) = true := by
    rcases hg with hg | hg <;> simp [hg]
  simp only [okV, h, e, e2, e3, Bool.and_self]
theorem ok_next {l : List Wr} {k : Nat} (h : ∀ j, j < k → okAt l j = true) (hk : okAt l k = true) : ∀ j, j < k + 1 → okAt l j = true := fun j hj => by
  rcases Nat.lt_or_ge j k with h1 | h1
  · exact h j h1
  · obtain rfl : j = k := by omega
    exact hk

/-- a slice value that holds the writes l: none, or its cells lie in one block -/
structure WrIn (w : World) (a : Option Addr) (cap : Nat) (l : List Wr) : Prop where
  len : l.length ≤ cap
  cap : cap ≤ 9223372036854775807
  held : l = [] ∨ ∃ b off, a = some ⟨b, off, none⟩ ∧ WrCells w b off l

theorem WrIn.later {w w' : World} {a : Option Addr} {cap : Nat} {l : List Wr} (hb : Below w.heap.size w w') (h : WrIn w a cap l) : WrIn w' a cap l :=
  ⟨h.len, h.cap, h.held.elim .inl fun ⟨b, off, e, c⟩ => .inr ⟨b, off, e, c.later hb⟩⟩

/-- the dependency of a site -/
def depOf (site d0 d1 d2 d3 : Int) : Int := if site = 0 then d0 else if site = 1 then d1 else if site = 2 then d2 else d3
/-- a transaction may be -/
def okTx (site seq wall count d0 d1 d2 d3 : Int) (l : List Wr) : Bool :=
  inB site 0 3 && inB seq 1 1099511627776 && (timeB wall && timeB count) && timesB d0 d1 d2 d3 && decide (depOf site d0 d1 d2 d3 = seq - 1) && okWs l

/-- 1 if it is gone, else 0 -/
def flagS (g : Bool) : ByteArray := if g then ⟨#[1]⟩ else ⟨#[0]⟩
/-- a write's bytes behind others -/
def stepS (s : ByteArray) (x : Wr) : ByteArray := s ++ numS 5 x.key ++ flagS x.gone ++ (numS 5 (x.data.size : Int) ++ x.data)
/-- writes' bytes behind others -/
def wrS (s : ByteArray) (l : List Wr) : ByteArray := l.foldl stepS s
/-- all but the writes -/
def headS (site seq wall count d0 d1 d2 d3 : Int) (n : Int) : ByteArray := (⟨#[116]⟩ : ByteArray) ++ numS 5 site ++ numS 5 seq ++ numS 5 wall ++ numS 5 count ++ numS 5 d0 ++ numS 5 d1 ++ numS 5 d2 ++ numS 5 d3 ++ numS 5 n
/-- a transaction's bytes -/
def txS (site seq wall count d0 d1 d2 d3 : Int) (l : List Wr) : ByteArray := wrS (headS site seq wall count d0 d1 d2 d3 l.length) l

theorem flagS_size (g : Bool) : (flagS g).size = 1 := by cases g <;> rfl
theorem wrS_snoc {s : ByteArray} {l : List Wr} {k : Nat} (hk : k < l.length) : wrS s (l.take (k + 1)) = stepS (wrS s (l.take k)) (wrAt l k) := by
  unfold wrS
  rw [List.take_succ_eq_append_getElem hk, List.foldl_append]
  simp [wrAt, List.getD, List.getElem?_eq_getElem hk]
theorem stepS_size (s : ByteArray) (x : Wr) (h : x.data.size ≤ 12) : (stepS s x).size ≤ s.size + 25 := by
  have a := numS_size 5 x.key
  have b := numS_size 5 (x.data.size : Int)
  simp only [stepS, ByteArray.size_append, flagS_size]
  omega
theorem okAt_size {l : List Wr} {k : Nat} (h : okAt l k = true) : (wrAt l k).data.size ≤ 12 := by
  simp only [okAt, Bool.and_eq_true, decide_eq_true_eq] at h
  exact h.1.2
theorem okAt_key {l : List Wr} {k : Nat} (h : okAt l k = true) : 0 ≤ (wrAt l k).key ∧ (wrAt l k).key ≤ 7 := by
  simp only [okAt, Bool.and_eq_true, inB_iff] at h
  exact h.1.1.1
theorem wrS_size {s : ByteArray} {l : List Wr} (h : ∀ j, j < l.length → okAt l j = true) : ∀ k, k ≤ l.length → (wrS s (l.take k)).size ≤ s.size + 25 * k
  | 0, _ => by simp [wrS]
  | k + 1, hk => by
    rw [wrS_snoc (by omega)]
    have a := wrS_size (s := s) h k (by omega)
    have b := stepS_size (wrS s (l.take k)) (wrAt l k) (okAt_size (h k (by omega)))
    omega
theorem headS_size (site seq wall count d0 d1 d2 d3 n : Int) : (headS site seq wall count d0 d1 d2 d3 n).size ≤ 55 := by
  have a := numS_size 5 site
  have b := numS_size 5 seq
  have c := numS_size 5 wall
  have d := numS_size 5 count
  have e := numS_size 5 d0
  have f := numS_size 5 d1
  have g := numS_size 5 d2
  have h := numS_size 5 d3
  have i := numS_size 5 n
  have z : (⟨#[116]⟩ : ByteArray).size = 1 := rfl
  simp only [headS, ByteArray.size_append]
  omega
theorem okWs_each {l : List Wr} (h : okWs l = true) : ∀ j, j < l.length → okAt l j = true := fun j hj => by
  simp only [okWs, Bool.and_eq_true, List.all_eq_true] at h
  exact h.1 j (List.mem_range.2 hj)
theorem okWs_len {l : List Wr} (h : okWs l = true) : 1 ≤ l.length ∧ l.length ≤ 5 := by
  simp only [okWs, Bool.and_eq_true, inB_iff] at h
  omega
end
section
open Go.RowKit
/-- block g, at or behind B, holds the bytes S, with room up to cap -/
structure Own (w : World) (B g cap : Nat) (S : ByteArray) : Prop where
  base : B ≤ g
  lt : g < w.heap.size
  room : S.size ≤ cap
  most : cap ≤ maxLen
  have_ : ∀ j u, (byteCells S)[j]? = some u → w.cell? ⟨g, j, none⟩ = some u
  there : ∀ j, j < cap → (w.cell? ⟨g, j, none⟩).isSome = true
  free : ∀ j, j < cap → w.frozen? ⟨g, j, none⟩ = false

theorem Own.kept {w w' : World} {B g cap : Nat} {S : ByteArray} (h : Own w B g cap S) (hb : w'.heap[g]? = w.heap[g]?) (hs : w.heap.size ≤ w'.heap.size) : Own w' B g cap S :=
  ⟨h.base, Nat.lt_of_lt_of_le h.lt hs, h.room, h.most, fun j u hu => by rw [World.cell?_of_block (w := w) hb]; exact h.have_ j u hu,
    fun j hj => by rw [World.cell?_of_block (w := w) hb]; exact h.there j hj, fun j hj => by rw [World.frozen?_of_block (w := w) hb]; exact h.free j hj⟩
theorem Own.later {w w' : World} {B g cap : Nat} {S : ByteArray} (h : Own w B g cap S) (hb : Below w.heap.size w w') : Own w' B g cap S := h.kept (hb.block g h.lt) hb.size
theorem Own.alloc {w : World} {B g cap : Nat} {S : ByteArray} (h : Own w B g cap S) (o : Obj) : Own (w.alloc o) B g cap S := h.later (boxed (Below.refl _ _) o)

theorem byteCells_append (a b : ByteArray) : byteCells (a ++ b) = byteCells a ++ byteCells b := by
  unfold byteCells
  rw [ByteArray.data_append, Array.toList_append, List.map_append]
theorem byteCells_one {n : Int} (h0 : 0 ≤ n) (h1 : n < 256) : byteCells (byteS n) = [.int .u8 n] := by
  have e : (UInt8.ofNat n.toNat).toNat = n.toNat := by
    rw [UInt8.toNat_ofNat']
    exact Nat.mod_eq_of_lt (by omega)
  show [Value.int .u8 (UInt8.ofNat n.toNat).toNat] = _
  rw [e, Int.toNat_of_nonneg h0]

theorem Own.mono {w : World} {B B' g cap : Nat} {S : ByteArray} (h : Own w B g cap S) (hB : B' ≤ B) : Own w B' g cap S := ⟨Nat.le_trans hB h.base, h.lt, h.room, h.most, h.have_, h.there, h.free⟩

theorem Own.one (w : World) (B : Nat) (e : TypeId) {n : Int} (h0 : 0 ≤ n) (h1 : n < 256) (hB : B ≤ w.heap.size) : Own (w.alloc (.cells #[.int .u8 n] e (1, 2))) B w.heap.size 1 (byteS n) := by
  have hcell : ∀ j, (w.alloc (.cells #[.int .u8 n] e (1, 2))).cell? ⟨w.heap.size, j, none⟩ = (#[Value.int .u8 n])[j]? := fun j => cell_of_row _ w.heap.size j _ e (1, 2) (heap_alloc_new w (.cells #[.int .u8 n] e (1, 2)))
  refine ⟨hB, by simp, Nat.le_refl _, by simp [maxLen], fun j u hu => ?_, fun j hj => ?_, fun j hj => ?_⟩
  · rw [byteCells_one h0 h1] at hu
    rw [hcell]
    simpa using hu
  · obtain rfl : j = 0 := by omega
    rw [hcell]
    rfl
  · obtain rfl : j = 0 := by omega
    have hn := heap_alloc_new w (.cells #[.int .u8 n] e (1, 2))
    unfold World.frozen?
    rw [hn]
    rfl

/-- block g alone was written, and new ones -/
abbrev Only (g : Nat) (w w' : World) : Prop := w.grownBy w' (some g)

theorem Only.refl (g : Nat) (w : World) : Only g w w := ⟨rfl, rfl, rfl, Nat.le_refl _, fun _ _ _ => rfl⟩
theorem Only.trans {g g' : Nat} {a b c : World} (h : Only g a b) (k : Only g' b c) (e : g' = g ∨ a.heap.size ≤ g') : Only g a c :=
  ⟨k.os.trans h.os, k.tape.trans h.tape, k.output.trans h.output, Nat.le_trans h.size k.size, fun i hi hne =>
    (k.block i (Nat.lt_of_lt_of_le hi h.size) (fun x => by
      injection x with x
      rcases e with e | e
      · exact hne (by rw [x, e])
      · omega)).trans (h.block i hi hne)⟩
theorem Only.ofBelow {g : Nat} {w w' : World} (h : Below w.heap.size w w') : Only g w w' := ⟨h.os, h.tape, h.output, h.size, fun k hk _ => h.block k hk⟩
theorem Only.below {g B : Nat} {w w' : World} (h : Only g w w') (hg : B ≤ g) (hB : B ≤ w.heap.size) : Below B w w' :=
  ⟨h.os, h.tape, h.output, h.size, fun k hk => h.block k (by omega) (fun x => by injection x with x; omega)⟩
theorem Only.cell {g : Nat} {w w' : World} (h : Only g w w') {p : Addr} {v : Value} (hc : w.cell? p = some v) (hne : p.block ≠ g) : w'.cell? p = some v := World.grownBy.cell h hc (fun x => by injection x with x; exact hne x)

theorem only_setCells (g : Nat) : ∀ (vs : List Value) (o : Nat) (w : World), Only g w (w.setCells g o vs)
  | [], _, w => Only.refl g w
  | v :: vs, o, w =>
    have h1 : Only g w (w.setCell ⟨g, o, none⟩ v) := ⟨rfl, rfl, rfl, by simp [World.setCell], fun k _ hk => Below.heap_setCell w ⟨g, o, none⟩ v k (fun e => hk (by rw [e]))⟩
    Only.trans h1 (only_setCells g vs (o + 1) (w.setCell ⟨g, o, none⟩ v)) (.inl rfl)

theorem run_append_bytes {P : Program} {w : World} (t tx ty e : TypeId) (ht : P.underlying t = some (.slice e)) (hI : (P.info? e).map (fun i => (i.zero, i.size, i.bytes)) = some (some (.int .u8 0), 1, 1))
    {B g cap : Nat} {S : ByteArray} (hown : Own w B g cap S) (T : ByteArray) (v : Value) (hsrc : Src P 1 tx v T.size (byteCells T) w) (hsz : S.size + T.size ≤ 1000000) (hB : B ≤ w.heap.size) :
    ∃ g' cap' w', (Builtin.append_ #[t, tx] ty #[.slice (some ⟨g, 0, none⟩) S.size cap, v]).run P w = .ok (.slice (some ⟨g', 0, none⟩) (S ++ T).size cap') w' ∧ Own w' B g' cap' (S ++ T) ∧ (g' = g ∨ g' = w.heap.size) ∧ Only g w w' := by
  obtain ⟨i, hi, hz, hs1, hb1⟩ := info_parts hI
  have hl : (byteCells T).length = T.size := byteCells_length T
  have hl0 : (byteCells S).length = S.size := byteCells_length S
  rw [ByteArray.size_append]
  by_cases hroom : S.size + T.size ≤ cap
  · have hc : ∀ j, j < (byteCells T).length → (w.cell? ⟨g, 0 + S.size * i.size + j, none⟩).isSome = true := fun j hj => by
      rw [hs1, Nat.mul_one, Nat.zero_add]; exact hown.there _ (by omega)
    have hf : ∀ j, j < (byteCells T).length → w.frozen? ⟨g, 0 + S.size * i.size + j, none⟩ = false := fun j hj => by
      rw [hs1, Nat.mul_one, Nat.zero_add]; exact hown.free _ (by omega)
    have hr := run_append_room_src (P := P) w t tx ty e i ht hi g 0 S.size cap v T.size (byteCells T) (by rw [hs1]; exact hsrc) hroom hc hf
    rw [hs1, Nat.mul_one, Nat.zero_add] at hr
    rw [hs1, Nat.mul_one, Nat.zero_add] at hc
    refine ⟨g, cap, _, hr, ⟨hown.base, Nat.lt_of_lt_of_le hown.lt (only_setCells g _ _ w).size, by rw [ByteArray.size_append]; exact hroom, hown.most, ?_, ?_, ?_⟩, .inl rfl, only_setCells g _ _ w⟩
    · intro j u hu
      rw [byteCells_append] at hu
      rcases Nat.lt_or_ge j S.size with hj | hj
      · rw [List.getElem?_append_left (by omega)] at hu
        rw [World.cell?_setCells_out g _ _ _ _ (fun _ _ => .inl hj)]
        exact hown.have_ j u hu
      · rw [List.getElem?_append_right (by omega), hl0] at hu
        have hj2 : j - S.size < (byteCells T).length := by
          rcases Nat.lt_or_ge (j - S.size) (byteCells T).length with h | h
          · exact h
          · rw [List.getElem?_eq_none h] at hu; cases hu
        have := World.cell?_setCells_in g (byteCells T) S.size w hc (j - S.size) hj2
        rw [Nat.add_sub_cancel' hj] at this
        rw [this]
        rw [List.getElem?_eq_getElem hj2] at hu
        exact hu
    · intro j hj
      by_cases hin : S.size ≤ j ∧ j < S.size + T.size
      · have := World.cell?_setCells_in g (byteCells T) S.size w hc (j - S.size) (by omega)
        rw [Nat.add_sub_cancel' hin.1] at this
        rw [this]; rfl
      · rw [World.cell?_setCells_out g _ _ _ _ (fun _ _ => by rw [hl]; show j < S.size ∨ S.size + T.size ≤ j; omega)]
        exact hown.there j hj
    · intro j hj
      rw [World.frozen?_setCells]
      exact hown.free j hj
  · have hold : (Builtin.firstCells i.size S.size (.slice (some ⟨g, 0, none⟩) S.size cap)).run P w.drew = .ok (byteCells S).toArray w.drew :=
      run_firstCells_some w.drew i.size S.size ⟨g, 0, none⟩ S.size cap (byteCells S) (by rw [hs1, Nat.mul_one, hl0]) (fun j u hu => by
        have hadd : (⟨g, 0, none⟩ : Addr).add j = ⟨g, j, none⟩ := by unfold Addr.add; split <;> simp_all
        rw [hadd]
        exact hown.have_ j u hu)
    have hr := run_append_grow_src (P := P) w t tx ty e i (.int .u8 0) ht hi hz (some ⟨g, 0, none⟩) S.size cap (byteCells S) hold v T.size (byteCells T) (by rw [hs1]; exact hsrc) (by omega) (by omega) (by rw [hb1]; exact growslice_fits (by omega) (by omega))
    have hge := grownCap_ge w (S.size + T.size) cap e
    have hcm := grownCap_le_maxLen w (S.size + T.size) cap e (by simp only [maxLen]; omega)
    have hlen : ((byteCells S ++ byteCells T).toArray ++ Builtin.zeroCells (Value.int IntKind.u8 0).cells (grownCap w (S.size + T.size) cap e - (S.size + T.size))).size = grownCap w (S.size + T.size) cap e := by
      have hz1 : (Value.int IntKind.u8 0).cells.size = 1 := rfl
      simp only [Array.size_append, List.size_toArray, List.length_append, size_zeroCells, hz1, hl, hl0]
      omega
    have hnew := heap_alloc_new w.drew (.cells ((byteCells S ++ byteCells T).toArray ++ Builtin.zeroCells (Value.int IntKind.u8 0).cells (grownCap w (S.size + T.size) cap e - (S.size + T.size))) e)
    have hcell : ∀ j, (w.drew.alloc (.cells ((byteCells S ++ byteCells T).toArray ++ Builtin.zeroCells (Value.int IntKind.u8 0).cells (grownCap w (S.size + T.size) cap e - (S.size + T.size))) e)).cell? ⟨w.heap.size, j, none⟩ = ((byteCells S ++ byteCells T).toArray ++ Builtin.zeroCells (Value.int IntKind.u8 0).cells (grownCap w (S.size + T.size) cap e - (S.size + T.size)))[j]? := fun j => cell_of_row _ w.heap.size j _ e (0, 0) hnew
    refine ⟨w.heap.size, _, _, hr, ⟨hB, by simp, by rw [ByteArray.size_append]; exact hge, hcm, ?_, ?_, ?_⟩, .inr rfl, ⟨rfl, rfl, rfl, by simp, fun k hk _ => Below.heap_alloc w.drew _ k hk⟩⟩
    · intro j u hu
      rw [hcell, Array.getElem?_append_left (by
        rcases Nat.lt_or_ge j (byteCells (S ++ T)).length with h | h
        · rw [byteCells_append] at h; simpa using h
        · rw [List.getElem?_eq_none h] at hu; cases hu)]
      rw [byteCells_append] at hu
      simpa using hu
    · intro j hj
      rw [hcell, Array.getElem?_eq_getElem (by rw [hlen]; exact hj)]
      rfl
    · intro j _
      exact World.frozen?_alloc_at _ _ _ _ rfl

theorem wpList_append_bytes {P : Program} {w : World} {ops : Array Oper} {rest : List Oper} {o : Oper} {a : Act} {Q : Exit → Act → World → Prop} (hgd : o.guard = none) (s x : Operand) (t tx e : TypeId)
    (ho : o.op = .call { callee := .builtin .append, args := #[s, x], argTypes := #[t, tx] }) (ht : P.underlying t = some (.slice e)) (hI : (P.info? e).map (fun i => (i.zero, i.size, i.bytes)) = some (some (.int .u8 0), 1, 1))
    {B g cap : Nat} {S : ByteArray} (hs : a.eval s = .slice (some ⟨g, 0, none⟩) S.size cap) (hown : Own w B g cap S) (T : ByteArray) (v : Value) (hx : a.eval x = v) (hsrc : Src P 1 tx v T.size (byteCells T) w) (hsz : S.size + T.size ≤ 1000000) (hB : B ≤ w.heap.size)
    (h : ∀ S' g' cap' w', Hid (S' = S ++ T) → Own w' B g' cap' S' → (g' = g ∨ g' = w.heap.size) → Only g w w' → wpList P ops Q rest (a.put o.dst (.slice (some ⟨g', 0, none⟩) S'.size cap')) w') : wpList P ops Q (o :: rest) a w := by
  refine wpList_plain hgd fun K hK => ?_
  obtain ⟨g', cap', w', hr, h2, h3, h4⟩ := run_append_bytes (P := P) t tx o.type e ht hI hown T v hsrc hsz hB
  unfold Oper.wp execOp
  simp only [ho, resolve, invoke, builtin, Sem.run_bind, Sem.run_pure, Result.andThen_ok, List.map_toArray, List.map_cons, List.map_nil, hs, hx, hr]
  exact hK _ _ (h _ g' cap' w' rfl h2 h3 h4)

theorem srcByte {P : Program} {w : World} {tx e : TypeId} (ht : P.underlying tx = some (.slice e)) {b : Nat} {n : Int} (h0 : 0 ≤ n) (h1 : n < 256) (c : Nat) (hc : w.cell? ⟨b, 0, none⟩ = some (.int .u8 n)) :
    Src P 1 tx (.slice (some ⟨b, 0, none⟩) 1 c) (byteS n).size (byteCells (byteS n)) w := by
  rw [byteS_size, byteCells_one h0 h1]
  refine Src.ofSlice w ht _ 1 c _ rfl ?_ ?_
  · intro j u hu
    match j, hu with
    | 0, hu =>
      injection hu with hu
      subst hu
      exact hc
    | j + 1, hu => cases hu
  · intro u hu
    simp only [List.mem_singleton] at hu
    subst hu
    rfl
end
section
open Go.RowKit
/-- block b begins with the values vs, and may be written -/
structure RowL (w : World) (b : Nat) (vs : List Value) : Prop where
  cell : ∀ j v, vs[j]? = some v → w.cell? ⟨b, j, none⟩ = some v
  free : ∀ j, j < vs.length → w.frozen? ⟨b, j, none⟩ = false
  lt : b < w.heap.size

theorem RowL.kept {w w' : World} {b : Nat} {vs : List Value} (h : RowL w b vs) (e : w'.heap[b]? = w.heap[b]?) (hs : w.heap.size ≤ w'.heap.size) : RowL w' b vs :=
  ⟨fun j v hv => by rw [World.cell?_of_block (w := w) e]; exact h.cell j v hv, fun j hj => by rw [World.frozen?_of_block (w := w) e]; exact h.free j hj, Nat.lt_of_lt_of_le h.lt hs⟩
theorem RowL.later {w w' : World} {b : Nat} {vs : List Value} (h : RowL w b vs) (hb : Below w.heap.size w w') : RowL w' b vs := h.kept (hb.block b h.lt) hb.size
theorem RowL.only {w w' : World} {rb b : Nat} {vs : List Value} (h : RowL w b vs) (hO : Only rb w w') (hne : b ≠ rb) : RowL w' b vs := h.kept (hO.block b h.lt (fun x => by injection x with x; exact hne x)) hO.size
theorem RowL.grown {w w' : World} {r : Option Nat} {b : Nat} {vs : List Value} (h : RowL w b vs) (hO : w.grownBy w' r) (hne : some b ≠ r) : RowL w' b vs := h.kept (hO.block b h.lt hne) hO.size
theorem RowL.far {w : World} {b : Nat} {vs : List Value} (h : RowL w b vs) (p : Addr) (u : Value) (hn : p.block ≠ b) : RowL (w.setCell p u) b vs := h.kept (Below.heap_setCell _ _ _ _ (Ne.symm hn)) (by simp [World.setCell])
theorem RowL.boxed {w : World} {b : Nat} {vs : List Value} (h : RowL w b vs) (o : Obj) : RowL (w.alloc o) b vs := h.kept (Below.heap_alloc _ _ _ h.lt) (by simp)
theorem RowL.drew {w : World} {b : Nat} {vs : List Value} (h : RowL w b vs) : RowL w.drew b vs := h.kept rfl (Nat.le_refl _)
theorem RowL.new {w : World} {T : TypeId} {n : Nat} (vs : List Value) (hn : w.heap.size = n) : RowL (w.alloc (.cells vs.toArray T)) n vs := by
  subst hn
  have hnew := heap_alloc_new w (.cells vs.toArray T)
  refine ⟨fun j v hv => ?_, fun j _ => World.frozen?_alloc_at _ _ _ _ rfl, by simp⟩
  rw [cell_of_row _ w.heap.size j _ T (0, 0) hnew]
  simpa using hv
theorem RowL.set {w : World} {b : Nat} {vs : List Value} (h : RowL w b vs) (k : Nat) (u : Value) (hk : k < vs.length) : RowL (w.setCell ⟨b, k, none⟩ u) b (vs.set k u) := by
  refine ⟨fun j v hv => ?_, fun j hj => by rw [World.frozen?_setCell]; exact h.free j (by simpa using hj), by simpa [World.setCell] using h.lt⟩
  by_cases hj : k = j
  · subst hj
    rw [List.getElem?_set_self hk] at hv
    injection hv with hv
    subst hv
    exact World.cell?_setCell_same _ _ _ (h.cell k vs[k] (List.getElem?_eq_getElem hk))
  · rw [List.getElem?_set_ne hj] at hv
    rw [World.cell?_setCell_other _ _ _ _ (by intro e; injection e with _ e _; exact hj e)]
    exact h.cell j v hv

/-- a write's cells -/
def wrC (x : Wr) : List Value := [.int .i64 x.key, .string x.data, .bool x.gone]
def wrsC (l : List Wr) : List Value := l.flatMap wrC
theorem wrsC_length (l : List Wr) : (wrsC l).length = l.length * 3 := by
  induction l with
  | nil => rfl
  | cons x l ih =>
    show (wrC x ++ wrsC l).length = _
    rw [List.length_append, ih]
    simp [wrC]
    omega
theorem wrsC_snoc (l : List Wr) (x : Wr) : wrsC (l ++ [x]) = wrsC l ++ wrC x := by simp [wrsC]
theorem wrsC_at : ∀ (l : List Wr) (i : Nat), i < l.length → (wrsC l)[i * 3]? = some (.int .i64 (wrAt l i).key) ∧ (wrsC l)[i * 3 + 1]? = some (.string (wrAt l i).data) ∧ (wrsC l)[i * 3 + 1 + 1]? = some (.bool (wrAt l i).gone)
  | [], _, h => by simp at h
  | x :: l, 0, _ => ⟨rfl, rfl, rfl⟩
  | x :: l, i + 1, h => by
    have ih := wrsC_at l i (by simpa using h)
    have e : wrAt (x :: l) (i + 1) = wrAt l i := rfl
    have e1 : (i + 1) * 3 = i * 3 + 1 + 1 + 1 := by omega
    rw [e, e1]
    exact ih

theorem addr_add (g j : Nat) : (⟨g, 0, none⟩ : Addr).add j = ⟨g, j, none⟩ := by unfold Addr.add; split <;> simp_all

theorem wrIn_own {w : World} {B : Nat} {T : TypeId} {v : Value} {l : List Wr} (h : w.ownsRow B T 3 v l.length (wrsC l)) : ∃ a cap, v = .slice a l.length cap ∧ WrIn w a cap l := by
  rcases h.2 with ⟨rfl, h0⟩ | ⟨g, cap, cur, rfl, hb, hg, hnc, hm, hs, ht⟩
  · exact ⟨none, 0, by rw [h0], ⟨by omega, by omega, .inl (List.eq_nil_of_length_eq_zero h0)⟩⟩
  · refine ⟨_, cap, rfl, ⟨hnc, by simp only [maxLen] at hm; omega, .inr ⟨g, 0, rfl, fun i hi => ?_⟩⟩⟩
    have hc := h.cells (g := g) rfl
    obtain ⟨a0, a1, a2⟩ := wrsC_at l i hi
    have b0 := hc _ _ a0
    have b1 := hc _ _ a1
    have b2 := hc _ _ a2
    rw [addr_add] at b0 b1 b2
    rw [Nat.zero_add]
    exact ⟨b0, b1, b2⟩

theorem step_call {P : Program} {ops : Array Oper} {o : Oper} {a : Act} {w : World} {K : Act → World → Prop} {Q : Exit → Act → World → Prop} {E : Prop} (hg : o.guard = none) (f : FuncId) (args : Array Value)
    (he : (execOp a.eval o).run P w = .ok (.enter f args) w) {R : Ending → World → Prop} (h : Calls P f args w R) (hK : ∀ e w', R e w' → ∃ v, e = .returned v ∧ K (a.put o.dst v) w') :
    if Region.wanted o (yielded ops a.tmps) = true then Oper.wp P o a w K Q else E := by
  have hw : Region.wanted o (yielded ops a.tmps) = true := by simp [Region.wanted, hg]
  rw [if_pos hw]
  unfold Oper.wp
  rw [he]
  exact h.mono fun e w' hr => by
    obtain ⟨v, rfl, hk⟩ := hK e w' hr
    exact hk
end
section
open Go.RowKit
/-- a version -/
structure Ver where
  wall : Int
  count : Int
  site : Int
  seq : Int
  data : ByteArray
  gone : Bool
/-- a version of a key -/
structure Hd where
  key : Int
  v : Ver

def ver0 : Ver := ⟨0, 0, 0, 0, ⟨#[]⟩, false⟩
/-- its cells -/
def verL (v : Ver) : List Value := [.int .i64 v.wall, .int .i64 v.count, .int .i64 v.site, .int .i64 v.seq, .string v.data, .bool v.gone]
/-- which one is earlier -/
def beforeV (a b : Ver) : Bool := if cmpS a.wall a.count b.wall b.count = 0 then decide (a.site < b.site) else decide (cmpS a.wall a.count b.wall b.count < 0)
/-- a vector has it -/
def hasV (a0 a1 a2 a3 : Int) (v : Ver) : Bool := decide (v.seq ≤ depOf v.site a0 a1 a2 a3)
/-- one more is looked at -/
def stepV (key a0 a1 a2 a3 : Int) (best : Option Ver) (h : Hd) : Option Ver :=
  if h.key = key ∧ hasV a0 a1 a2 a3 h.v = true ∧ (match best with | none => true | some b => beforeV b h.v) = true then some h.v else best
/-- the last one of a key that a vector has -/
def lastV (key a0 a1 a2 a3 : Int) (l : List Hd) : Option Ver := l.foldl (stepV key a0 a1 a2 a3) none
theorem stepV_none {key a0 a1 a2 a3 : Int} {best : Option Ver} {h : Hd} (hn : ¬ (h.key = key ∧ hasV a0 a1 a2 a3 h.v = true ∧ (match best with | none => true | some b => beforeV b h.v) = true)) : stepV key a0 a1 a2 a3 best h = best := if_neg hn
theorem stepV_some {key a0 a1 a2 a3 : Int} {best : Option Ver} {h : Hd} (hn : h.key = key ∧ hasV a0 a1 a2 a3 h.v = true ∧ (match best with | none => true | some b => beforeV b h.v) = true) : stepV key a0 a1 a2 a3 best h = some h.v := if_pos hn

/-- a version that may be -/
def okVer (v : Ver) : Bool := (timeB v.wall && timeB v.count) && inB v.site 0 3 && inB v.seq 1 1099511627776 && decide ((v.data.size : Int) ≤ 12) && !(v.gone && !v.data.toList.isEmpty)
theorem okVer_site {v : Ver} (h : okVer v = true) : 0 ≤ v.site ∧ v.site ≤ 3 := by
  simp only [okVer, Bool.and_eq_true, inB_iff] at h
  exact h.1.1.1.2
end
section
open Go.RowKit
set_option maxHeartbeats 400000 in
theorem isTime_any (n : Int) (w : World) :
    Calls Tryz.prog 271 #[.int .i64 n] w fun e w' => e = .returned (.bool (timeB n)) ∧ w' = w := by
  by_cases h0 : 0 ≤ n
  · by_cases h1 : n ≤ 1099511627776
    · rw [timeB_true h0 h1]
      go_enter Tryz.func271, Tryz.ntmps271
      go_wp2
      go_ret
      exact ⟨rfl, rfl⟩
    · have e : timeB n = false := by simp [timeB, h1]
      rw [e]
      go_enter Tryz.func271, Tryz.ntmps271
      go_wp2
      go_ret
      exact ⟨rfl, rfl⟩
  · have e : timeB n = false := by simp [timeB, h0]
    rw [e]
    go_enter Tryz.func271, Tryz.ntmps271
    go_wp2
    go_ret
    exact ⟨rfl, rfl⟩

set_option maxHeartbeats 400000 in
theorem right_any (x c : Int) (w : World) :
    Calls Tryz.prog 270 #[.agg #[.int .i64 x, .int .i64 c]] w fun e w' => e = .returned (.bool (timeB x && timeB c)) ∧ Below w.heap.size w w' := by
  by_cases h : timeB x = true
  · rw [h]
    go_enter Tryz.func270, Tryz.ntmps270
    go_wp2_with (go_at_call 271; refine (isTime_any _ _).mono ?_; rintro e w' ⟨rfl, rfl⟩)
    go_ret
    exact ⟨by simp, (Below.refl _ _).alloc (Nat.le_refl _) _⟩
  · have h' : timeB x = false := by simpa using h
    rw [h']
    go_enter Tryz.func270, Tryz.ntmps270
    go_wp2_with (go_at_call 271; refine (isTime_any _ _).mono ?_; rintro e w' ⟨rfl, rfl⟩)
    go_ret
    exact ⟨by simp, (Below.refl _ _).alloc (Nat.le_refl _) _⟩
end
section
open Go.RowKit
/-- block b holds four ints, and may be written -/
structure Row4 (w : World) (b : Nat) (a0 a1 a2 a3 : Int) : Prop where
  c0 : w.cell? ⟨b, 0, none⟩ = some (.int .i64 a0)
  c1 : w.cell? ⟨b, 1, none⟩ = some (.int .i64 a1)
  c2 : w.cell? ⟨b, 2, none⟩ = some (.int .i64 a2)
  c3 : w.cell? ⟨b, 3, none⟩ = some (.int .i64 a3)
  f0 : w.frozen? ⟨b, 0, none⟩ = false
  f1 : w.frozen? ⟨b, 1, none⟩ = false
  f2 : w.frozen? ⟨b, 2, none⟩ = false
  f3 : w.frozen? ⟨b, 3, none⟩ = false

theorem Row4.lt {w : World} {b : Nat} {a0 a1 a2 a3 : Int} (h : Row4 w b a0 a1 a2 a3) : b < w.heap.size := World.block_lt_of_cell? _ _ h.c0

theorem Row4.later {w w' : World} {b : Nat} {a0 a1 a2 a3 : Int} (hb : Below w.heap.size w w') (h : Row4 w b a0 a1 a2 a3) : Row4 w' b a0 a1 a2 a3 :=
  have l := h.lt
  ⟨cell_later hb h.c0, cell_later hb h.c1, cell_later hb h.c2, cell_later hb h.c3, (hb.frozen (p := ⟨b, 0, none⟩) l).trans h.f0, (hb.frozen (p := ⟨b, 1, none⟩) l).trans h.f1, (hb.frozen (p := ⟨b, 2, none⟩) l).trans h.f2, (hb.frozen (p := ⟨b, 3, none⟩) l).trans h.f3⟩

theorem Row4.new (w : World) (T : TypeId) (a0 a1 a2 a3 : Int) : Row4 (w.alloc (.cells #[.int .i64 a0, .int .i64 a1, .int .i64 a2, .int .i64 a3] T)) w.heap.size a0 a1 a2 a3 := by
  constructor <;> go_simp

theorem Row4.far {w : World} {b : Nat} {a0 a1 a2 a3 : Int} (h : Row4 w b a0 a1 a2 a3) (p : Addr) (u : Value) (hn : p.block ≠ b) : Row4 (w.setCell p u) b a0 a1 a2 a3 := by
  have e : (w.setCell p u).heap[b]? = w.heap[b]? := Below.heap_setCell _ _ _ _ (Ne.symm hn)
  constructor
  · rw [World.cell?_of_block (w := w) e]; exact h.c0
  · rw [World.cell?_of_block (w := w) e]; exact h.c1
  · rw [World.cell?_of_block (w := w) e]; exact h.c2
  · rw [World.cell?_of_block (w := w) e]; exact h.c3
  · rw [World.frozen?_of_block (w := w) e]; exact h.f0
  · rw [World.frozen?_of_block (w := w) e]; exact h.f1
  · rw [World.frozen?_of_block (w := w) e]; exact h.f2
  · rw [World.frozen?_of_block (w := w) e]; exact h.f3

theorem Row4.set0 {w : World} {b : Nat} {a0 a1 a2 a3 : Int} (h : Row4 w b a0 a1 a2 a3) (x : Int) : Row4 (w.setCell ⟨b, 0, none⟩ (.int .i64 x)) b x a1 a2 a3 :=
  ⟨World.cell?_setCell_same _ _ _ h.c0, (World.cell?_setCell_other _ _ _ _ (by simp)).trans h.c1, (World.cell?_setCell_other _ _ _ _ (by simp)).trans h.c2, (World.cell?_setCell_other _ _ _ _ (by simp)).trans h.c3, (World.frozen?_setCell _ _ _ _).trans h.f0, (World.frozen?_setCell _ _ _ _).trans h.f1, (World.frozen?_setCell _ _ _ _).trans h.f2, (World.frozen?_setCell _ _ _ _).trans h.f3⟩
theorem Row4.set1 {w : World} {b : Nat} {a0 a1 a2 a3 : Int} (h : Row4 w b a0 a1 a2 a3) (x : Int) : Row4 (w.setCell ⟨b, 1, none⟩ (.int .i64 x)) b a0 x a2 a3 :=
  ⟨(World.cell?_setCell_other _ _ _ _ (by simp)).trans h.c0, World.cell?_setCell_same _ _ _ h.c1, (World.cell?_setCell_other _ _ _ _ (by simp)).trans h.c2, (World.cell?_setCell_other _ _ _ _ (by simp)).trans h.c3, (World.frozen?_setCell _ _ _ _).trans h.f0, (World.frozen?_setCell _ _ _ _).trans h.f1, (World.frozen?_setCell _ _ _ _).trans h.f2, (World.frozen?_setCell _ _ _ _).trans h.f3⟩
theorem Row4.set2 {w : World} {b : Nat} {a0 a1 a2 a3 : Int} (h : Row4 w b a0 a1 a2 a3) (x : Int) : Row4 (w.setCell ⟨b, 2, none⟩ (.int .i64 x)) b a0 a1 x a3 :=
  ⟨(World.cell?_setCell_other _ _ _ _ (by simp)).trans h.c0, (World.cell?_setCell_other _ _ _ _ (by simp)).trans h.c1, World.cell?_setCell_same _ _ _ h.c2, (World.cell?_setCell_other _ _ _ _ (by simp)).trans h.c3, (World.frozen?_setCell _ _ _ _).trans h.f0, (World.frozen?_setCell _ _ _ _).trans h.f1, (World.frozen?_setCell _ _ _ _).trans h.f2, (World.frozen?_setCell _ _ _ _).trans h.f3⟩
theorem Row4.set3 {w : World} {b : Nat} {a0 a1 a2 a3 : Int} (h : Row4 w b a0 a1 a2 a3) (x : Int) : Row4 (w.setCell ⟨b, 3, none⟩ (.int .i64 x)) b a0 a1 a2 x :=
  ⟨(World.cell?_setCell_other _ _ _ _ (by simp)).trans h.c0, (World.cell?_setCell_other _ _ _ _ (by simp)).trans h.c1, (World.cell?_setCell_other _ _ _ _ (by simp)).trans h.c2, World.cell?_setCell_same _ _ _ h.c3, (World.frozen?_setCell _ _ _ _).trans h.f0, (World.frozen?_setCell _ _ _ _).trans h.f1, (World.frozen?_setCell _ _ _ _).trans h.f2, (World.frozen?_setCell _ _ _ _).trans h.f3⟩
theorem Row4.boxed {w : World} {b : Nat} {a0 a1 a2 a3 : Int} (h : Row4 w b a0 a1 a2 a3) (o : Obj) : Row4 (w.alloc o) b a0 a1 a2 a3 := h.later (YtoanjdndmlffdaaGreatDoor.boxed (Below.refl _ _) o)
theorem Row4.drew {w : World} {b : Nat} {a0 a1 a2 a3 : Int} (h : Row4 w b a0 a1 a2 a3) : Row4 w.drew b a0 a1 a2 a3 := h.later (Below.refl _ _).drew
theorem Row4.newest {w : World} {T : TypeId} {n : Nat} {a0 a1 a2 a3 : Int} (hn : w.heap.size = n) : Row4 (w.alloc (.cells #[.int .i64 a0, .int .i64 a1, .int .i64 a2, .int .i64 a3] T)) n a0 a1 a2 a3 := by
  subst hn; exact Row4.new w T a0 a1 a2 a3
theorem Row4.set {w : World} {b : Nat} {a0 a1 a2 a3 x0 x1 x2 x3 : Int} (h : Row4 w b a0 a1 a2 a3) : Row4 ((((w.setCell ⟨b, 0, none⟩ (.int .i64 x0)).setCell ⟨b, 1, none⟩ (.int .i64 x1)).setCell ⟨b, 2, none⟩ (.int .i64 x2)).setCell ⟨b, 3, none⟩ (.int .i64 x3)) b x0 x1 x2 x3 :=
  (((h.set0 x0).set1 x1).set2 x2).set3 x3
theorem Row4.far4 {w : World} {b c : Nat} {a0 a1 a2 a3 x0 x1 x2 x3 : Int} (h : Row4 w b a0 a1 a2 a3) (hn : c ≠ b) : Row4 ((((w.setCell ⟨c, 0, none⟩ (.int .i64 x0)).setCell ⟨c, 1, none⟩ (.int .i64 x1)).setCell ⟨c, 2, none⟩ (.int .i64 x2)).setCell ⟨c, 3, none⟩ (.int .i64 x3)) b a0 a1 a2 a3 :=
  (((h.far ⟨c, 0, none⟩ (.int .i64 x0) hn).far ⟨c, 1, none⟩ (.int .i64 x1) hn).far ⟨c, 2, none⟩ (.int .i64 x2) hn).far ⟨c, 3, none⟩ (.int .i64 x3) hn
end
section
open Go.RowKit
def versL (l : List Ver) : List Value := l.flatMap verL
def verAt (l : List Ver) (i : Nat) : Ver := l.getD i ver0

theorem verL_length (v : Ver) : (verL v).length = 6 := rfl
theorem versL_append (a b : List Ver) : versL (a ++ b) = versL a ++ versL b := by simp [versL]
theorem versL_cons (x : Ver) (l : List Ver) : versL (x :: l) = verL x ++ versL l := by simp [versL]
theorem versL_one (x : Ver) : versL [x] = verL x := by simp [versL]
theorem versL_length (l : List Ver) : (versL l).length = l.length * 6 := by
  induction l with
  | nil => rfl
  | cons x l ih =>
    rw [versL_cons, List.length_append, ih, verL_length, List.length_cons]
    omega
theorem verAt_mem {l : List Ver} {i : Nat} (h : i < l.length) : verAt l i ∈ l := by
  simp only [verAt, List.getD, List.getElem?_eq_getElem h, Option.getD_some]
  exact List.getElem_mem h
theorem verAt_eq {l : List Ver} {i : Nat} (h : i < l.length) : verAt l i = l[i] := by simp [verAt, List.getD, List.getElem?_eq_getElem h]
theorem versL_at : ∀ (l : List Ver) (i r : Nat) (u : Value), i < l.length → (verL (verAt l i))[r]? = some u → (versL l)[i * 6 + r]? = some u
  | [], _, _, _, h, _ => by simp at h
  | x :: l, 0, r, u, _, hu => by
    have hr : r < (verL x).length := (List.getElem?_eq_some_iff.1 hu).1
    rw [versL_cons, Nat.zero_mul, Nat.zero_add, List.getElem?_append_left hr]
    exact hu
  | x :: l, i + 1, r, u, h, hu => by
    have ih := versL_at l i r u (by simpa using h) hu
    have e : (i + 1) * 6 + r = (verL x).length + (i * 6 + r) := by rw [verL_length]; omega
    rw [versL_cons, e, List.getElem?_append_right (by omega), Nat.add_sub_cancel_left]
    exact ih
theorem versL_one' (l : List Ver) : ∀ u ∈ versL l, u.oneCell' = true := by
  intro u hu
  unfold versL at hu
  obtain ⟨x, _, hx⟩ := List.mem_flatMap.1 hu
  simp [verL] at hx
  rcases hx with rfl | rfl | rfl | rfl | rfl | rfl <;> rfl
theorem versL_take : ∀ (l : List Ver) (i : Nat), (versL l).take (i * 6) = versL (l.take i)
  | [], i => by simp [versL]
  | x :: l, 0 => by simp [versL]
  | x :: l, i + 1 => by
    have e : (i + 1) * 6 = (verL x).length + i * 6 := by rw [verL_length]; omega
    rw [List.take_succ_cons, versL_cons, versL_cons, e, List.take_append]
    congr 1
    · exact List.take_of_length_le (by omega)
    · rw [Nat.add_sub_cancel_left, versL_take]
theorem versL_drop : ∀ (l : List Ver) (i : Nat), (versL l).drop (i * 6) = versL (l.drop i)
  | [], i => by simp [versL]
  | x :: l, 0 => by simp [versL]
  | x :: l, i + 1 => by
    have e : (i + 1) * 6 = (verL x).length + i * 6 := by rw [verL_length]; omega
    rw [List.drop_succ_cons, versL_cons, e, ← List.drop_drop, List.drop_left]
    exact versL_drop l i

/-- a slice that holds versions: none, or its cells lie in one block -/
structure VsIn (w : World) (a : Option Addr) (cap : Nat) (l : List Ver) : Prop where
  len : l.length ≤ cap
  cap : cap ≤ 9223372036854775807
  held : l = [] ∨ ∃ b, b < w.heap.size ∧ a = some ⟨b, 0, none⟩ ∧ ∀ i r u, i < l.length → (verL (verAt l i))[r]? = some u → w.cell? ⟨b, i * 6 + r, none⟩ = some u
theorem VsIn.later {w w' : World} {a : Option Addr} {cap : Nat} {l : List Ver} (hb : Below w.heap.size w w') (h : VsIn w a cap l) : VsIn w' a cap l :=
  ⟨h.len, h.cap, h.held.elim .inl fun ⟨b, lt, e, c⟩ => .inr ⟨b, Nat.lt_of_lt_of_le lt hb.size, e, fun i r u hi hu => cell_later hb (c i r u hi hu)⟩⟩
theorem vsIn_own {w : World} {B : Nat} {T : TypeId} {v : Value} {l : List Ver} (h : w.ownsRow B T 6 v l.length (versL l)) : ∃ a cap, v = .slice a l.length cap ∧ VsIn w a cap l := by
  rcases h.2 with ⟨rfl, h0⟩ | ⟨g, cap, cur, rfl, hb, hg, hnc, hm, hs, ht⟩
  · exact ⟨none, 0, by rw [h0], ⟨by omega, by omega, .inl (List.eq_nil_of_length_eq_zero h0)⟩⟩
  · refine ⟨_, cap, rfl, ⟨hnc, by simp only [maxLen] at hm; omega, .inr ⟨g, (Array.getElem?_eq_some_iff.1 hg).1, rfl, fun i r u hi hu => ?_⟩⟩⟩
    have hc := h.cells (g := g) rfl _ _ (versL_at l i r u hi hu)
    rw [addr_add] at hc
    exact hc
theorem own_below6 {w w' : World} {B : Nat} {T : TypeId} {v : Value} {n : Nat} {xs : List Value} (h : w.ownsRow B T 6 v n xs) (hb : Below w.heap.size w w') : w'.ownsRow B T 6 v n xs :=
  h.kept (row := none) ⟨hb.os, hb.tape, hb.output, hb.size, fun k hk _ => hb.block k hk⟩ (by cases v.ownBlock <;> simp)
end
/-- a string's bytes -/
abbrev toL (s : ByteArray) : List UInt8 := s.data.toList
theorem toL_append (a b : ByteArray) : toL (a ++ b) = toL a ++ toL b := by
  show (a ++ b).data.toList = _
  rw [ByteArray.data_append, Array.toList_append]
theorem toL_inj {a b : ByteArray} (h : toL a = toL b) : a = b := by
  obtain ⟨⟨x⟩⟩ := a
  obtain ⟨⟨y⟩⟩ := b
  have h' : x = y := h
  rw [h']
theorem toL_length (s : ByteArray) : (toL s).length = s.size := by
  show s.data.toList.length = s.data.size
  rw [Array.length_toList]

theorem byteList (s : ByteArray) : s.toList = toL s := by
  have loop : ∀ (n i : Nat) (r : List UInt8), s.size - i = n → ByteArray.toList.loop s i r = r.reverse ++ (toL s).drop i := by
    intro n
    induction n with
    | zero =>
      intro i r hn
      unfold ByteArray.toList.loop
      rw [if_neg (by omega), List.drop_eq_nil_of_le (by rw [toL_length]; omega), List.append_nil]
    | succ n ih =>
      intro i r hn
      unfold ByteArray.toList.loop
      rw [if_pos (by omega), ih _ _ (by omega)]
      have hi : i < (toL s).length := by rw [toL_length]; omega
      rw [List.drop_eq_getElem_cons hi, List.reverse_cons, List.append_assoc]
      congr 2
      have hi2 : i < s.data.size := by have := toL_length s; rw [Array.length_toList] at hi; exact hi
      show [s.data[i]!] ++ _ = s.data.toList[i] :: _
      rw [getElem!_pos s.data i hi2, Array.getElem_toList]
      rfl
  exact loop s.size 0 [] (by omega)
theorem strB (a b : ByteArray) : (a.toList == b.toList) = decide (a = b) := by
  rw [byteList, byteList]
  by_cases h : a = b
  · rw [h]; simp
  · rw [decide_eq_false h]
    exact beq_eq_false_iff_ne.2 (fun e => h (toL_inj e))
section
open Go.RowKit
theorem run_copy_k {P : Program} (w : World) (dT sT ty elem : TypeId) (k b o dLen dCap : Nat) (a : Addr) (sLen sCap m : Nat) (cs : List Value)
    (hu : P.underlying dT = some (.slice elem)) (hs : (P.info? elem).map (·.size) = some k) (hm : m = Nat.min sLen dLen) (hn : cs.length = m * k)
    (hsrc : ∀ j v, cs[j]? = some v → w.cell? (a.add j) = some v) (hc : ∀ j, j < cs.length → (w.cell? ⟨b, o + j, none⟩).isSome = true) (hf : ∀ j, j < cs.length → w.frozen? ⟨b, o + j, none⟩ = false) (h1 : ∀ v ∈ cs, v.oneCell' = true) :
    (Builtin.copy_ #[dT, sT] ty #[.slice (some ⟨b, o, none⟩) dLen dCap, .slice (some a) sLen sCap]).run P w = .ok (goInt m) (w.setCells b o cs) := by
  have hl := run_loadCells_list (P := P) w a cs hsrc
  have hst := run_storeCells_cells (P := P) b o cs 0 w (by simpa using hc) (by simpa using hf) h1
  rw [hn] at hl
  cases hq : P.info? elem with
  | none => simp [hq] at hs
  | some i =>
    have hi : i.size = k := by simpa [hq] using hs
    simp [Builtin.copy_, run_underlying hu, Builtin.lenOf, Builtin.firstCells, sizeOf, typeInfo, hq, hi, ← hm, hl, hst]

theorem wp_copy_run {P : Program} (w : World) {o : Oper} {a : Act} {K : Act → World → Prop} {Q : Exit → Act → World → Prop} (d s : Operand) (t t' : TypeId)
    (ho : o.op = .call { callee := .builtin .copy, args := #[d, s], argTypes := #[t, t'] }) (v u : Value) (hd : a.eval d = v) (hs : a.eval s = u) {v' : Value} {w' : World}
    (hr : (Builtin.copy_ #[t, t'] o.type #[v, u]).run P w = .ok v' w') (h : K (a.put o.dst v') w') : o.wp P a w K Q := by
  unfold Oper.wp execOp
  simp only [ho, resolve, invoke, builtin, Sem.run_bind, Sem.run_pure, Result.andThen_ok, List.map_toArray, List.map_cons, List.map_nil, hd, hs, hr]
  exact h
theorem wpList_copy_run {P : Program} (w : World) {ops : Array Oper} {rest : List Oper} {o : Oper} {a : Act} {Q : Exit → Act → World → Prop} (hgd : o.guard = none) (d s : Operand) (t t' : TypeId)
    (ho : o.op = .call { callee := .builtin .copy, args := #[d, s], argTypes := #[t, t'] }) (v u : Value) (hd : a.eval d = v) (hs : a.eval s = u) {v' : Value} {w' : World}
    (hr : (Builtin.copy_ #[t, t'] o.type #[v, u]).run P w = .ok v' w') (h : wpList P ops Q rest (a.put o.dst v') w') : wpList P ops Q (o :: rest) a w :=
  wpList_plain hgd fun _ hK => wp_copy_run w d s t t' ho v u hd hs hr (hK _ _ h)
theorem step_copy_run {P : Program} {ops : Array Oper} {o : Oper} {a : Act} {w : World} {K : Act → World → Prop} {Q : Exit → Act → World → Prop} {E : Prop}
    (hg : o.guard = none) (d x : Operand) (dT sT : TypeId) (hop : o.op = Op.call { callee := Callee.builtin Builtin.copy, args := #[d, x], argTypes := #[dT, sT] })
    (v u : Value) (hd : a.eval d = v) (hx : a.eval x = u) {v' : Value} {w' : World} (hr : (Builtin.copy_ #[dT, sT] o.type #[v, u]).run P w = .ok v' w') (hK : K (a.put o.dst v') w') :
    if Region.wanted o (yielded ops a.tmps) = true then Oper.wp P o a w K Q else E := by
  have hw : Region.wanted o (yielded ops a.tmps) = true := by simp [Region.wanted, hg]
  rw [if_pos hw]
  exact wp_copy_run w d x dT sT hop v u hd hx hr hK

theorem heap_setCells (g : Nat) : ∀ (vs : List Value) (o : Nat) (w : World) {cur : Array Value} {T : TypeId}, w.heap[g]? = some (.cells cur T (0, 0)) → ∃ cur', (w.setCells g o vs).heap[g]? = some (.cells cur' T (0, 0)) ∧ cur'.size = cur.size
  | [], _, _, cur, _, h => ⟨cur, h, rfl⟩
  | v :: vs, o, w, cur, T, h => by
    obtain ⟨c, h1, h2⟩ := heap_setCells g vs (o + 1) (w.setCell ⟨g, o, none⟩ v) (heap_setCell_same w g o cur T v h)
    exact ⟨c, h1, by simpa using h2⟩

theorem own_of_cells {w : World} {B g n cap k : Nat} {T : TypeId} {cur : Array Value} {xs : List Value} (hB : B ≤ g) (hg : w.heap[g]? = some (.cells cur T (0, 0))) (hcap : cap ≤ maxLen) (hs : cur.size = cap * k) (hn : n ≤ cap) (hx : xs.length = n * k)
    (hc : ∀ j u, xs[j]? = some u → w.cell? ⟨g, j, none⟩ = some u) : w.ownsRow B T k (.slice (some ⟨g, 0, none⟩) n cap) n xs := by
  refine ⟨hx, .inr ⟨g, cap, cur, rfl, hB, hg, hn, hcap, hs, ?_⟩⟩
  have hle : n * k ≤ cur.size := by rw [hs]; exact Nat.mul_le_mul_right _ hn
  apply List.ext_getElem
  · rw [List.length_take, Array.length_toList, hx]
    omega
  · intro i h1 h2
    have := hc i xs[i] (List.getElem?_eq_getElem h2)
    rw [cell_of_row w g i cur T (0, 0) hg] at this
    rw [List.getElem_take, Array.getElem_toList]
    rw [Array.getElem?_eq_getElem (by omega)] at this
    injection this

theorem isSome_set (g : Nat) (vs : List Value) (o : Nat) (w : World) (h : ∀ j, j < vs.length → (w.cell? ⟨g, o + j, none⟩).isSome = true) (k : Nat) (hk : (w.cell? ⟨g, k, none⟩).isSome = true) : ((w.setCells g o vs).cell? ⟨g, k, none⟩).isSome = true := by
  by_cases hin : o ≤ k ∧ k < o + vs.length
  · have := World.cell?_setCells_in g vs o w h (k - o) (by omega)
    rw [show o + (k - o) = k by omega] at this
    rw [this]; rfl
  · rw [World.cell?_setCells_out g vs o w ⟨g, k, none⟩ (fun _ _ => by show k < o ∨ o + vs.length ≤ k; omega)]
    exact hk
theorem set_in {g : Nat} {vs : List Value} {o : Nat} {w : World} (h : ∀ j, j < vs.length → (w.cell? ⟨g, o + j, none⟩).isSome = true) {j : Nat} {u : Value} (hu : vs[j]? = some u) : (w.setCells g o vs).cell? ⟨g, o + j, none⟩ = some u := by
  obtain ⟨hj, e⟩ := List.getElem?_eq_some_iff.1 hu
  rw [World.cell?_setCells_in g vs o w h j hj, e]
theorem cells_shift {w : World} {g : Nat} (A V D : List Value) (hA : ∀ j u, A[j]? = some u → w.cell? ⟨g, j, none⟩ = some u) (hex : ∀ j, j < A.length + V.length + D.length → (w.cell? ⟨g, j, none⟩).isSome = true) :
    ∀ j u, (A ++ V ++ D)[j]? = some u → ((w.setCells g (A.length + V.length) D).setCells g A.length V).cell? ⟨g, j, none⟩ = some u := by
  intro j u hu
  have hD : ∀ t, t < D.length → (w.cell? ⟨g, A.length + V.length + t, none⟩).isSome = true := fun t ht => hex _ (by omega)
  have hV : ∀ t, t < V.length → ((w.setCells g (A.length + V.length) D).cell? ⟨g, A.length + t, none⟩).isSome = true := fun t ht => isSome_set g D _ w hD _ (hex _ (by omega))
  rcases Nat.lt_or_ge j (A.length + V.length) with h1 | h1
  · rw [List.getElem?_append_left (by simpa using h1)] at hu
    rcases Nat.lt_or_ge j A.length with h2 | h2
    · rw [List.getElem?_append_left h2] at hu
      rw [World.cell?_setCells_out g V _ _ _ (fun _ _ => .inl h2), World.cell?_setCells_out g D _ _ _ (fun _ _ => .inl (by show j < _; omega))]
      exact hA j u hu
    · rw [List.getElem?_append_right h2] at hu
      have := set_in hV hu
      rwa [show A.length + (j - A.length) = j by omega] at this
  · rw [List.getElem?_append_right (by simpa using h1), List.length_append] at hu
    rw [World.cell?_setCells_out g V _ _ _ (fun _ _ => .inr h1)]
    have := set_in hD hu
    rwa [show A.length + V.length + (j - (A.length + V.length)) = j by omega] at this
theorem cells_shift2 {w : World} {g : Nat} (A V D : List Value) (hA : ∀ j u, A[j]? = some u → w.cell? ⟨g, j, none⟩ = some u) (hex : ∀ j, j < A.length + V.length + D.length → (w.cell? ⟨g, j, none⟩).isSome = true) :
    ∀ j u, (A ++ V ++ D)[j]? = some u → ((w.setCells g A.length V).setCells g (A.length + V.length) D).cell? ⟨g, j, none⟩ = some u := by
  intro j u hu
  have hV : ∀ t, t < V.length → (w.cell? ⟨g, A.length + t, none⟩).isSome = true := fun t ht => hex _ (by omega)
  have hD : ∀ t, t < D.length → ((w.setCells g A.length V).cell? ⟨g, A.length + V.length + t, none⟩).isSome = true := fun t ht => isSome_set g V _ w hV _ (hex _ (by omega))
  rcases Nat.lt_or_ge j (A.length + V.length) with h1 | h1
  · rw [List.getElem?_append_left (by simpa using h1)] at hu
    rw [World.cell?_setCells_out g D _ _ _ (fun _ _ => .inl h1)]
    rcases Nat.lt_or_ge j A.length with h2 | h2
    · rw [List.getElem?_append_left h2] at hu
      rw [World.cell?_setCells_out g V _ _ _ (fun _ _ => .inl h2)]
      exact hA j u hu
    · rw [List.getElem?_append_right h2] at hu
      have := set_in hV hu
      rwa [show A.length + (j - A.length) = j by omega] at this
  · rw [List.getElem?_append_right (by simpa using h1), List.length_append] at hu
    have := set_in hD hu
    rwa [show A.length + V.length + (j - (A.length + V.length)) = j by omega] at this
end
section
open Go.RowKit
set_option maxHeartbeats 1000000 in
theorem covers_any (a0 a1 a2 a3 b0 b1 b2 b3 : Int) (w : World) :
    Calls Tryz.prog 205 #[.agg #[.int .i64 a0, .int .i64 a1, .int .i64 a2, .int .i64 a3], .agg #[.int .i64 b0, .int .i64 b1, .int .i64 b2, .int .i64 b3]] w fun e w' => e = .returned (.bool (covB a0 a1 a2 a3 b0 b1 b2 b3)) ∧ Below w.heap.size w w' := by
  by_cases h0 : a0 < b0
  · have e : covB a0 a1 a2 a3 b0 b1 b2 b3 = false := by simp [covB]; omega
    rw [e]
    clear e
    go_enter Tryz.func205, Tryz.ntmps205
    go_wp2
    refine wp_loop_rounds 5 ?_
    rw [rounds_succ]
    go_wp2
    go_quiet (fail)
    go_wp2
    go_ret
    exact ⟨rfl, by repeat (first | exact Below.refl _ _ | apply below_drawn | apply boxed)⟩
  by_cases h1 : a1 < b1
  · have e : covB a0 a1 a2 a3 b0 b1 b2 b3 = false := by simp [covB]; omega
    rw [e]
    clear e
    go_enter Tryz.func205, Tryz.ntmps205
    go_wp2
    refine wp_loop_rounds 5 ?_
    rw [rounds_succ]
    go_wp2
    go_quiet (fail)
    go_wp2
    rw [rounds_succ]
    go_wp2
    go_quiet (fail)
    go_wp2
    go_ret
    exact ⟨rfl, by repeat (first | exact Below.refl _ _ | apply below_drawn | apply boxed)⟩
  by_cases h2 : a2 < b2
  · have e : covB a0 a1 a2 a3 b0 b1 b2 b3 = false := by simp [covB]; omega
    rw [e]
    clear e
    go_enter Tryz.func205, Tryz.ntmps205
    go_wp2
    refine wp_loop_rounds 5 ?_
    rw [rounds_succ]
    go_wp2
    go_quiet (fail)
    go_wp2
    rw [rounds_succ]
    go_wp2
    go_quiet (fail)
    go_wp2
    rw [rounds_succ]
    go_wp2
    go_quiet (fail)
    go_wp2
    go_ret
    exact ⟨rfl, by repeat (first | exact Below.refl _ _ | apply below_drawn | apply boxed)⟩
  by_cases h3 : a3 < b3
  · have e : covB a0 a1 a2 a3 b0 b1 b2 b3 = false := by simp [covB]; omega
    rw [e]
    clear e
    go_enter Tryz.func205, Tryz.ntmps205
    go_wp2
    refine wp_loop_rounds 5 ?_
    rw [rounds_succ]
    go_wp2
    go_quiet (fail)
    go_wp2
    rw [rounds_succ]
    go_wp2
    go_quiet (fail)
    go_wp2
    rw [rounds_succ]
    go_wp2
    go_quiet (fail)
    go_wp2
    rw [rounds_succ]
    go_wp2
    go_quiet (fail)
    go_wp2
    go_ret
    exact ⟨rfl, by repeat (first | exact Below.refl _ _ | apply below_drawn | apply boxed)⟩
  have e : covB a0 a1 a2 a3 b0 b1 b2 b3 = true := by simp [covB]; omega
  rw [e]
  clear e
  go_enter Tryz.func205, Tryz.ntmps205
  go_wp2
  refine wp_loop_rounds 5 ?_
  rw [rounds_succ]
  go_wp2
  go_quiet (fail)
  go_wp2
  rw [rounds_succ]
  go_wp2
  go_quiet (fail)
  go_wp2
  rw [rounds_succ]
  go_wp2
  go_quiet (fail)
  go_wp2
  rw [rounds_succ]
  go_wp2
  go_quiet (fail)
  go_wp2
  rw [rounds_succ]
  go_wp2
  go_ret
  exact ⟨rfl, by repeat (first | exact Below.refl _ _ | apply below_drawn | apply boxed)⟩

theorem covers_is {a0 a1 a2 a3 b0 b1 b2 b3 : Int} {v : Bool} (h : covB a0 a1 a2 a3 b0 b1 b2 b3 = v) (w : World) :
    Calls Tryz.prog 205 #[.agg #[.int .i64 a0, .int .i64 a1, .int .i64 a2, .int .i64 a3], .agg #[.int .i64 b0, .int .i64 b1, .int .i64 b2, .int .i64 b3]] w fun e w' => e = .returned (.bool v) ∧ Below w.heap.size w w' := by
  subst h
  exact covers_any _ _ _ _ _ _ _ _ w
end
section
open Go.RowKit
set_option maxHeartbeats 400000 in
theorem max1_any (x y : Int) (w : World) :
    Calls Tryz.prog 268 #[.int .i64 x, .int .i64 y] w fun e w' => e = .returned (.int .i64 (maxZ x y)) ∧ w' = w := by
  by_cases h : x < y
  · rw [maxZ_pos h]
    go_enter Tryz.func268, Tryz.ntmps268
    go_wp2
    go_ret
    exact ⟨rfl, rfl⟩
  · rw [maxZ_neg h]
    go_enter Tryz.func268, Tryz.ntmps268
    go_wp2
    go_ret
    exact ⟨rfl, rfl⟩

set_option maxHeartbeats 1000000 in
theorem join_max (a0 a1 a2 a3 b0 b1 b2 b3 : Int) (w : World) :
    Calls Tryz.prog 219 #[.agg #[.int .i64 a0, .int .i64 a1, .int .i64 a2, .int .i64 a3], .agg #[.int .i64 b0, .int .i64 b1, .int .i64 b2, .int .i64 b3], .func (.func 268) #[] #[]] w fun e w' => e = .returned (.agg #[.int .i64 (maxZ a0 b0), .int .i64 (maxZ a1 b1), .int .i64 (maxZ a2 b2), .int .i64 (maxZ a3 b3)]) ∧ Below w.heap.size w w' := by
  go_enter Tryz.func219, Tryz.ntmps219
  go_wp2
  refine wp_loop_rounds 5 ?_
  rw [rounds_succ]
  go_wp2
  go_region_held3 (fun w' => w'.cell? ⟨w.heap.size, 0, none⟩ = some (.int .i64 a0) ∧ w'.cell? ⟨w.heap.size, 1, none⟩ = some (.int .i64 a1) ∧ w'.cell? ⟨w.heap.size, 2, none⟩ = some (.int .i64 a2) ∧ w'.cell? ⟨w.heap.size, 3, none⟩ = some (.int .i64 a3) ∧ w'.cell? ⟨w.heap.size + 1, 0, none⟩ = some (.int .i64 b0) ∧ w'.cell? ⟨w.heap.size + 1, 1, none⟩ = some (.int .i64 b1) ∧ w'.cell? ⟨w.heap.size + 1, 2, none⟩ = some (.int .i64 b2) ∧ w'.cell? ⟨w.heap.size + 1, 3, none⟩ = some (.int .i64 b3)) (go_keep) ((go_at_call 268; refine (max1_any _ _ _).mono ?_; rintro e wc ⟨rfl, rfl⟩))
  go_wp2
  rw [rounds_succ]
  go_wp2
  go_region_held3 (fun w' => w'.cell? ⟨w.heap.size, 0, none⟩ = some (.int .i64 a0) ∧ w'.cell? ⟨w.heap.size, 1, none⟩ = some (.int .i64 a1) ∧ w'.cell? ⟨w.heap.size, 2, none⟩ = some (.int .i64 a2) ∧ w'.cell? ⟨w.heap.size, 3, none⟩ = some (.int .i64 a3) ∧ w'.cell? ⟨w.heap.size + 1, 0, none⟩ = some (.int .i64 b0) ∧ w'.cell? ⟨w.heap.size + 1, 1, none⟩ = some (.int .i64 b1) ∧ w'.cell? ⟨w.heap.size + 1, 2, none⟩ = some (.int .i64 b2) ∧ w'.cell? ⟨w.heap.size + 1, 3, none⟩ = some (.int .i64 b3)) (go_keep) ((go_at_call 268; refine (max1_any _ _ _).mono ?_; rintro e wc ⟨rfl, rfl⟩))
  go_wp2
  rw [rounds_succ]
  go_wp2
  go_region_held3 (fun w' => w'.cell? ⟨w.heap.size, 0, none⟩ = some (.int .i64 a0) ∧ w'.cell? ⟨w.heap.size, 1, none⟩ = some (.int .i64 a1) ∧ w'.cell? ⟨w.heap.size, 2, none⟩ = some (.int .i64 a2) ∧ w'.cell? ⟨w.heap.size, 3, none⟩ = some (.int .i64 a3) ∧ w'.cell? ⟨w.heap.size + 1, 0, none⟩ = some (.int .i64 b0) ∧ w'.cell? ⟨w.heap.size + 1, 1, none⟩ = some (.int .i64 b1) ∧ w'.cell? ⟨w.heap.size + 1, 2, none⟩ = some (.int .i64 b2) ∧ w'.cell? ⟨w.heap.size + 1, 3, none⟩ = some (.int .i64 b3)) (go_keep) ((go_at_call 268; refine (max1_any _ _ _).mono ?_; rintro e wc ⟨rfl, rfl⟩))
  go_wp2
  rw [rounds_succ]
  go_wp2
  go_region_held3 (fun w' => w'.cell? ⟨w.heap.size, 0, none⟩ = some (.int .i64 a0) ∧ w'.cell? ⟨w.heap.size, 1, none⟩ = some (.int .i64 a1) ∧ w'.cell? ⟨w.heap.size, 2, none⟩ = some (.int .i64 a2) ∧ w'.cell? ⟨w.heap.size, 3, none⟩ = some (.int .i64 a3) ∧ w'.cell? ⟨w.heap.size + 1, 0, none⟩ = some (.int .i64 b0) ∧ w'.cell? ⟨w.heap.size + 1, 1, none⟩ = some (.int .i64 b1) ∧ w'.cell? ⟨w.heap.size + 1, 2, none⟩ = some (.int .i64 b2) ∧ w'.cell? ⟨w.heap.size + 1, 3, none⟩ = some (.int .i64 b3)) (go_keep) ((go_at_call 268; refine (max1_any _ _ _).mono ?_; rintro e wc ⟨rfl, rfl⟩))
  go_wp2
  rw [rounds_succ]
  go_wp2
  exact bodyPost_ret (v := .agg #[.int .i64 (maxZ a0 b0), .int .i64 (maxZ a1 b1), .int .i64 (maxZ a2 b2), .int .i64 (maxZ a3 b3)]) (by simp [results, Tryz.results219, go_sem]) rfl ⟨rfl, by repeat (first | exact Below.refl _ _ | apply Below.drew | apply boxed)⟩

set_option maxHeartbeats 400000 in
theorem max_any (a0 a1 a2 a3 b0 b1 b2 b3 : Int) (w : World) :
    Calls Tryz.prog 240 #[.agg #[.int .i64 a0, .int .i64 a1, .int .i64 a2, .int .i64 a3], .agg #[.int .i64 b0, .int .i64 b1, .int .i64 b2, .int .i64 b3]] w fun e w' => e = .returned (.agg #[.int .i64 (maxZ a0 b0), .int .i64 (maxZ a1 b1), .int .i64 (maxZ a2 b2), .int .i64 (maxZ a3 b3)]) ∧ Below w.heap.size w w' := by
  go_enter Tryz.func240, Tryz.ntmps240
  go_wp2_with fail
  refine (join_max _ _ _ _ _ _ _ _ _).mono ?_
  rintro e w1 ⟨rfl, hb⟩
  obtain ⟨hc, hf⟩ := bcell hb
  have hz : w.heap.size + 2 < w1.heap.size := by have := hb.size; simp at this; omega
  go_wp2
  exact bodyPost_ret (v := .agg #[.int .i64 (maxZ a0 b0), .int .i64 (maxZ a1 b1), .int .i64 (maxZ a2 b2), .int .i64 (maxZ a3 b3)]) (by simp [results, Tryz.results240, go_sem, hc]) rfl ⟨rfl, ((((below3 hb).setCell (by simp; omega) _).setCell (by simp; omega) _).setCell (by simp; omega) _).setCell (by simp; omega) _⟩
end
/-- an ask's bytes -/
def askS (site a0 a1 a2 a3 : Int) : ByteArray := (⟨#[97]⟩ : ByteArray) ++ numS 5 site ++ numS 5 a0 ++ numS 5 a1 ++ numS 5 a2 ++ numS 5 a3
/-- a number's bytes -/
abbrev numBy (f : Nat) (n : Int) : List UInt8 := toL (numS f n)
theorem numL_lt {f : Nat} {n : Int} (h : n < 128) : numBy f n = [UInt8.ofNat n.toNat] := by
  show toL (numS f n) = _
  rw [numS_lt h]
  rfl
theorem numL_ge {f : Nat} {n : Int} (h : ¬ n < 128) : numBy (f + 1) n = UInt8.ofNat (n % 128 + 128).toNat :: numBy f (n / 128) := by
  show toL (numS (f + 1) n) = _
  rw [numS_ge h, toL_append]
  rfl

/-- the number that bytes begin with, in no more bytes than it needs, and what is behind it -/
def rdNum : Nat → List UInt8 → Option (Int × List UInt8)
  | _, [] => none
  | 0, c :: r => if c.toNat < 128 then some (c.toNat, r) else none
  | f + 1, c :: r => if c.toNat < 128 then some (c.toNat, r) else
    match rdNum f r with
    | none => none
    | some (n, r') => if n = 0 then none else some ((c.toNat : Int) - 128 + 128 * n, r')
theorem byteN {n : Int} (h0 : 0 ≤ n) (h1 : n < 256) : ((UInt8.ofNat n.toNat).toNat : Int) = n := by
  rw [UInt8.toNat_ofNat', Nat.mod_eq_of_lt (by omega), Int.toNat_of_nonneg h0]

theorem rd_num : ∀ (f : Nat) (n : Int) (r : List UInt8), 0 ≤ n → n < 128 ^ (f + 1) → rdNum f (numBy f n ++ r) = some (n, r)
  | 0, n, r, h0, h1 => by
    have h1' : n < 128 := by simpa using h1
    have e := byteN h0 (by omega)
    rw [numL_lt h1', List.singleton_append]
    unfold rdNum
    rw [if_pos (by omega), e]
  | f + 1, n, r, h0, h1 => by
    by_cases h : n < 128
    · have e := byteN h0 (by omega)
      rw [numL_lt h, List.singleton_append]
      unfold rdNum
      rw [if_pos (by omega), e]
    · have hp : (128 : Int) ^ (f + 1 + 1) = 128 ^ (f + 1) * 128 := Int.pow_succ 128 (f + 1)
      rw [hp] at h1
      have e := byteN (n := n % 128 + 128) (by omega) (by omega)
      rw [numL_ge h, List.cons_append]
      unfold rdNum
      rw [if_neg (by omega), rd_num f (n / 128) r (by omega) (by omega)]
      simp only
      rw [if_neg (by omega), e]
      congr 2
      omega

theorem rd_sound : ∀ (f : Nat) (L : List UInt8) (n : Int) (r : List UInt8), rdNum f L = some (n, r) → (0 ≤ n ∧ n < 128 ^ (f + 1)) ∧ L = numBy f n ++ r
  | 0, [], n, r, h => by simp [rdNum] at h
  | f + 1, [], n, r, h => by simp [rdNum] at h
  | 0, c :: l, n, r, h => by
    unfold rdNum at h
    split at h
    · injection h with h
      injection h with h1 h2
      subst h1 h2
      refine ⟨⟨by omega, by simp; omega⟩, ?_⟩
      rw [numL_lt (by omega)]
      simp
    · cases h
  | f + 1, c :: l, n, r, h => by
    have hp : (128 : Int) ^ (f + 1 + 1) = 128 ^ (f + 1) * 128 := Int.pow_succ 128 (f + 1)
    have hpos : (1 : Int) ≤ 128 ^ (f + 1) := Int.pow_pos (by decide)
    unfold rdNum at h
    split at h
    · injection h with h
      injection h with h1 h2
      subst h1 h2
      refine ⟨⟨by omega, by rw [hp]; omega⟩, ?_⟩
      rw [numL_lt (by omega)]
      simp
    · cases e : rdNum f l with
      | none => rw [e] at h; cases h
      | some y =>
        obtain ⟨m, r'⟩ := y
        rw [e] at h
        simp only at h
        split at h
        · cases h
        · injection h with h
          injection h with h1 h2
          subst h2
          obtain ⟨⟨m0, m1⟩, hl⟩ := rd_sound f l m r' e
          have hc := c.toNat_lt
          have q : n / 128 = m := by omega
          have q2 : n % 128 + 128 = c.toNat := by omega
          refine ⟨⟨by omega, by rw [hp]; omega⟩, ?_⟩
          rw [numL_ge (by omega), q, q2, hl]
          simp

theorem pow6 : (128 : Int) ^ (5 + 1) = 4398046511104 := by decide

theorem numBy_inj {n m : Int} {a b : List UInt8} (h : numBy 5 n ++ a = numBy 5 m ++ b) (hn : 0 ≤ n ∧ n ≤ 1099511627776) (hm : 0 ≤ m ∧ m ≤ 1099511627776) : n = m ∧ a = b := by
  have e1 := rd_num 5 n a hn.1 (by rw [pow6]; omega)
  have e2 := rd_num 5 m b hm.1 (by rw [pow6]; omega)
  rw [h, e2] at e1
  injection e1 with e1
  injection e1 with e3 e4
  exact ⟨e3.symm, e4.symm⟩

/-- a write's bytes -/
def wrL (x : Wr) : List UInt8 := numBy 5 x.key ++ (numBy 5 (if x.gone then 1 else 0) ++ (numBy 5 (x.data.size : Int) ++ toL x.data))
def wrsL (l : List Wr) : List UInt8 := l.flatMap wrL

theorem flag_toL (g : Bool) : toL (flagS g) = numBy 5 (if g then 1 else 0) := by cases g <;> rfl
theorem stepS_toL (s : ByteArray) (x : Wr) : toL (stepS s x) = toL s ++ wrL x := by
  simp only [stepS, wrL, toL_append, flag_toL, List.append_assoc]
theorem wrS_toL (s : ByteArray) (l : List Wr) : toL (wrS s l) = toL s ++ wrsL l := by
  induction l generalizing s with
  | nil => simp [wrS, wrsL]
  | cons x l ih =>
    have e := ih (stepS s x)
    rw [stepS_toL] at e
    show toL (wrS (stepS s x) l) = _
    rw [e]
    simp [wrsL]

/-- the nine numbers ahead of the writes -/
def headL (site seq wall count d0 d1 d2 d3 n : Int) (r : List UInt8) : List UInt8 := 116 :: (numBy 5 site ++ (numBy 5 seq ++ (numBy 5 wall ++ (numBy 5 count ++ (numBy 5 d0 ++ (numBy 5 d1 ++ (numBy 5 d2 ++ (numBy 5 d3 ++ (numBy 5 n ++ r)))))))))
theorem txS_toL (site seq wall count d0 d1 d2 d3 : Int) (l : List Wr) : toL (txS site seq wall count d0 d1 d2 d3 l) = headL site seq wall count d0 d1 d2 d3 l.length (wrsL l) := by
  unfold txS
  rw [wrS_toL]
  have z : toL (⟨#[116]⟩ : ByteArray) = [116] := rfl
  simp only [headS, headL, toL_append, List.append_assoc, z, List.cons_append, List.nil_append]
/-- the five of an ask -/
def askL (site a0 a1 a2 a3 : Int) (r : List UInt8) : List UInt8 := 97 :: (numBy 5 site ++ (numBy 5 a0 ++ (numBy 5 a1 ++ (numBy 5 a2 ++ (numBy 5 a3 ++ r)))))
theorem askS_toL (site a0 a1 a2 a3 : Int) : toL (askS site a0 a1 a2 a3) = askL site a0 a1 a2 a3 [] := by
  have z : toL (⟨#[97]⟩ : ByteArray) = [97] := rfl
  simp only [askS, askL, toL_append, List.append_assoc, z, List.cons_append, List.nil_append, List.append_nil]

/-- a transaction -/
structure TxV where
  site : Int
  seq : Int
  wall : Int
  count : Int
  d0 : Int
  d1 : Int
  d2 : Int
  d3 : Int
  l : List Wr
def TxV.ok (x : TxV) : Bool := okTx x.site x.seq x.wall x.count x.d0 x.d1 x.d2 x.d3 x.l
def TxV.bytes (x : TxV) : ByteArray := txS x.site x.seq x.wall x.count x.d0 x.d1 x.d2 x.d3 x.l
/-- L are the bytes of x, which may be -/
def Good (L : List UInt8) (x : TxV) : Prop := x.ok = true ∧ toL x.bytes = L

theorem wr_inj {x y : Wr} {a b : List UInt8} (h : wrL x ++ a = wrL y ++ b) (hx : 0 ≤ x.key ∧ x.key ≤ 7 ∧ x.data.size ≤ 12) (hy : 0 ≤ y.key ∧ y.key ≤ 7 ∧ y.data.size ≤ 12) : x = y ∧ a = b := by
  simp only [wrL, List.append_assoc] at h
  obtain ⟨h1, h⟩ := numBy_inj h ⟨hx.1, by omega⟩ ⟨hy.1, by omega⟩
  obtain ⟨h2, h⟩ := numBy_inj h (by cases x.gone <;> decide) (by cases y.gone <;> decide)
  obtain ⟨h3, h⟩ := numBy_inj h ⟨by omega, by omega⟩ ⟨by omega, by omega⟩
  obtain ⟨h4, h5⟩ := List.append_inj h (by rw [toL_length, toL_length]; omega)
  refine ⟨?_, h5⟩
  obtain ⟨k, d, g⟩ := x
  obtain ⟨k', d', g'⟩ := y
  simp only at h1 h2 h4
  have hg : g = g' := by
    cases g <;> cases g'
    · rfl
    · simp at h2
    · simp at h2
    · rfl
  rw [h1, toL_inj h4, hg]

theorem wrs_inj : ∀ (l m : List Wr) (a b : List UInt8), l.length = m.length → wrsL l ++ a = wrsL m ++ b → (∀ x ∈ l, 0 ≤ x.key ∧ x.key ≤ 7 ∧ x.data.size ≤ 12) → (∀ x ∈ m, 0 ≤ x.key ∧ x.key ≤ 7 ∧ x.data.size ≤ 12) → l = m ∧ a = b
  | [], [], a, b, _, h, _, _ => ⟨rfl, h⟩
  | [], _ :: _, _, _, hl, _, _, _ => by simp at hl
  | _ :: _, [], _, _, hl, _, _, _ => by simp at hl
  | x :: l, y :: m, a, b, hl, h, hx, hy => by
    have e1 : wrsL (x :: l) ++ a = wrL x ++ (wrsL l ++ a) := by simp [wrsL]
    have e2 : wrsL (y :: m) ++ b = wrL y ++ (wrsL m ++ b) := by simp [wrsL]
    rw [e1, e2] at h
    obtain ⟨h1, h2⟩ := wr_inj h (hx x (by simp)) (hy y (by simp))
    obtain ⟨h3, h4⟩ := wrs_inj l m a b (by simpa using hl) h2 (fun z hz => hx z (by simp [hz])) (fun z hz => hy z (by simp [hz]))
    exact ⟨by rw [h1, h3], h4⟩

theorem okWs_mem {l : List Wr} (h : okWs l = true) : ∀ x ∈ l, 0 ≤ x.key ∧ x.key ≤ 7 ∧ x.data.size ≤ 12 := fun x hx => by
  obtain ⟨i, hi, rfl⟩ := List.mem_iff_getElem.1 hx
  have e : wrAt l i = l[i] := by simp [wrAt, List.getD, List.getElem?_eq_getElem hi]
  have h1 := okAt_key (okWs_each h i hi)
  have h2 := okAt_size (okWs_each h i hi)
  rw [e] at h1 h2
  exact ⟨h1.1, h1.2, h2⟩

theorem ok_parts {x : TxV} (h : x.ok = true) : (0 ≤ x.site ∧ x.site ≤ 3) ∧ (1 ≤ x.seq ∧ x.seq ≤ 1099511627776) ∧ (0 ≤ x.wall ∧ x.wall ≤ 1099511627776) ∧ (0 ≤ x.count ∧ x.count ≤ 1099511627776) ∧ (0 ≤ x.d0 ∧ x.d0 ≤ 1099511627776) ∧ (0 ≤ x.d1 ∧ x.d1 ≤ 1099511627776) ∧ (0 ≤ x.d2 ∧ x.d2 ≤ 1099511627776) ∧ (0 ≤ x.d3 ∧ x.d3 ≤ 1099511627776) ∧ okWs x.l = true := by
  simp only [TxV.ok, okTx, Bool.and_eq_true, inB_iff, timesB, timeB_iff] at h
  obtain ⟨⟨⟨⟨⟨ts, tq⟩, tw, tc⟩, ⟨⟨t0, t1⟩, t2⟩, t3⟩, _⟩, hok⟩ := h
  exact ⟨ts, tq, tw, tc, t0, t1, t2, t3, hok⟩

theorem tx_prefix {x y : TxV} {r : List UInt8} (hx : x.ok = true) (hy : y.ok = true) (h : toL x.bytes = toL y.bytes ++ r) : x = y ∧ r = [] := by
  obtain ⟨a1, a2, a3, a4, a5, a6, a7, a8, a9⟩ := ok_parts hx
  obtain ⟨b1, b2, b3, b4, b5, b6, b7, b8, b9⟩ := ok_parts hy
  have l1 := okWs_len a9
  have l2 := okWs_len b9
  rw [TxV.bytes, TxV.bytes, txS_toL, txS_toL] at h
  simp only [headL, List.cons_append, List.append_assoc, List.cons.injEq, true_and] at h
  obtain ⟨e1, h⟩ := numBy_inj h ⟨a1.1, by omega⟩ ⟨b1.1, by omega⟩
  obtain ⟨e2, h⟩ := numBy_inj h ⟨by omega, a2.2⟩ ⟨by omega, b2.2⟩
  obtain ⟨e3, h⟩ := numBy_inj h a3 b3
  obtain ⟨e4, h⟩ := numBy_inj h a4 b4
  obtain ⟨e5, h⟩ := numBy_inj h a5 b5
  obtain ⟨e6, h⟩ := numBy_inj h a6 b6
  obtain ⟨e7, h⟩ := numBy_inj h a7 b7
  obtain ⟨e8, h⟩ := numBy_inj h a8 b8
  obtain ⟨e9, h⟩ := numBy_inj h ⟨by omega, by omega⟩ ⟨by omega, by omega⟩
  obtain ⟨e10, h⟩ := wrs_inj x.l y.l [] r (by omega) (by simpa using h) (okWs_mem a9) (okWs_mem b9)
  refine ⟨?_, h.symm⟩
  obtain ⟨_, _, _, _, _, _, _, _, _⟩ := x
  obtain ⟨_, _, _, _, _, _, _, _, _⟩ := y
  simp only at e1 e2 e3 e4 e5 e6 e7 e8 e10
  subst e1 e2 e3 e4 e5 e6 e7 e8 e10
  rfl
theorem good_one {L : List UInt8} {x y : TxV} (hx : Good L x) (hy : Good L y) : x = y := (tx_prefix hx.1 hy.1 (r := []) (by rw [hx.2, hy.2, List.append_nil])).1

/-- an ask that may be, and its bytes -/
structure AskV where
  site : Int
  a0 : Int
  a1 : Int
  a2 : Int
  a3 : Int
def AskV.ok (x : AskV) : Bool := inB x.site 0 3 && timesB x.a0 x.a1 x.a2 x.a3
def AskV.bytes (x : AskV) : ByteArray := askS x.site x.a0 x.a1 x.a2 x.a3
def GoodAsk (L : List UInt8) (x : AskV) : Prop := x.ok = true ∧ toL x.bytes = L
theorem ask_parts {x : AskV} (h : x.ok = true) : (0 ≤ x.site ∧ x.site ≤ 3) ∧ (0 ≤ x.a0 ∧ x.a0 ≤ 1099511627776) ∧ (0 ≤ x.a1 ∧ x.a1 ≤ 1099511627776) ∧ (0 ≤ x.a2 ∧ x.a2 ≤ 1099511627776) ∧ (0 ≤ x.a3 ∧ x.a3 ≤ 1099511627776) := by
  simp only [AskV.ok, Bool.and_eq_true, inB_iff, timesB, timeB_iff] at h
  obtain ⟨ts, ⟨⟨t0, t1⟩, t2⟩, t3⟩ := h
  exact ⟨ts, t0, t1, t2, t3⟩
theorem ask_prefix {x y : AskV} {r : List UInt8} (hx : x.ok = true) (hy : y.ok = true) (h : toL x.bytes = toL y.bytes ++ r) : x = y ∧ r = [] := by
  obtain ⟨a1, a2, a3, a4, a5⟩ := ask_parts hx
  obtain ⟨b1, b2, b3, b4, b5⟩ := ask_parts hy
  rw [AskV.bytes, AskV.bytes, askS_toL, askS_toL] at h
  simp only [askL, List.cons_append, List.append_assoc, List.cons.injEq, true_and, List.nil_append] at h
  obtain ⟨e1, h⟩ := numBy_inj h ⟨a1.1, by omega⟩ ⟨b1.1, by omega⟩
  obtain ⟨e2, h⟩ := numBy_inj h a2 b2
  obtain ⟨e3, h⟩ := numBy_inj h a3 b3
  obtain ⟨e4, h⟩ := numBy_inj h a4 b4
  obtain ⟨e5, h⟩ := numBy_inj h a5 b5
  refine ⟨?_, h.symm⟩
  obtain ⟨_, _, _, _, _⟩ := x
  obtain ⟨_, _, _, _, _⟩ := y
  simp only at e1 e2 e3 e4 e5
  subst e1 e2 e3 e4 e5
  rfl
theorem goodAsk_one {L : List UInt8} {x y : AskV} (hx : GoodAsk L x) (hy : GoodAsk L y) : x = y := (ask_prefix hx.1 hy.1 (r := []) (by rw [hx.2, hy.2, List.append_nil])).1
theorem tx_not_ask {L : List UInt8} {x : TxV} {y : AskV} (hx : Good L x) (hy : GoodAsk L y) : False := by
  have h := hx.2.trans hy.2.symm
  rw [TxV.bytes, AskV.bytes, txS_toL, askS_toL] at h
  simp [headL, askL] at h
section
open Go.RowKit
/-- the address a, of a slice, has the bytes R, in a block ahead of rb -/
def BytesAt (w : World) (rb : Nat) (a : Option Addr) (R : List UInt8) : Prop :=
  R = [] ∨ ∃ b o, a = some ⟨b, o, none⟩ ∧ b < rb ∧ ∀ j u, R[j]? = some u → w.cell? ⟨b, o + j, none⟩ = some (.int .u8 u.toNat)

/-- block rb is a reader: what is left, and whether it was wrong -/
structure Rd (w : World) (rb : Nat) (R : List UInt8) (wrong : Bool) : Prop where
  rest : ∃ a c, w.cell? ⟨rb, 0, none⟩ = some (.slice a R.length c) ∧ R.length ≤ c ∧ BytesAt w rb a R
  c1 : w.cell? ⟨rb, 1, none⟩ = some (.bool wrong)
  f0 : w.frozen? ⟨rb, 0, none⟩ = false
  f1 : w.frozen? ⟨rb, 1, none⟩ = false

/-- what k bytes that go on, of value n, and what follows them are -/
def glue (k : Nat) (n : Int) : Option (Int × List UInt8) → Option (Int × List UInt8)
  | none => none
  | some (m, r) => if 0 < k ∧ m = 0 then none else some (n + 128 ^ k * m, r)
def rdAt (k : Nat) (n : Int) (R : List UInt8) : Option (Int × List UInt8) := if 6 ≤ k then none else glue k n (rdNum (5 - k) R)

theorem rdAt_zero (R : List UInt8) : rdAt 0 0 R = rdNum 5 R := by
  show glue 0 0 (rdNum 5 R) = _
  cases h : rdNum 5 R with
  | none => rfl
  | some x =>
    obtain ⟨m, r⟩ := x
    simp [glue]
theorem rdAt_six (n : Int) (R : List UInt8) : rdAt 6 n R = none := rfl
theorem rdAt_nil (k : Nat) (n : Int) : rdAt k n [] = none := by
  unfold rdAt
  split
  · rfl
  · cases h : 5 - k <;> rfl
theorem rdAt_more {k : Nat} {n : Int} {c : UInt8} {R : List UInt8} (hk : k < 6) (hc : ¬ c.toNat < 128) : rdAt k n (c :: R) = rdAt (k + 1) (n + ((c.toNat : Int) - 128) * 128 ^ k) R := by
  unfold rdAt
  rw [if_neg (by omega)]
  by_cases h5 : k = 5
  · subst h5
    show glue 5 n (if c.toNat < 128 then some ((c.toNat : Int), R) else none) = none
    rw [if_neg hc]
    rfl
  · rw [if_neg (by omega)]
    obtain ⟨f, hf⟩ : ∃ f, 5 - k = f + 1 := ⟨4 - k, by omega⟩
    have hf2 : 5 - (k + 1) = f := by omega
    rw [hf, hf2]
    show glue k n (if c.toNat < 128 then some ((c.toNat : Int), R) else match rdNum f R with
      | none => none
      | some (n, r') => if n = 0 then none else some ((c.toNat : Int) - 128 + 128 * n, r')) = _
    rw [if_neg hc]
    cases h : rdNum f R with
    | none => rfl
    | some x =>
      obtain ⟨m, r⟩ := x
      have hm := (rd_sound f R m r h).1.1
      by_cases h0 : m = 0
      · subst h0
        simp [glue]
      · have hc2 : 128 ≤ c.toNat := by omega
        have e : ¬ ((c.toNat : Int) - 128 + 128 * m = 0) := by omega
        simp only [glue, if_neg h0]
        rw [if_neg (fun x => e x.2), if_neg (fun x => h0 x.2)]
        congr 2
        have : (128 : Int) ^ (k + 1) = 128 ^ k * 128 := Int.pow_succ 128 k
        rw [this]
        generalize (128 : Int) ^ k = P
        rw [Int.mul_add, Int.mul_comm ((c.toNat : Int) - 128) P, Int.add_assoc, Int.mul_assoc]
theorem rdAt_last {k : Nat} {n : Int} {c : UInt8} {R : List UInt8} (hk : k < 6) (hc : c.toNat < 128) : rdAt k n (c :: R) = if 0 < k ∧ (c.toNat : Int) = 0 then none else some (n + 128 ^ k * c.toNat, R) := by
  unfold rdAt
  rw [if_neg (by omega)]
  have : rdNum (5 - k) (c :: R) = some ((c.toNat : Int), R) := by
    cases h : 5 - k <;> (unfold rdNum; rw [if_pos hc])
  rw [this]
  rfl

theorem only_setCell (g o : Nat) (w : World) (v : Value) : Only g w (w.setCell ⟨g, o, none⟩ v) := ⟨rfl, rfl, rfl, by simp [World.setCell], fun k _ hk => Below.heap_setCell w ⟨g, o, none⟩ v k (fun e => hk (by rw [e]))⟩

theorem Rd.put {w : World} {rb : Nat} {R R' : List UInt8} {wrong : Bool} (h : Rd w rb R wrong) (a : Option Addr) (n c : Nat) (hn : n = R'.length) (hc : R'.length ≤ c) (hB : BytesAt w rb a R') : Rd (w.setCell ⟨rb, 0, none⟩ (.slice a n c)) rb R' wrong := by
  subst hn
  obtain ⟨a0, c0, q0, _, _⟩ := h.rest
  refine ⟨⟨a, c, World.cell?_setCell_same w _ _ q0, hc, ?_⟩, ?_, ?_, ?_⟩
  · rcases hB with hB | ⟨b, o, e, hne, hcell⟩
    · exact .inl hB
    · refine .inr ⟨b, o, e, hne, fun j u hu => ?_⟩
      rw [World.cell?_setCell_other (h := fun e => Nat.ne_of_lt hne (by injection e with e1 _ _; exact e1.symm))]
      exact hcell j u hu
  · rw [World.cell?_setCell_other (h := fun e => by injection e with _ e2 _; cases e2)]
    exact h.c1
  · rw [World.frozen?_setCell]; exact h.f0
  · rw [World.frozen?_setCell]; exact h.f1
theorem Rd.bad {w : World} {rb : Nat} {R : List UInt8} {wrong : Bool} (h : Rd w rb R wrong) : Rd (w.setCell ⟨rb, 1, none⟩ (.bool true)) rb R true := by
  obtain ⟨a0, c0, q0, hc0, hB⟩ := h.rest
  refine ⟨⟨a0, c0, ?_, hc0, ?_⟩, World.cell?_setCell_same w _ _ h.c1, ?_, ?_⟩
  · rw [World.cell?_setCell_other (h := fun e => by injection e with _ e2 _; cases e2)]
    exact q0
  · rcases hB with hB | ⟨b, o, e, hne, hcell⟩
    · exact .inl hB
    · refine .inr ⟨b, o, e, hne, fun j u hu => ?_⟩
      rw [World.cell?_setCell_other (h := fun e => Nat.ne_of_lt hne (by injection e with e1 _ _; exact e1.symm))]
      exact hcell j u hu
  · rw [World.frozen?_setCell]; exact h.f0
  · rw [World.frozen?_setCell]; exact h.f1
theorem BytesAt.drop {w : World} {rb b o c k : Nat} {R : List UInt8} (hne : b < rb) (hcell : ∀ j u, R[j]? = some u → w.cell? ⟨b, o + j, none⟩ = some (.int .u8 u.toNat)) (hk : k ≤ R.length) (hc : R.length ≤ c) :
    BytesAt w rb (if c = k then some ⟨b, o, none⟩ else some ⟨b, o + k, none⟩) (R.drop k) := by
  by_cases h : c = k
  · exact .inl (List.drop_eq_nil_of_le (by omega))
  · rw [if_neg h]
    refine .inr ⟨b, o + k, rfl, hne, fun j u hu => ?_⟩
    rw [List.getElem?_drop] at hu
    rw [Nat.add_assoc]
    exact hcell _ _ hu

theorem pow_le5 {k : Nat} (hk : k < 6) : (128 : Int) ^ k ≤ 34359738368 := by
  have : k = 0 ∨ k = 1 ∨ k = 2 ∨ k = 3 ∨ k = 4 ∨ k = 5 := by omega
  rcases this with rfl | rfl | rfl | rfl | rfl | rfl <;> decide
theorem two_pow7 (k : Nat) : (2 : Int) ^ (7 * (k : Int)).toNat = 128 ^ k := by
  have e : (7 * (k : Int)).toNat = 7 * k := by omega
  rw [e, Int.pow_mul]
  rfl
theorem mul_bound {x P : Int} (h0 : 0 ≤ x) (h1 : x ≤ 127) (hP0 : 0 ≤ P) : 0 ≤ x * P ∧ x * P ≤ 127 * P :=
  ⟨Int.mul_nonneg h0 hP0, Int.mul_le_mul_of_nonneg_right h1 hP0⟩
theorem bits_more {k : Nat} {n m z : Int} (hk : k < 6) (hz : z = k) (n0 : 0 ≤ n) (n1 : n < 128 ^ k) : wrap64 (n + wrap64 (m % 128 * 2 ^ (7 * z).toNat)) = n + m % 128 * 128 ^ k ∧ 0 ≤ n + m % 128 * 128 ^ k ∧ n + m % 128 * 128 ^ k < 128 ^ (k + 1) := by
  have hp : (128 : Int) ^ (k + 1) = 128 ^ k * 128 := Int.pow_succ 128 k
  rw [hz, two_pow7, hp]
  have hP := pow_le5 hk
  have hP0 : (0 : Int) ≤ 128 ^ k := by omega
  revert hP hP0 n1
  generalize (128 : Int) ^ k = P
  intro n1 hP hP0
  obtain ⟨b0, b1⟩ := mul_bound (x := m % 128) (by omega) (by omega) hP0
  revert b0 b1
  generalize m % 128 * P = Q
  intro b0 b1
  unfold wrap64
  omega

/-- what number is: of what may be, and else 0, and wrong -/
def NumIs (most : Int) (R : List UInt8) (wrong : Bool) (v : Int) (R' : List UInt8) (wrong' : Bool) : Prop :=
  R'.length ≤ R.length ∧ ((rdNum 5 R = some (v, R') ∧ v ≤ most ∧ wrong' = wrong) ∨ ((∀ n r, rdNum 5 R = some (n, r) → ¬ n ≤ most) ∧ v = 0 ∧ wrong' = true))

def NumPost (most : Int) (R : List UInt8) (wrong : Bool) (rb : Nat) (w : World) (v : Int) (w' : World) : Prop := ∃ R' wrong', NumIs most R wrong v R' wrong' ∧ Rd w' rb R' wrong' ∧ Only rb w w'

set_option maxHeartbeats 4000000 in
theorem rdNumber_any (rb : Nat) (R : List UInt8) (wrong : Bool) (most : Int) (w : World) (hR : Rd w rb R wrong) :
    Calls Tryz.prog 248 #[.pointer (some ⟨rb, 0, none⟩), .int .i64 most] w fun e w' =>
      ∃ v, e = .returned (.int .i64 v) ∧ NumPost most R wrong rb w v w' := by
  go_enter Tryz.func248, Tryz.ntmps248
  go_wp2_with fail
  go_loopw [5, 8] (fun nv iv wr => ∃ (k : Nat) (z n : Int) (R' : List UInt8), k ≤ 6 ∧ z = k ∧ iv = .int .i64 z ∧ nv = .int .i64 n ∧ 0 ≤ n ∧ n < 128 ^ k ∧ R'.length ≤ R.length ∧ rdNum 5 R = rdAt k n R' ∧ Rd wr rb R' wrong ∧ Only rb w wr) (fun _ i _ => 6 - (intOf i).toNat)
  case atStart => exact ⟨0, 0, 0, R, by omega, rfl, rfl, rfl, by omega, by decide, by omega, (rdAt_zero R).symm, hR, Only.refl _ _⟩
  case round =>
    obtain ⟨k, z, n, R', hk, hz, rfl, rfl, n0, n1, hlen, hrd, hRd, hO⟩ := hrel
    have HRD : Hid (rdNum 5 R = rdAt k n R') := hrd
    clear hrd
    obtain ⟨a, c, q0, hcap, hB⟩ := hRd.rest
    have q1 := hRd.c1
    have g0 := hRd.f0
    have g1 := hRd.f1
    by_cases hlt : k < 6
    · have h1 : z < 6 := by omega
      have h3 : 0 ≤ z := by omega
      have HZ : Hid (z = k) := hz
      clear hz
      have N1 : Hid (n < 128 ^ k) := n1
      clear n1
      cases R' with
      | nil =>
        simp only [List.length_nil] at q0
        have bad := hRd.bad
        go_wp2_with fail
        go_ret
        exact ⟨0, rfl, [], true, ⟨by simp, .inr ⟨fun n r h => (by rw [HRD.out, rdAt_nil] at h; cases h), rfl, rfl⟩⟩, bad, hO.trans (only_setCell _ _ _ _) (.inl rfl)⟩
      | cons ch R'' =>
        obtain ⟨b, o, rfl, hne, hcell⟩ : ∃ b o, a = some ⟨b, o, none⟩ ∧ b < rb ∧ ∀ j u, (ch :: R'')[j]? = some u → wr.cell? ⟨b, o + j, none⟩ = some (.int .u8 u.toNat) := by
          rcases hB with h | h
          · cases h
          · exact h
        have x0 : wr.cell? ⟨b, o, none⟩ = some (.int .u8 ch.toNat) := hcell 0 ch rfl
        have hda := BytesAt.drop (k := 1) hne hcell (by simp) hcap
        obtain ⟨a', ha'⟩ : ∃ a', (if c = 1 then some (⟨b, o, none⟩ : Addr) else some ⟨b, o + 1, none⟩) = a' := ⟨_, rfl⟩
        rw [ha'] at hda
        have HC : Hid (BytesAt wr rb a' R'') := hda
        clear hda
        clear hcell
        have hch := ch.toNat_lt
        obtain ⟨m, hm⟩ : ∃ m : Int, m = ch.toNat := ⟨_, rfl⟩
        rw [← hm] at x0
        have HM : Hid (m = ch.toNat) := hm
        have m0 : 0 ≤ m := by omega
        have m1 : m < 256 := by omega
        clear hm
        have hlen3 : R''.length + 1 ≤ R.length := hlen
        obtain ⟨len, hlen2⟩ : ∃ len : Nat, R''.length = len := ⟨_, rfl⟩
        rw [List.length_cons, hlen2] at q0 hcap
        rw [hlen2] at hlen3
        have HLEN : Hid (R''.length = len) := hlen2
        clear hlen2 hlen
        obtain ⟨bm, b0, b1⟩ := bits_more (m := m) hlt HZ.out n0 N1.out
        obtain ⟨v, hv⟩ : ∃ v, v = n + m % 128 * 128 ^ k := ⟨_, rfl⟩
        rw [← hv] at bm b0 b1
        have HV : Hid (v = n + m % 128 * 128 ^ k) := hv
        have B1 : Hid (v < 128 ^ (k + 1)) := b1
        clear hv b1
        have PUT := hRd.put a' len (c - 1) HLEN.out.symm (by rw [HLEN.out]; omega) HC.out
        have HON : Hid (Only rb w (wr.setCell ⟨rb, 0, none⟩ (.slice a' len (c - 1)))) := hO.trans (only_setCell _ _ _ _) (.inl rfl)
        have HPUT : Hid (Rd (wr.setCell ⟨rb, 0, none⟩ (.slice a' len (c - 1))) rb R'' wrong) := PUT
        clear PUT hRd hO
        by_cases hm2 : 128 ≤ m
        · have E : Hid (rdNum 5 R = rdAt (k + 1) v R'') := by
            have e : m % 128 = (ch.toNat : Int) - 128 := by have := HM.out; omega
            show rdNum 5 R = _
            rw [HRD.out, rdAt_more hlt (by have := HM.out; omega), HV.out, e]
          go_wp2_with fail
          go_roundw
          case rel => exact ⟨k + 1, z + 1, v, R'', by omega, by have := HZ.out; omega, rfl, by first | rfl | rw [bm], b0, B1.out, by rw [HLEN.out]; omega, E.out, HPUT.out, HON.out⟩
          case measure => simp [intOf]; omega
        · have E : Hid (rdNum 5 R = if 0 < k ∧ m = 0 then none else some (v, R'')) := by
            have e : m % 128 = m := by omega
            show rdNum 5 R = _
            rw [HRD.out, rdAt_last hlt (by have := HM.out; omega), HV.out, e, HM.out, Int.mul_comm (128 ^ k)]
          have BAD := HPUT.out.bad
          have HBAD : Hid (Rd ((wr.setCell ⟨rb, 0, none⟩ (.slice a' len (c - 1))).setCell ⟨rb, 1, none⟩ (.bool true)) rb R'' true) := BAD
          clear BAD
          by_cases hv : most < v
          · go_wp2_with fail
            go_ret
            refine ⟨0, rfl, R'', true, ⟨by rw [HLEN.out]; omega, .inr ⟨fun n r h => ?_, rfl, rfl⟩⟩, HBAD.out, HON.out.trans (only_setCell _ _ _ _) (.inl rfl)⟩
            rw [E.out] at h
            split at h
            · cases h
            · injection h with h
              injection h with h1 _
              omega
          · by_cases hz0 : m = 0
            · have e0 : (m == 0) = true := by simp [hz0]
              have HZ0 : Hid (m = 0) := hz0
              clear hz0
              by_cases hk0 : 0 < z
              · go_wp2_with fail
                go_ret
                refine ⟨0, rfl, R'', true, ⟨by rw [HLEN.out]; omega, .inr ⟨fun n r h => ?_, rfl, rfl⟩⟩, HBAD.out, HON.out.trans (only_setCell _ _ _ _) (.inl rfl)⟩
                rw [E.out, if_pos ⟨by have := HZ.out; omega, HZ0.out⟩] at h
                cases h
              · go_wp2_with fail
                go_ret
                refine ⟨v, rfl, R'', wrong, ⟨by rw [HLEN.out]; omega, .inl ⟨?_, by omega, rfl⟩⟩, HPUT.out, HON.out⟩
                rw [E.out, if_neg (fun x => by have := HZ.out; have := x.1; omega)]
            · have e0 : (m == 0) = false := by simp [hz0]
              have HZ0 : Hid (¬ m = 0) := hz0
              clear hz0
              go_wp2_with fail
              go_ret
              refine ⟨v, rfl, R'', wrong, ⟨by rw [HLEN.out]; omega, .inl ⟨?_, by omega, rfl⟩⟩, HPUT.out, HON.out⟩
              rw [E.out, if_neg (fun x => HZ0.out x.2)]
    · have e : k = 6 := by omega
      have bad := hRd.bad
      go_wp2_with fail
      go_ret
      exact ⟨0, rfl, R', true, ⟨hlen, .inr ⟨fun n r h => (by rw [HRD.out, e, rdAt_six] at h; cases h), rfl, rfl⟩⟩, bad, hO.trans (only_setCell _ _ _ _) (.inl rfl)⟩
end
section
open Go.RowKit
/-- what take is -/
def TakeIs (R : List UInt8) (wrong : Bool) (n : Int) (s : ByteArray) (R' : List UInt8) (wrong' : Bool) : Prop :=
  (n ≤ R.length ∧ toL s = R.take n.toNat ∧ R' = R.drop n.toNat ∧ wrong' = wrong) ∨ ((R.length : Int) < n ∧ s = ⟨#[]⟩ ∧ R' = R ∧ wrong' = true)
def TakePost (R : List UInt8) (wrong : Bool) (n : Int) (rb : Nat) (w : World) (s : ByteArray) (w' : World) : Prop := ∃ R' wrong', TakeIs R wrong n s R' wrong' ∧ Rd w' rb R' wrong' ∧ Only rb w w'

theorem conv0 (a : Option Addr) (c : Nat) (w : World) : (convert 30 9 (.slice a 0 c)).run Tryz.prog w = .ok (.string ⟨#[]⟩) w := by
  rw [run_convert_bytes_string w 30 9 5 a 0 c Tryz.underlying30 Tryz.underlying5 Tryz.underlying9]
  cases a with
  | none => simp [Conv.bytesToString]; rfl
  | some a => simp [Conv.bytesToString, loadCells, loadCellsFrom]; rfl

theorem convAt {w : World} {b o : Nat} {R : List UInt8} (n c : Nat) (hn : n ≤ R.length) (hcell : ∀ j u, R[j]? = some u → w.cell? ⟨b, o + j, none⟩ = some (.int .u8 u.toNat)) :
    (convert 30 9 (.slice (some ⟨b, o, none⟩) n c)).run Tryz.prog w = .ok (.string ⟨(R.take n).toArray⟩) w := by
  have hlen : ((R.take n).map fun b => (b.toNat : Int)).length = n := by simp; omega
  have := run_convert_bytes_arg (P := Tryz.prog) w 30 5 Tryz.underlying30 Tryz.underlying5 b o n c ((R.take n).map fun b => (b.toNat : Int)) hlen (fun j hj => by
    have hj2 : j < R.length := by omega
    rw [hcell j R[j] (List.getElem?_eq_getElem hj2)]
    simp [List.getD, List.getElem?_eq_getElem hj2, List.getElem?_take_of_lt hj]) 9 Tryz.underlying9
  have e : ((fun n : Int => UInt8.ofNat n.toNat) ∘ fun b : UInt8 => (b.toNat : Int)) = id := by
    funext b
    simp
  have e2 : strOfNums ((R.take n).map fun b => (b.toNat : Int)) = ⟨(R.take n).toArray⟩ := by
    unfold strOfNums
    rw [List.map_map, e, List.map_id]
  rw [this, e2]

set_option maxHeartbeats 1000000 in
theorem tookB_any (rb : Nat) (R : List UInt8) (wrong : Bool) (n : Int) (w : World) (hR : Rd w rb R wrong) (n0 : 0 ≤ n) (hl : R.length ≤ 1000000) :
    Calls Tryz.prog 275 #[.pointer (some ⟨rb, 0, none⟩), .int .i64 n] w fun e w' =>
      ∃ s, e = .returned (.string s) ∧ TakePost R wrong n rb w s w' := by
  obtain ⟨a, c, q0, hcap, hB⟩ := hR.rest
  have q1 := hR.c1
  have g0 := hR.f0
  have g1 := hR.f1
  obtain ⟨len, hlen⟩ : ∃ len, R.length = len := ⟨_, rfl⟩
  rw [hlen] at q0 hcap hl
  have HL : Hid (R.length = len) := hlen
  clear hlen
  by_cases h : (len : Int) < n
  · have bad := hR.bad
    go_enter Tryz.func275, Tryz.ntmps275
    go_wp2_with fail
    go_ret
    exact ⟨_, rfl, R, true, .inr ⟨by rw [HL.out]; exact h, rfl, rfl, rfl⟩, bad, only_setCell _ _ _ _⟩
  · rcases hB with hnil | ⟨b, o, rfl, hne, hcell⟩
    · obtain rfl : len = 0 := by rw [← HL.out, hnil]; rfl
      obtain rfl : n = 0 := by omega
      have HN : Hid (R = []) := hnil
      clear hnil
      have k0 := conv0
      have PUT : Hid (Rd (w.setCell ⟨rb, 0, none⟩ (.slice a 0 c)) rb [] wrong) := hR.put a 0 c rfl (by simp) (.inl rfl)
      go_enter Tryz.func275, Tryz.ntmps275
      go_wp2_with fail
      go_ret
      exact ⟨_, rfl, [], wrong, .inl ⟨by rw [HL.out]; decide, rfl, by rw [HN.out]; rfl, rfl⟩, PUT.out, only_setCell _ _ _ _⟩
    · obtain ⟨m, rfl⟩ : ∃ m : Nat, n = m := ⟨n.toNat, by omega⟩
      have k0 := convAt (R := R) m c (by rw [HL.out]; omega) hcell
      have hd := BytesAt.drop (k := m) hne hcell (by rw [HL.out]; omega) (by rw [HL.out]; exact hcap)
      obtain ⟨a', ha'⟩ : ∃ a', (if c = m then some (⟨b, o, none⟩ : Addr) else some ⟨b, o + m, none⟩) = a' := ⟨_, rfl⟩
      rw [ha'] at hd
      obtain ⟨s, hs⟩ : ∃ s : ByteArray, s = ⟨(R.take m).toArray⟩ := ⟨_, rfl⟩
      rw [← hs] at k0
      have HS : Hid (s = ⟨(R.take m).toArray⟩) := hs
      clear hs hcell
      have PUT : Hid (Rd (w.setCell ⟨rb, 0, none⟩ (.slice a' (len - m) (c - m))) rb (R.drop m) wrong) := hR.put a' (len - m) (c - m) (by rw [List.length_drop, HL.out]) (by rw [List.length_drop, HL.out]; omega) hd
      clear hd
      go_enter Tryz.func275, Tryz.ntmps275
      go_wp2_with fail
      go_ret
      exact ⟨_, rfl, R.drop m, wrong, .inl ⟨by rw [HL.out]; omega, by rw [HS.out]; rfl, rfl, rfl⟩, PUT.out, only_setCell _ _ _ _⟩

def KindPost (R : List UInt8) (wrong : Bool) (c : UInt8) (rb : Nat) (w w' : World) : Prop := ∃ R' wrong', ((wrong' = false ↔ wrong = false ∧ R = c :: R') ∧ R'.length ≤ R.length ∧ (∀ r, R = c :: r → R' = r)) ∧ Rd w' rb R' wrong' ∧ Only rb w w'

theorem take_is_one {R R' : List UInt8} {wrong wrong' : Bool} {c : UInt8} {s : ByteArray} (h : TakeIs R wrong 1 s R' wrong') (hs : toL s = [c]) : R = c :: R' ∧ wrong' = wrong := by
  rcases h with ⟨h1, h2, h3, h4⟩ | ⟨_, h2, _, _⟩
  · refine ⟨?_, h4⟩
    cases R with
    | nil => simp at h1
    | cons x R =>
      rw [hs] at h2
      have e : x = c := by simpa using h2.symm
      rw [h3, e]
      rfl
  · rw [h2] at hs
    cases hs
theorem take_not_one {R R' : List UInt8} {wrong wrong' : Bool} {c : UInt8} {s : ByteArray} (h : TakeIs R wrong 1 s R' wrong') (hs : ¬ toL s = [c]) (r : List UInt8) : ¬ R = c :: r := by
  intro e
  subst e
  rcases h with ⟨_, h2, _, _⟩ | ⟨h1, _, _, _⟩
  · exact hs (by rw [h2]; rfl)
  · simp at h1
    omega
theorem take_length {R R' : List UInt8} {wrong wrong' : Bool} {n : Int} {s : ByteArray} (h : TakeIs R wrong n s R' wrong') : R'.length ≤ R.length := by
  rcases h with ⟨_, _, h3, _⟩ | ⟨_, _, h3, _⟩
  · rw [h3, List.length_drop]; omega
  · rw [h3]; exact Nat.le_refl _

set_option maxHeartbeats 1000000 in
theorem kind_any (rb : Nat) (R : List UInt8) (wrong : Bool) (c : UInt8) (w : World) (hR : Rd w rb R wrong) (hl : R.length ≤ 1000000) :
    Calls Tryz.prog 247 #[.pointer (some ⟨rb, 0, none⟩), .string ⟨#[c]⟩] w fun e w' => e = .returned (.tuple #[]) ∧ KindPost R wrong c rb w w' := by
  go_enter Tryz.func247, Tryz.ntmps247
  go_wp2_with fail
  refine (tookB_any rb R wrong 1 w hR (by omega) hl).mono ?_
  rintro e w1 ⟨s, rfl, R', wrong', ht, hR', hO⟩
  have g1 := hR'.f1
  have q1 := hR'.c1
  have HT : Hid (TakeIs R wrong 1 s R' wrong') := ht
  clear ht
  by_cases hs : toL s = [c]
  · have es : (s.toList == [c]) = true := by rw [byteList, hs]; simp
    obtain ⟨k1, k2⟩ := take_is_one HT.out hs
    have K1 : Hid (R = c :: R') := k1
    have K2 : Hid (wrong' = wrong) := k2
    clear k1 k2 hs
    go_wp2_with fail
    go_end0
    exact ⟨rfl, R', wrong', ⟨⟨fun h => ⟨by rw [← K2.out]; exact h, K1.out⟩, fun h => by rw [K2.out]; exact h.1⟩, take_length HT.out, fun r hr => by have := K1.out.symm.trans hr; injection this⟩, hR', hO⟩
  · have es : (s.toList == [c]) = false := by rw [byteList]; exact beq_eq_false_iff_ne.2 hs
    have K1 : Hid (∀ r, ¬ R = c :: r) := take_not_one HT.out hs
    have bad := hR'.bad
    clear hs
    go_wp2_with fail
    go_end0
    exact ⟨rfl, R', true, ⟨⟨fun h => (by cases h), fun h => absurd h.2 (K1.out _)⟩, take_length HT.out, fun r hr => absurd hr (K1.out r)⟩, bad, hO.trans (only_setCell _ _ _ _) (.inl rfl)⟩

/-- all was right, and nothing is left -/
def doneB (R : List UInt8) (wrong : Bool) : Bool := !wrong && R.isEmpty

set_option maxHeartbeats 1000000 in
theorem isDone_any (rb : Nat) (R : List UInt8) (wrong : Bool) (w : World) (hR : Rd w rb R wrong) :
    Calls Tryz.prog 251 #[.pointer (some ⟨rb, 0, none⟩)] w fun e w' => e = .returned (.bool (doneB R wrong)) ∧ Below w.heap.size w w' := by
  obtain ⟨a, c, q0, hcap, hB⟩ := hR.rest
  have q1 := hR.c1
  cases wrong
  · cases R with
    | nil =>
      simp only [List.length_nil] at q0
      go_enter Tryz.func251, Tryz.ntmps251
      go_wp2_with fail
      go_ret
      exact ⟨rfl, Below.refl _ _⟩
    | cons x R =>
      simp only [List.length_cons] at q0
      obtain ⟨len, hlen⟩ : ∃ len, R.length = len := ⟨_, rfl⟩
      rw [hlen] at q0
      have e0 : ((len : Int) + 1 == 0) = false := beq_eq_false_iff_ne.2 (by omega)
      go_enter Tryz.func251, Tryz.ntmps251
      go_wp2_with fail
      go_ret
      exact ⟨rfl, Below.refl _ _⟩
  · go_enter Tryz.func251, Tryz.ntmps251
    go_wp2_with fail
    go_ret
    exact ⟨rfl, Below.refl _ _⟩
end
section
open Go.RowKit
theorem Row4.only {w w' : World} {rb b : Nat} {a0 a1 a2 a3 : Int} (h : Row4 w b a0 a1 a2 a3) (hO : Only rb w w') (hne : b ≠ rb) : Row4 w' b a0 a1 a2 a3 := by
  have e : w'.heap[b]? = w.heap[b]? := hO.block b h.lt (fun x => by injection x with x; exact hne x)
  constructor
  · rw [World.cell?_of_block (w := w) e]; exact h.c0
  · rw [World.cell?_of_block (w := w) e]; exact h.c1
  · rw [World.cell?_of_block (w := w) e]; exact h.c2
  · rw [World.cell?_of_block (w := w) e]; exact h.c3
  · rw [World.frozen?_of_block (w := w) e]; exact h.f0
  · rw [World.frozen?_of_block (w := w) e]; exact h.f1
  · rw [World.frozen?_of_block (w := w) e]; exact h.f2
  · rw [World.frozen?_of_block (w := w) e]; exact h.f3

theorem Rd.lt {w : World} {rb : Nat} {R : List UInt8} {wrong : Bool} (h : Rd w rb R wrong) : rb < w.heap.size := World.block_lt_of_cell? _ _ h.c1
theorem Rd.kept {w w' : World} {rb : Nat} {R : List UInt8} {wrong : Bool} (h : Rd w rb R wrong) (hk : ∀ k, k < w.heap.size → w'.heap[k]? = w.heap[k]?) : Rd w' rb R wrong := by
  obtain ⟨a, c, q0, hc, hB⟩ := h.rest
  have e := hk rb h.lt
  refine ⟨⟨a, c, by rw [World.cell?_of_block (w := w) e]; exact q0, hc, ?_⟩, by rw [World.cell?_of_block (w := w) e]; exact h.c1, by rw [World.frozen?_of_block (w := w) e]; exact h.f0, by rw [World.frozen?_of_block (w := w) e]; exact h.f1⟩
  rcases hB with hB | ⟨b, o, ea, hne, hcell⟩
  · exact .inl hB
  · refine .inr ⟨b, o, ea, hne, fun j u hu => ?_⟩
    have hx := hcell j u hu
    rw [World.cell?_of_block (w := w) (hk b (World.block_lt_of_cell? _ _ hx))]
    exact hx
theorem Rd.alloc {w : World} {rb : Nat} {R : List UInt8} {wrong : Bool} (h : Rd w rb R wrong) (o : Obj) : Rd (w.alloc o) rb R wrong := h.kept fun k hk => Below.heap_alloc w o k hk

theorem Rd.far {w : World} {rb : Nat} {R : List UInt8} {wrong : Bool} (h : Rd w rb R wrong) (p : Addr) (v : Value) (hp : rb < p.block) : Rd (w.setCell p v) rb R wrong := by
  obtain ⟨a, c, q0, hc, hB⟩ := h.rest
  have e : (w.setCell p v).heap[rb]? = w.heap[rb]? := Below.heap_setCell w p v rb (by omega)
  refine ⟨⟨a, c, by rw [World.cell?_of_block (w := w) e]; exact q0, hc, ?_⟩, by rw [World.cell?_of_block (w := w) e]; exact h.c1, by rw [World.frozen?_of_block (w := w) e]; exact h.f0, by rw [World.frozen?_of_block (w := w) e]; exact h.f1⟩
  rcases hB with hB | ⟨b, o, ea, hne, hcell⟩
  · exact .inl hB
  · refine .inr ⟨b, o, ea, hne, fun j u hu => ?_⟩
    rw [World.cell?_of_block (w := w) (Below.heap_setCell w p v b (by omega))]
    exact hcell j u hu
theorem only_far {g : Nat} {w w1 : World} {p : Addr} {v : Value} (h : Only g w w1) (hp : w.heap.size ≤ p.block) : Only g w (w1.setCell p v) :=
  ⟨h.os, h.tape, h.output, by simpa [World.setCell] using h.size, fun k hk hne => (Below.heap_setCell w1 p v k (by omega)).trans (h.block k hk hne)⟩
theorem only_new {g : Nat} {w w1 : World} {o : Obj} (h : Only g w w1) : Only g w (w1.alloc o) := h.trans (g' := g) (Only.ofBelow (boxed (Below.refl _ _) o)) (.inl rfl)

def VecPost (R : List UInt8) (wrong : Bool) (rb : Nat) (w : World) (v0 v1 v2 v3 : Int) (w' : World) : Prop :=
  ∃ R0 x0 R1 x1 R2 x2 R3 x3, NumIs 1099511627776 R wrong v0 R0 x0 ∧ NumIs 1099511627776 R0 x0 v1 R1 x1 ∧ NumIs 1099511627776 R1 x1 v2 R2 x2 ∧ NumIs 1099511627776 R2 x2 v3 R3 x3 ∧ Rd w' rb R3 x3 ∧ Only rb w w'

set_option maxHeartbeats 4000000 in
theorem vec_any (rb : Nat) (R : List UInt8) (wrong : Bool) (w : World) (hR : Rd w rb R wrong) :
    Calls Tryz.prog 249 #[.pointer (some ⟨rb, 0, none⟩)] w fun e w' =>
      ∃ v0 v1 v2 v3, e = .returned (.agg #[.int .i64 v0, .int .i64 v1, .int .i64 v2, .int .i64 v3]) ∧ VecPost R wrong rb w v0 v1 v2 v3 w' := by
  have hlt := hR.lt
  have hne : w.heap.size + 1 ≠ rb := by omega
  have hnr : w.heap.size ≠ rb := by omega
  have RV := (Row4.new w 77 0 0 0 0).boxed (.cells #[.int .i64 0, .int .i64 0, .int .i64 0, .int .i64 0] 77)
  have RW : Row4 ((w.alloc (.cells #[.int .i64 0, .int .i64 0, .int .i64 0, .int .i64 0] 77)).alloc (.cells #[.int .i64 0, .int .i64 0, .int .i64 0, .int .i64 0] 77)) (w.heap.size + 1) 0 0 0 0 := Row4.newest (by simp)
  have hO : Only rb w ((w.alloc (.cells #[.int .i64 0, .int .i64 0, .int .i64 0, .int .i64 0] 77)).alloc (.cells #[.int .i64 0, .int .i64 0, .int .i64 0, .int .i64 0] 77)) := only_new (only_new (Only.refl _ _))
  go_enter Tryz.func249, Tryz.ntmps249
  go_wp2_with fail
  refine wp_loop_rounds 5 ?_
  rw [rounds_succ]
  go_wp2_with fail
  refine (rdNumber_any rb R wrong 1099511627776 _ ((hR.alloc _).alloc _)).mono ?_
  rintro e w1 ⟨v0, rfl, R0, x0, n0, D0, y0⟩
  have N0 : Hid (NumIs 1099511627776 R wrong v0 R0 x0) := n0
  replace RW := RW.only y0 hne
  replace RV := RV.only y0 hnr
  replace hO := hO.trans y0 (.inl rfl)
  clear n0 y0
  replace D0 := D0.far ⟨w.heap.size + 1, 0, none⟩ (.int .i64 v0) (by show rb < w.heap.size + 1; omega)
  replace hO := only_far (p := ⟨w.heap.size + 1, 0, none⟩) (v := .int .i64 v0) hO (by show w.heap.size ≤ w.heap.size + 1; omega)
  have RX := RW.set0 v0
  replace RV := RV.far ⟨w.heap.size + 1, 0, none⟩ (.int .i64 v0) (by show w.heap.size + 1 ≠ w.heap.size; omega)
  have c0 := RW.c0
  have c1 := RW.c1
  have c2 := RW.c2
  have c3 := RW.c3
  have f0 := RW.f0
  have f1 := RW.f1
  have f2 := RW.f2
  have f3 := RW.f3
  go_wp2_with fail
  clear c0 c1 c2 c3 f0 f1 f2 f3 RW
  have RW := RX
  clear RX
  rw [rounds_succ]
  go_wp2_with fail
  refine (rdNumber_any rb R0 x0 1099511627776 _ D0).mono ?_
  rintro e w2 ⟨v1, rfl, R1, x1, n1, D1, y1⟩
  have N1 : Hid (NumIs 1099511627776 R0 x0 v1 R1 x1) := n1
  replace RW := RW.only y1 hne
  replace RV := RV.only y1 hnr
  replace hO := hO.trans y1 (.inl rfl)
  clear n1 y1
  replace D1 := D1.far ⟨w.heap.size + 1, 1, none⟩ (.int .i64 v1) (by show rb < w.heap.size + 1; omega)
  replace hO := only_far (p := ⟨w.heap.size + 1, 1, none⟩) (v := .int .i64 v1) hO (by show w.heap.size ≤ w.heap.size + 1; omega)
  have RX := RW.set1 v1
  replace RV := RV.far ⟨w.heap.size + 1, 1, none⟩ (.int .i64 v1) (by show w.heap.size + 1 ≠ w.heap.size; omega)
  have c0 := RW.c0
  have c1 := RW.c1
  have c2 := RW.c2
  have c3 := RW.c3
  have f0 := RW.f0
  have f1 := RW.f1
  have f2 := RW.f2
  have f3 := RW.f3
  go_wp2_with fail
  clear c0 c1 c2 c3 f0 f1 f2 f3 RW
  have RW := RX
  clear RX
  rw [rounds_succ]
  go_wp2_with fail
  refine (rdNumber_any rb R1 x1 1099511627776 _ D1).mono ?_
  rintro e w3 ⟨v2, rfl, R2, x2, n2, D2, y2⟩
  have N2 : Hid (NumIs 1099511627776 R1 x1 v2 R2 x2) := n2
  replace RW := RW.only y2 hne
  replace RV := RV.only y2 hnr
  replace hO := hO.trans y2 (.inl rfl)
  clear n2 y2
  replace D2 := D2.far ⟨w.heap.size + 1, 2, none⟩ (.int .i64 v2) (by show rb < w.heap.size + 1; omega)
  replace hO := only_far (p := ⟨w.heap.size + 1, 2, none⟩) (v := .int .i64 v2) hO (by show w.heap.size ≤ w.heap.size + 1; omega)
  have RX := RW.set2 v2
  replace RV := RV.far ⟨w.heap.size + 1, 2, none⟩ (.int .i64 v2) (by show w.heap.size + 1 ≠ w.heap.size; omega)
  have c0 := RW.c0
  have c1 := RW.c1
  have c2 := RW.c2
  have c3 := RW.c3
  have f0 := RW.f0
  have f1 := RW.f1
  have f2 := RW.f2
  have f3 := RW.f3
  go_wp2_with fail
  clear c0 c1 c2 c3 f0 f1 f2 f3 RW
  have RW := RX
  clear RX
  rw [rounds_succ]
  go_wp2_with fail
  refine (rdNumber_any rb R2 x2 1099511627776 _ D2).mono ?_
  rintro e w4 ⟨v3, rfl, R3, x3, n3, D3, y3⟩
  have N3 : Hid (NumIs 1099511627776 R2 x2 v3 R3 x3) := n3
  replace RW := RW.only y3 hne
  replace RV := RV.only y3 hnr
  replace hO := hO.trans y3 (.inl rfl)
  clear n3 y3
  replace D3 := D3.far ⟨w.heap.size + 1, 3, none⟩ (.int .i64 v3) (by show rb < w.heap.size + 1; omega)
  replace hO := only_far (p := ⟨w.heap.size + 1, 3, none⟩) (v := .int .i64 v3) hO (by show w.heap.size ≤ w.heap.size + 1; omega)
  have RX := RW.set3 v3
  replace RV := RV.far ⟨w.heap.size + 1, 3, none⟩ (.int .i64 v3) (by show w.heap.size + 1 ≠ w.heap.size; omega)
  have c0 := RW.c0
  have c1 := RW.c1
  have c2 := RW.c2
  have c3 := RW.c3
  have f0 := RW.f0
  have f1 := RW.f1
  have f2 := RW.f2
  have f3 := RW.f3
  go_wp2_with fail
  clear c0 c1 c2 c3 f0 f1 f2 f3 RW
  have RW := RX
  clear RX
  rw [rounds_succ]
  have D4 := (((D3.far ⟨w.heap.size, 0, none⟩ (.int .i64 v0) (by show rb < w.heap.size; omega)).far ⟨w.heap.size, 1, none⟩ (.int .i64 v1) (by show rb < w.heap.size; omega)).far ⟨w.heap.size, 2, none⟩ (.int .i64 v2) (by show rb < w.heap.size; omega)).far ⟨w.heap.size, 3, none⟩ (.int .i64 v3) (by show rb < w.heap.size; omega)
  replace hO := only_far (p := ⟨w.heap.size, 3, none⟩) (v := .int .i64 v3) (only_far (p := ⟨w.heap.size, 2, none⟩) (v := .int .i64 v2) (only_far (p := ⟨w.heap.size, 1, none⟩) (v := .int .i64 v1) (only_far (p := ⟨w.heap.size, 0, none⟩) (v := .int .i64 v0) hO (Nat.le_refl _)) (Nat.le_refl _)) (Nat.le_refl _)) (Nat.le_refl _)
  have RZ := RV.set (x0 := v0) (x1 := v1) (x2 := v2) (x3 := v3)
  have c0 := RW.c0
  have c1 := RW.c1
  have c2 := RW.c2
  have c3 := RW.c3
  have k0 := RV.c0
  have k1 := RV.c1
  have k2 := RV.c2
  have k3 := RV.c3
  have f0 := RV.f0
  have f1 := RV.f1
  have f2 := RV.f2
  have f3 := RV.f3
  go_wp2_with fail
  have z0 := RZ.c0
  have z1 := RZ.c1
  have z2 := RZ.c2
  have z3 := RZ.c3
  exact bodyPost_ret (v := .agg #[.int .i64 v0, .int .i64 v1, .int .i64 v2, .int .i64 v3]) (by simp [results, Tryz.results249, go_sem, z0, z1, z2, z3]) rfl ⟨v0, v1, v2, v3, rfl, R0, x0, R1, x1, R2, x2, R3, x3, N0.out, N1.out, N2.out, N3.out, D4, hO⟩
end
section
open Go.RowKit
theorem NumIs.nonneg {most : Int} {R R' : List UInt8} {wrong wrong' : Bool} {v : Int} (h : NumIs most R wrong v R' wrong') : 0 ≤ v := by
  rcases h.2 with ⟨h, _, _⟩ | ⟨_, h, _⟩
  · exact (rd_sound 5 R v R' h).1.1
  · omega

/-- block b holds a write, and may be written -/
structure RowW (w : World) (b : Nat) (key : Int) (data : ByteArray) (gone : Bool) : Prop where
  c0 : w.cell? ⟨b, 0, none⟩ = some (.int .i64 key)
  c1 : w.cell? ⟨b, 1, none⟩ = some (.string data)
  c2 : w.cell? ⟨b, 2, none⟩ = some (.bool gone)
  f0 : w.frozen? ⟨b, 0, none⟩ = false
  f1 : w.frozen? ⟨b, 1, none⟩ = false
  f2 : w.frozen? ⟨b, 2, none⟩ = false

theorem RowW.lt {w : World} {b : Nat} {key : Int} {data : ByteArray} {gone : Bool} (h : RowW w b key data gone) : b < w.heap.size := World.block_lt_of_cell? _ _ h.c0
theorem RowW.kept {w w' : World} {b : Nat} {key : Int} {data : ByteArray} {gone : Bool} (h : RowW w b key data gone) (e : w'.heap[b]? = w.heap[b]?) : RowW w' b key data gone := by
  constructor
  · rw [World.cell?_of_block (w := w) e]; exact h.c0
  · rw [World.cell?_of_block (w := w) e]; exact h.c1
  · rw [World.cell?_of_block (w := w) e]; exact h.c2
  · rw [World.frozen?_of_block (w := w) e]; exact h.f0
  · rw [World.frozen?_of_block (w := w) e]; exact h.f1
  · rw [World.frozen?_of_block (w := w) e]; exact h.f2
theorem RowW.only {w w' : World} {rb b : Nat} {key : Int} {data : ByteArray} {gone : Bool} (h : RowW w b key data gone) (hO : Only rb w w') (hne : b ≠ rb) : RowW w' b key data gone :=
  h.kept (hO.block b h.lt (fun x => by injection x with x; exact hne x))
theorem RowW.far {w : World} {b : Nat} {key : Int} {data : ByteArray} {gone : Bool} (h : RowW w b key data gone) (p : Addr) (u : Value) (hn : p.block ≠ b) : RowW (w.setCell p u) b key data gone :=
  h.kept (Below.heap_setCell _ _ _ _ (Ne.symm hn))
theorem RowW.boxed {w : World} {b : Nat} {key : Int} {data : ByteArray} {gone : Bool} (h : RowW w b key data gone) (o : Obj) : RowW (w.alloc o) b key data gone :=
  h.kept (Below.heap_alloc _ _ _ h.lt)
theorem RowW.new {w : World} {T : TypeId} {n : Nat} {key : Int} {data : ByteArray} {gone : Bool} (hn : w.heap.size = n) : RowW (w.alloc (.cells #[.int .i64 key, .string data, .bool gone] T)) n key data gone := by
  subst hn
  constructor <;> go_simp
theorem RowW.set0 {w : World} {b : Nat} {key : Int} {data : ByteArray} {gone : Bool} (h : RowW w b key data gone) (x : Int) : RowW (w.setCell ⟨b, 0, none⟩ (.int .i64 x)) b x data gone :=
  ⟨World.cell?_setCell_same _ _ _ h.c0, (World.cell?_setCell_other _ _ _ _ (by simp)).trans h.c1, (World.cell?_setCell_other _ _ _ _ (by simp)).trans h.c2, (World.frozen?_setCell _ _ _ _).trans h.f0, (World.frozen?_setCell _ _ _ _).trans h.f1, (World.frozen?_setCell _ _ _ _).trans h.f2⟩
theorem RowW.set1 {w : World} {b : Nat} {key : Int} {data : ByteArray} {gone : Bool} (h : RowW w b key data gone) (x : ByteArray) : RowW (w.setCell ⟨b, 1, none⟩ (.string x)) b key x gone :=
  ⟨(World.cell?_setCell_other _ _ _ _ (by simp)).trans h.c0, World.cell?_setCell_same _ _ _ h.c1, (World.cell?_setCell_other _ _ _ _ (by simp)).trans h.c2, (World.frozen?_setCell _ _ _ _).trans h.f0, (World.frozen?_setCell _ _ _ _).trans h.f1, (World.frozen?_setCell _ _ _ _).trans h.f2⟩
theorem RowW.set2 {w : World} {b : Nat} {key : Int} {data : ByteArray} {gone : Bool} (h : RowW w b key data gone) (x : Bool) : RowW (w.setCell ⟨b, 2, none⟩ (.bool x)) b key data x :=
  ⟨(World.cell?_setCell_other _ _ _ _ (by simp)).trans h.c0, (World.cell?_setCell_other _ _ _ _ (by simp)).trans h.c1, World.cell?_setCell_same _ _ _ h.c2, (World.frozen?_setCell _ _ _ _).trans h.f0, (World.frozen?_setCell _ _ _ _).trans h.f1, (World.frozen?_setCell _ _ _ _).trans h.f2⟩

/-- what write is -/
def WriteIs (R : List UInt8) (wrong : Bool) (key : Int) (data : ByteArray) (gone : Bool) (R' : List UInt8) (wrong' : Bool) : Prop :=
  ∃ R0 x0 R1 x1 R2 x2 g n, NumIs 7 R wrong key R0 x0 ∧ NumIs 1 R0 x0 g R1 x1 ∧ gone = (g == 1) ∧ NumIs 12 R1 x1 n R2 x2 ∧ TakeIs R2 x2 n data R' wrong'
def WritePost (R : List UInt8) (wrong : Bool) (rb : Nat) (w : World) (key : Int) (data : ByteArray) (gone : Bool) (w' : World) : Prop :=
  ∃ R' wrong', WriteIs R wrong key data gone R' wrong' ∧ Rd w' rb R' wrong' ∧ Only rb w w'

set_option maxHeartbeats 4000000 in
theorem write_any (rb : Nat) (R : List UInt8) (wrong : Bool) (w : World) (hR : Rd w rb R wrong) (hl : R.length ≤ 1000000) :
    Calls Tryz.prog 250 #[.pointer (some ⟨rb, 0, none⟩)] w fun e w' =>
      ∃ key data gone, e = .returned (.agg #[.int .i64 key, .string data, .bool gone]) ∧ WritePost R wrong rb w key data gone w' := by
  have hlt := hR.lt
  have hne : w.heap.size + 1 ≠ rb := by omega
  have hnr : w.heap.size ≠ rb := by omega
  have RV := (RowW.new (T := 100) (key := 0) (data := ⟨#[]⟩) (gone := false) (Eq.refl w.heap.size)).boxed (.cells #[.int .i64 0, .string ⟨#[]⟩, .bool false] 100)
  have RW : RowW ((w.alloc (.cells #[.int .i64 0, .string ⟨#[]⟩, .bool false] 100)).alloc (.cells #[.int .i64 0, .string ⟨#[]⟩, .bool false] 100)) (w.heap.size + 1) 0 ⟨#[]⟩ false := RowW.new (by simp)
  have hO : Only rb w ((w.alloc (.cells #[.int .i64 0, .string ⟨#[]⟩, .bool false] 100)).alloc (.cells #[.int .i64 0, .string ⟨#[]⟩, .bool false] 100)) := only_new (only_new (Only.refl _ _))
  go_enter Tryz.func250, Tryz.ntmps250
  go_wp2_with fail
  refine (rdNumber_any rb R wrong 7 _ ((hR.alloc _).alloc _)).mono ?_
  rintro e w1 ⟨key, rfl, R0, x0, n0, D0, y0⟩
  have N0 : Hid (NumIs 7 R wrong key R0 x0) := n0
  replace RW := RW.only y0 hne
  replace RV := RV.only y0 hnr
  replace hO := hO.trans y0 (.inl rfl)
  clear n0 y0
  replace D0 := D0.far ⟨w.heap.size + 1, 0, none⟩ (.int .i64 key) (by show rb < w.heap.size + 1; omega)
  replace hO := only_far (p := ⟨w.heap.size + 1, 0, none⟩) (v := .int .i64 key) hO (by show w.heap.size ≤ w.heap.size + 1; omega)
  have RX := RW.set0 key
  replace RV := RV.far ⟨w.heap.size + 1, 0, none⟩ (.int .i64 key) (by show w.heap.size + 1 ≠ w.heap.size; omega)
  have c0 := RW.c0
  have f0 := RW.f0
  go_wp2_with fail
  clear c0 f0 RW
  have RW := RX
  clear RX
  refine (rdNumber_any rb R0 x0 1 _ D0).mono ?_
  rintro e w2 ⟨g, rfl, R1, x1, n1, D1, y1⟩
  have N1 : Hid (NumIs 1 R0 x0 g R1 x1) := n1
  replace RW := RW.only y1 hne
  replace RV := RV.only y1 hnr
  replace hO := hO.trans y1 (.inl rfl)
  clear n1 y1
  obtain ⟨gone, hg⟩ : ∃ gone : Bool, (g == 1) = gone := ⟨_, rfl⟩
  replace D1 := D1.far ⟨w.heap.size + 1, 2, none⟩ (.bool gone) (by show rb < w.heap.size + 1; omega)
  replace hO := only_far (p := ⟨w.heap.size + 1, 2, none⟩) (v := .bool gone) hO (by show w.heap.size ≤ w.heap.size + 1; omega)
  have RX := RW.set2 gone
  replace RV := RV.far ⟨w.heap.size + 1, 2, none⟩ (.bool gone) (by show w.heap.size + 1 ≠ w.heap.size; omega)
  have c2 := RW.c2
  have f2 := RW.f2
  go_wp2_with fail
  clear c2 f2 RW
  have RW := RX
  clear RX
  have HG : Hid ((g == 1) = gone) := hg
  clear hg
  refine (rdNumber_any rb R1 x1 12 _ D1).mono ?_
  rintro e w3 ⟨n, rfl, R2, x2, n2, D2, y2⟩
  have N2 : Hid (NumIs 12 R1 x1 n R2 x2) := n2
  replace RW := RW.only y2 hne
  replace RV := RV.only y2 hnr
  replace hO := hO.trans y2 (.inl rfl)
  clear n2 y2
  go_wp2_with fail
  refine (tookB_any rb R2 x2 n _ D2 N2.out.nonneg (by have := N0.out.1; have := N1.out.1; have := N2.out.1; omega)).mono ?_
  rintro e w4 ⟨data, rfl, R3, x3, t3, D3, y3⟩
  have T3 : Hid (TakeIs R2 x2 n data R3 x3) := t3
  replace RW := RW.only y3 hne
  replace RV := RV.only y3 hnr
  replace hO := hO.trans y3 (.inl rfl)
  clear t3 y3
  replace D3 := D3.far ⟨w.heap.size + 1, 1, none⟩ (.string data) (by show rb < w.heap.size + 1; omega)
  replace hO := only_far (p := ⟨w.heap.size + 1, 1, none⟩) (v := .string data) hO (by show w.heap.size ≤ w.heap.size + 1; omega)
  have RX := RW.set1 data
  replace RV := RV.far ⟨w.heap.size + 1, 1, none⟩ (.string data) (by show w.heap.size + 1 ≠ w.heap.size; omega)
  have D4 := ((D3.far ⟨w.heap.size, 0, none⟩ (.int .i64 key) (by show rb < w.heap.size; omega)).far ⟨w.heap.size, 1, none⟩ (.string data) (by show rb < w.heap.size; omega)).far ⟨w.heap.size, 2, none⟩ (.bool gone) (by show rb < w.heap.size; omega)
  replace hO := only_far (p := ⟨w.heap.size, 2, none⟩) (v := .bool gone) (only_far (p := ⟨w.heap.size, 1, none⟩) (v := .string data) (only_far (p := ⟨w.heap.size, 0, none⟩) (v := .int .i64 key) hO (Nat.le_refl _)) (Nat.le_refl _)) (Nat.le_refl _)
  have RZ := ((RV.set0 key).set1 data).set2 gone
  have c1 := RW.c1
  have f1 := RW.f1
  have e0 := RX.c0
  have e1 := RX.c1
  have e2 := RX.c2
  have k0 := RV.c0
  have k1 := RV.c1
  have k2 := RV.c2
  have g0 := RV.f0
  have g1 := RV.f1
  have g2 := RV.f2
  go_wp2_with fail
  have z0 := RZ.c0
  have z1 := RZ.c1
  have z2 := RZ.c2
  exact bodyPost_ret (v := .agg #[.int .i64 key, .string data, .bool gone]) (by simp [results, Tryz.results250, go_sem, z0, z1, z2]) rfl ⟨key, data, gone, rfl, R3, x3, ⟨R0, x0, R1, x1, R2, x2, g, n, N0.out, N1.out, HG.out.symm, N2.out, T3.out⟩, D4, hO⟩
end
open Go.RowKit
theorem NumIs.sound {most : Int} {R R' : List UInt8} {wrong wrong' : Bool} {v : Int} (h : NumIs most R wrong v R' wrong') (hx : wrong' = false) : wrong = false ∧ (0 ≤ v ∧ v ≤ most) ∧ R = numBy 5 v ++ R' := by
  rcases h.2 with ⟨h1, h2, h3⟩ | ⟨_, _, h3⟩
  · obtain ⟨⟨s0, _⟩, s1⟩ := rd_sound 5 R v R' h1
    exact ⟨by rw [← h3]; exact hx, ⟨s0, h2⟩, s1⟩
  · rw [hx] at h3; cases h3
theorem NumIs.full {most : Int} {R R' : List UInt8} {wrong wrong' : Bool} {v n : Int} {r : List UInt8} (h : NumIs most R wrong v R' wrong') (hw : wrong = false) (hR : R = numBy 5 n ++ r) (h0 : 0 ≤ n) (h1 : n ≤ most) (hm : most ≤ 1099511627776) : v = n ∧ R' = r ∧ wrong' = false := by
  have e := rd_num 5 n r h0 (by rw [pow6]; omega)
  rw [← hR] at e
  rcases h.2 with ⟨h2, _, h3⟩ | ⟨h2, _, _⟩
  · rw [e] at h2
    injection h2 with h2
    injection h2 with h4 h5
    exact ⟨h4.symm, h5.symm, by rw [h3, hw]⟩
  · exact absurd h1 (h2 n r e)

/-- the first byte -/
def KindIs (R : List UInt8) (wrong : Bool) (c : UInt8) (R' : List UInt8) (wrong' : Bool) : Prop := (wrong' = false ↔ wrong = false ∧ R = c :: R') ∧ R'.length ≤ R.length ∧ (∀ r, R = c :: r → R' = r)

theorem doneB_iff {R : List UInt8} {wrong : Bool} : doneB R wrong = true ↔ wrong = false ∧ R = [] := by cases wrong <;> simp [doneB]

theorem ask_chain {L R0 R1 R2 R3 R4 R5 : List UInt8} {x0 x1 x2 x3 x4 x5 : Bool} {site v0 v1 v2 v3 : Int} (hK : KindIs L false 97 R0 x0) (hS : NumIs 3 R0 x0 site R1 x1) (h0 : NumIs 1099511627776 R1 x1 v0 R2 x2) (h1 : NumIs 1099511627776 R2 x2 v1 R3 x3) (h2 : NumIs 1099511627776 R3 x3 v2 R4 x4) (h3 : NumIs 1099511627776 R4 x4 v3 R5 x5) :
    (doneB R5 x5 = true → GoodAsk L ⟨site, v0, v1, v2, v3⟩) ∧ (∀ y, GoodAsk L y → doneB R5 x5 = true) := by
  constructor
  · intro h
    obtain ⟨hx, hR⟩ := doneB_iff.1 h
    obtain ⟨e4, b3, q3⟩ := h3.sound hx
    obtain ⟨e3, b2, q2⟩ := h2.sound e4
    obtain ⟨e2, b1, q1⟩ := h1.sound e3
    obtain ⟨e1, b0, q0⟩ := h0.sound e2
    obtain ⟨e0, bs, qs⟩ := hS.sound e1
    obtain ⟨_, qk⟩ := hK.1.1 e0
    refine ⟨?_, ?_⟩
    · simp only [AskV.ok, Bool.and_eq_true, inB_iff, timesB, timeB_iff]
      exact ⟨⟨bs.1, bs.2⟩, ⟨⟨b0, b1⟩, b2⟩, b3⟩
    · show toL (askS site v0 v1 v2 v3) = L
      rw [askS_toL, qk, qs, q0, q1, q2, q3, hR]
      rfl
  · rintro ⟨s, a0, a1, a2, a3⟩ hy
    obtain ⟨bs, b0, b1, b2, b3⟩ := ask_parts hy.1
    have e : L = askL s a0 a1 a2 a3 [] := hy.2.symm.trans (askS_toL s a0 a1 a2 a3)
    unfold askL at e
    have r0 := hK.2.2 _ e
    have y0 := hK.1.2 ⟨rfl, by rw [r0]; exact e⟩
    obtain ⟨_, r1, y1⟩ := hS.full y0 r0 bs.1 bs.2 (by decide)
    obtain ⟨_, r2, y2⟩ := h0.full y1 r1 b0.1 b0.2 (by decide)
    obtain ⟨_, r3, y3⟩ := h1.full y2 r2 b1.1 b1.2 (by decide)
    obtain ⟨_, r4, y4⟩ := h2.full y3 r3 b2.1 b2.2 (by decide)
    obtain ⟨_, r5, y5⟩ := h3.full y4 r4 b3.1 b3.2 (by decide)
    exact doneB_iff.2 ⟨y5, r5⟩

theorem Rd.new {w : World} {a : Option Addr} {L : List UInt8} {c T n : Nat} (hn : w.heap.size = n) (hc : L.length ≤ c) (hB : BytesAt w n a L) : Rd (w.alloc (.cells #[.slice a L.length c, .bool false] T)) n L false := by
  subst hn
  refine ⟨⟨a, c, by go_simp, hc, ?_⟩, by go_simp, by go_simp, by go_simp⟩
  rcases hB with hB | ⟨b, o, ea, hne, hcell⟩
  · exact .inl hB
  · refine .inr ⟨b, o, ea, hne, fun j u hu => ?_⟩
    exact cell_later (boxed (Below.refl _ _) _) (hcell j u hu)
theorem BytesAt.later {w w' : World} {n n' : Nat} {a : Option Addr} {L : List UInt8} (h : BytesAt w n a L) (hb : Below w.heap.size w w') (hn : n ≤ n') : BytesAt w' n' a L := by
  rcases h with h | ⟨b, o, ea, hne, hcell⟩
  · exact .inl h
  · exact .inr ⟨b, o, ea, by omega, fun j u hu => cell_later hb (hcell j u hu)⟩

theorem only_below {g : Nat} {W w w' : World} (h : Below W.heap.size W w) (hO : Only g w w') (hg : W.heap.size ≤ g) : Below W.heap.size W w' := h.trans (hO.below hg h.size)

def AskOut (L : List UInt8) (w : World) (e : Ending) (w' : World) : Prop :=
  ((∃ x : AskV, GoodAsk L x ∧ e = .returned (.tuple #[.int .i64 x.site, .agg #[.int .i64 x.a0, .int .i64 x.a1, .int .i64 x.a2, .int .i64 x.a3], .nilIface])) ∨
   ((∀ x, ¬ GoodAsk L x) ∧ e = .returned (.tuple #[.int .i64 0, .agg #[.int .i64 0, .int .i64 0, .int .i64 0, .int .i64 0], .iface 26 (.int .i64 3)]))) ∧ Below w.heap.size w w'

set_option maxHeartbeats 4000000 in
theorem decAsk_any (a : Option Addr) (L : List UInt8) (c : Nat) (w : World) (hB : BytesAt w w.heap.size a L) (hc : L.length ≤ c) (hl : L.length ≤ 1000000) :
    Calls Tryz.prog 211 #[.slice a L.length c] w fun e w' => AskOut L w e w' := by
  have RV := (Row4.new w 77 0 0 0 0).boxed (.cells #[.slice a L.length c, .bool false] 301)
  have D := Rd.new (w := w.alloc (.cells #[.int .i64 0, .int .i64 0, .int .i64 0, .int .i64 0] 77)) (n := w.heap.size + 1) (T := 301) (by simp) hc (hB.later (boxed (Below.refl _ _) _) (by omega))
  have hb := boxed (boxed (Below.refl _ w) (.cells #[.int .i64 0, .int .i64 0, .int .i64 0, .int .i64 0] 77)) (.cells #[.slice a L.length c, .bool false] 301)
  have hne : w.heap.size ≠ w.heap.size + 1 := by omega
  go_enter Tryz.func211, Tryz.ntmps211
  go_wp2_with fail
  refine (kind_any (w.heap.size + 1) L false 97 _ D hl).mono ?_
  rintro e w1 ⟨rfl, R0, x0, k0, D0, y0⟩
  have K0 : Hid (KindIs L false 97 R0 x0) := k0
  replace RV := RV.only y0 hne
  replace hb := only_below hb y0 (by omega)
  clear k0 y0 D
  go_wp2_with fail
  refine (rdNumber_any (w.heap.size + 1) R0 x0 3 _ D0).mono ?_
  rintro e w2 ⟨site, rfl, R1, x1, n1, D1, y1⟩
  have N1 : Hid (NumIs 3 R0 x0 site R1 x1) := n1
  replace RV := RV.only y1 hne
  replace hb := only_below hb y1 (by omega)
  clear n1 y1 D0
  go_wp2_with fail
  refine (vec_any (w.heap.size + 1) R1 x1 _ D1).mono ?_
  rintro e w3 ⟨v0, v1, v2, v3, rfl, R2, x2, R3, x3, R4, x4, R5, x5, m0, m1, m2, m3, D2, y2⟩
  have CH : Hid ((doneB R5 x5 = true → GoodAsk L ⟨site, v0, v1, v2, v3⟩) ∧ (∀ y, GoodAsk L y → doneB R5 x5 = true)) := ask_chain K0.out N1.out m0 m1 m2 m3
  replace RV := RV.only y2 hne
  replace hb := only_below hb y2 (by omega)
  clear m0 m1 m2 m3 y2 D1
  have RH := Row4.new w3 77 v0 v1 v2 v3
  replace RV := RV.boxed (.cells #[.int .i64 v0, .int .i64 v1, .int .i64 v2, .int .i64 v3] 77)
  replace D2 := D2.alloc (.cells #[.int .i64 v0, .int .i64 v1, .int .i64 v2, .int .i64 v3] 77)
  replace hb := boxed hb (.cells #[.int .i64 v0, .int .i64 v1, .int .i64 v2, .int .i64 v3] 77)
  go_wp2_with fail
  refine (isDone_any (w.heap.size + 1) R5 x5 _ D2).mono ?_
  rintro e w4 ⟨rfl, hb4⟩
  replace RV := RV.later hb4
  replace RH := RH.later hb4
  replace hb := behind hb hb4
  clear hb4 D2
  have k0 := RV.c0
  have k1 := RV.c1
  have k2 := RV.c2
  have k3 := RV.c3
  have f0 := RV.f0
  have f1 := RV.f1
  have f2 := RV.f2
  have f3 := RV.f3
  cases hd : doneB R5 x5
  · have NO : Hid (∀ x, ¬ GoodAsk L x) := fun x hx => by rw [CH.out.2 x hx] at hd; cases hd
    clear hd
    have RZ := RV.set (x0 := 0) (x1 := 0) (x2 := 0) (x3 := 0)
    go_wp2_with fail
    have z0 := RZ.c0
    have z1 := RZ.c1
    have z2 := RZ.c2
    have z3 := RZ.c3
    exact bodyPost_ret (v := .tuple #[.int .i64 0, .agg #[.int .i64 0, .int .i64 0, .int .i64 0, .int .i64 0], .iface 26 (.int .i64 3)]) (by simp [results, Tryz.results211, go_sem, z0, z1, z2, z3]) rfl ⟨.inr ⟨NO.out, rfl⟩, (((hb.setCell (Nat.le_refl _) _).setCell (Nat.le_refl _) _).setCell (Nat.le_refl _) _).setCell (Nat.le_refl _) _⟩
  · have YES : Hid (GoodAsk L ⟨site, v0, v1, v2, v3⟩) := CH.out.1 hd
    clear hd
    have c0 := RH.c0
    have c1 := RH.c1
    have c2 := RH.c2
    have c3 := RH.c3
    have RZ := RV.set (x0 := v0) (x1 := v1) (x2 := v2) (x3 := v3)
    go_wp2_with fail
    go_region
    all_goals (try go_wp2)
    have z0 := RZ.drew.c0
    have z1 := RZ.drew.c1
    have z2 := RZ.drew.c2
    have z3 := RZ.drew.c3
    exact bodyPost_ret (v := .tuple #[.int .i64 site, .agg #[.int .i64 v0, .int .i64 v1, .int .i64 v2, .int .i64 v3], .nilIface]) (by simp [results, Tryz.results211, go_sem, z0, z1, z2, z3]) rfl ⟨.inl ⟨⟨site, v0, v1, v2, v3⟩, YES.out, rfl⟩, ((((hb.setCell (Nat.le_refl _) _).setCell (Nat.le_refl _) _).setCell (Nat.le_refl _) _).setCell (Nat.le_refl _) _).drew⟩
end Go.Proofs.YtoanjdndmlffdaaGreatDoor
