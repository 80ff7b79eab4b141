/-
  What every row of this program leans on: no knob of its own, memory laid out, an int is one cell.
  A region whose order of evaluation Go leaves open, and whose operations read old memory and call functions that write none of it: one walk in the order of the text serves every order. Of whatever program; the kit's law over a class of worlds, at the class of the worlds in which nothing that stood at the region's beginning has turned.
  The bytes of a number: seven bits a byte, the least ones first, 128 added to all but the last; no Go in sight. Which byte a cell holds.
  The plain mathematics of stamps: what two stamps' order is, as integers; no Go in sight.
  What the document's own 'in' does, as the model runs it (package copseref).
  Writes in memory (a slice of api.Write): what it holds, in later worlds; which writes may be; no Go in sight but the cells.
  The arguments' shapes, opened: a transaction by value is eight ints and a slice of writes.
  The arguments' shapes, opened: a slice of what is said (copsekeep.Say), each with its writes; a slice of ints.
  A row of bytes that the call itself made, and appends to it: of whatever program. Its cells are as the bytes, those behind are there, and none of them is frozen ('[]byte(s)' bears a mark behind its last cell, which bars nothing).
  A row of cells in memory that may be written, of any length; a row of writes that the call itself made; a call as one step of a region that draws its order. Of whatever program.
  Versions of keys: their order, which a vector has, the last one; rows of them in memory; no Go in sight but the cells.
  What Right of package clock does, as the model runs it.
  What '==' says of two stamps (a struct of two ints), as the model runs it.
  What the document's own RightStamp does, as the model runs it (package copseref).
  A stamp's two ints in memory (a stamp in a box): what it holds, in later worlds and behind stores. Of whatever program.
  A row of four ints in memory (a vector in a box): what it holds, in later worlds and behind stores. Of whatever program.
  Rows of versions in memory: one key's. No Go in sight but the cells.
  A string's bytes as a list: the model holds strings against each other by it.
  Rows of structs that are copied and shifted in place: of whatever program; the operations 'copy' and 'clear' at elements of several cells.
  What Covers of package vector does, as the model runs it.
  What Max of package vector does, as the model runs it.
  The pieces of a function's code, found in it.
  A number among so many (copsekeep.pick), as the model runs it.
-/
import Derived.Test.YtknejedgddlabaaDoorChecked
import Derived.KernelRfl
import Derived.ProofKit
import Derived.OpenShut
import Derived.Lib.SmallJoins
import Derived.Laws.IdiomArrays
import Derived.WalkKit
import Derived.WalkSpells
import Derived.WalkLawsBesides
import Derived.Deep.QuietTactic
import Derived.BigQuiet
import Derived.Deep.Slices
import Derived.Deep.Strs
import Derived.Deep.AppendSrc
import Derived.Laws.IdiomStrings
import Derived.Laws.BytesArg
import Derived.OwnWalk
import Derived.Lib.SlBytesConst
import Derived.Deep.AppendLies
import Derived.Deep.RegionLaw
import Derived.LoopN
import Derived.Laws.StructEq
import Derived.Laws.IdiomCopy
import Derived.Lib.Overlaps
import Derived.Lib.AppendZerosOnto
import Derived.Laws.NewBlocks
import Derived.Deep.RegionHeld3
namespace Go.Proofs.YtknejedgddlabaaDoor
open Go.ChangeShapes Go.WideShapes Go.ChangeAt Go.RowKit Go.Joins

theorem own : ownKnob Tryd.prog.godebug = none := by kernel_rfl
theorem laidOut : laidOutB Tryd.prog = true := by kernel_rfl
theorem cellsInt : Tryd.prog.cellsOf 3 = 1 := by kernel_rfl

end Go.Proofs.YtknejedgddlabaaDoor

namespace Go.Proofs.YtknejedgddlabaaDoor
open Go.RowKit

/-- A world in which all that stood in W is as it was. -/
structure Later (W : World) where
  val : World
  below : Below W.heap.size W val

theorem Later.one (W : World) : Nonempty (Later W) := ⟨⟨W, Below.refl _ _⟩⟩

theorem Later.cell {W : World} {p : Addr} {v : Value} (h : W.cell? p = some v) (x : Later W) : x.val.cell? p = some v := cell_later x.below h

/-- one step behind another: both leave alone what lay below where the first began -/
theorem behind {w w1 w2 : World} (h1 : Below w.heap.size w w1) (h2 : Below w1.heap.size w1 w2) : Below w.heap.size w w2 := h1.trans (h2.mono h1.size)
/-- .. and then a new block -/
theorem boxed {w w1 : World} (h1 : Below w.heap.size w w1) (o : Obj) : Below w.heap.size w (w1.alloc o) := h1.alloc h1.size o

/-- Each operation yields one and the same value in every later world, and leaves a later world: then so does the region, in whatever order. -/
theorem wp_region_later {P : Program} {id : Nat} {Q : Exit → Act → World → Prop} {a : Act} {w : World} {l : List Oper} (hm : P.follows .mixedOrders = true) (hB : Region.lexB .any l.toArray = true)
    (h : wpQuiet P l.toArray (fun w' => ∃ x : Later w, w' = x.val) (fun a' => ∀ w', (∃ x : Later w, w' = x.val) → Q .normal a' w') l a) : (Code.region id l.toArray true).wp P Q a w :=
  wp_region_quiet (C := fun w' => ∃ x : Later w, w' = x.val) hm hB ⟨⟨w.drew, (Below.refl _ _).drew⟩, rfl⟩ (by simpa using h)

/-- a callee that leaves old memory alone, met in a later world -/
theorem calls_later {P : Program} {f : FuncId} {args : Array Value} {w : World} {x : Later w} {v : Value}
    (h : Calls P f args x.val fun e w' => e = .returned v ∧ Below x.val.heap.size x.val w') : Calls P f args x.val fun e w'' => e = .returned v ∧ ∃ y : Later w, w'' = y.val :=
  h.mono fun _ w'' ⟨he, hb⟩ => ⟨he, ⟨w'', behind x.below hb⟩, rfl⟩

/-- old cells, and old marks, read as before -/
theorem bcell {W w1 : World} (hb : Below W.heap.size W w1) : (∀ b o, b < W.heap.size → w1.cell? ⟨b, o, none⟩ = W.cell? ⟨b, o, none⟩) ∧ (∀ b o, b < W.heap.size → w1.frozen? ⟨b, o, none⟩ = W.frozen? ⟨b, o, none⟩) :=
  ⟨fun b o h => hb.cell (p := ⟨b, o, none⟩) h, fun b o h => hb.frozen (p := ⟨b, o, none⟩) h⟩

theorem blt {W w1 : World} (hb : Below W.heap.size W w1) : ∀ b, b < W.heap.size → b < w1.heap.size := fun _ h => Nat.lt_of_lt_of_le h hb.size

theorem bne {W w1 : World} (hb : Below W.heap.size W w1) : ∀ b, b < W.heap.size → ¬ b = w1.heap.size := fun b h => Nat.ne_of_lt (blt hb b h)
theorem bne2 {W w1 : World} (hb : Below W.heap.size W w1) : ∀ b, b < W.heap.size → ¬ w1.heap.size = b := fun b h => Nat.ne_of_gt (blt hb b h)

theorem below2 {w w1 : World} {a b : Obj} (hb : Below ((w.alloc a).alloc b).heap.size ((w.alloc a).alloc b) w1) : Below w.heap.size w w1 :=
  (((Below.refl _ _).alloc (Nat.le_refl _) _).alloc (by simp) _).trans (hb.mono (by simp; omega))
theorem below3 {w w1 : World} {a b c : Obj} (hb : Below (((w.alloc a).alloc b).alloc c).heap.size (((w.alloc a).alloc b).alloc c) w1) : Below w.heap.size w w1 :=
  ((((Below.refl _ _).alloc (Nat.le_refl _) _).alloc (by simp) _).alloc (by simp; omega) _).trans (hb.mono (by simp; omega))

theorem below_drawn {B : Nat} {a w : World} (n : Nat) (h : Below B a w) : Below B a (w.drewN n) := ⟨h.os, h.tape, h.output, h.size, h.block⟩

end Go.Proofs.YtknejedgddlabaaDoor

namespace Go.Proofs.YtknejedgddlabaaDoor

/-- one byte, as a string -/
def byteS (n : Int) : ByteArray := ⟨#[UInt8.ofNat n.toNat]⟩
/-- a number's bytes, at most f + 1 of them -/
def numS : Nat → Int → ByteArray
  | 0, n => byteS n
  | f + 1, n => if n < 128 then byteS n else byteS (n % 128 + 128) ++ numS f (n / 128)
/-- a cell that holds a byte -/
def isByte : Option Value → Bool
  | some (.int .u8 _) => true
  | _ => false
/-- .. and which one, as a string -/
def byteOf : Option Value → ByteArray
  | some (.int .u8 n) => byteS n
  | _ => ByteArray.empty
theorem isByte_some (n : Int) : isByte (some (.int .u8 n)) = true := rfl
theorem byteOf_some (n : Int) : byteOf (some (.int .u8 n)) = byteS n := rfl
theorem numS_lt {f : Nat} {n : Int} (h : n < 128) : numS f n = byteS n := by
  cases f with
  | zero => rfl
  | succ f => exact if_pos h
theorem numS_ge {f : Nat} {n : Int} (h : ¬ n < 128) : numS (f + 1) n = byteS (n % 128 + 128) ++ numS f (n / 128) := if_neg h
theorem byteS_size (n : Int) : (byteS n).size = 1 := rfl
theorem numS_size (f : Nat) (n : Int) : (numS f n).size ≤ f + 1 := by
  induction f generalizing n with
  | zero => exact Nat.le_refl 1
  | succ f ih =>
    by_cases h : n < 128
    · rw [numS_lt h, byteS_size]; omega
    · rw [numS_ge h, ByteArray.size_append, byteS_size]; have := ih (n / 128); omega
/-- two strings that are not long, one behind the other -/
theorem addS {P : Program} (a b : ByteArray) (h : a.size + b.size ≤ 1000000) (w : World) : (Op.stringOp .add a b).run P w = .ok (.string (a ++ b)) w :=
  run_string_add_sum w a b (by omega)

end Go.Proofs.YtknejedgddlabaaDoor

namespace Go.Proofs.YtknejedgddlabaaDoor

/-- two pairs of numbers are the same -/
def same2 (a b c d : Int) : Bool := a == c && b == d
/-- two rows of four numbers are the same -/
def same4 (a b c d x y z t : Int) : Bool := a == x && b == y && c == z && d == t
/-- the greater, and the lesser, of two -/
def maxZ (x y : Int) : Int := if x < y then y else x
def minZ (x y : Int) : Int := if y < x then y else x
theorem maxZ_pos {x y : Int} (h : x < y) : maxZ x y = y := if_pos h
theorem maxZ_neg {x y : Int} (h : ¬ x < y) : maxZ x y = x := if_neg h
theorem minZ_pos {x y : Int} (h : y < x) : minZ x y = y := if_pos h
theorem minZ_neg {x y : Int} (h : ¬ y < x) : minZ x y = x := if_neg h
/-- no number of the second row is above the first's -/
def covB (a0 a1 a2 a3 b0 b1 b2 b3 : Int) : Bool := decide (b0 ≤ a0) && decide (b1 ≤ a1) && decide (b2 ≤ a2) && decide (b3 ≤ a3)
/-- how two integers compare: -1, 0 or 1 -/
def cmpZ (x y : Int) : Int := if x < y then -1 else if y < x then 1 else 0
/-- how two stamps compare: by the wall, then by the count -/
def cmpS (aw ac bw bc : Int) : Int := if cmpZ aw bw = 0 then cmpZ ac bc else cmpZ aw bw
/-- a number that may be a time -/
def timeB (n : Int) : Bool := decide (0 ≤ n) && decide (n ≤ 1099511627776)

theorem same4_self (x y z t : Int) : same4 x y z t x y z t = true := by simp [same4]
theorem same2_self (x y : Int) : same2 x y x y = true := by simp [same2]
theorem cmpZ_lt {x y : Int} (h : x < y) : cmpZ x y = -1 := by unfold cmpZ; rw [if_pos h]
theorem cmpZ_gt {x y : Int} (h : y < x) : cmpZ x y = 1 := by unfold cmpZ; rw [if_neg (by omega), if_pos h]
theorem cmpZ_eq (x : Int) : cmpZ x x = 0 := by unfold cmpZ; rw [if_neg (by omega), if_neg (by omega)]
/-- all four are times -/
def timesB (a0 a1 a2 a3 : Int) : Bool := timeB a0 && timeB a1 && timeB a2 && timeB a3
theorem timeB_true {n : Int} (h0 : 0 ≤ n) (h1 : n ≤ 1099511627776) : timeB n = true := by simp [timeB, h0, h1]
theorem timeB_iff {n : Int} : timeB n = true ↔ 0 ≤ n ∧ n ≤ 1099511627776 := by simp [timeB]

theorem cmpZ_cases (x y : Int) : (x < y ∧ cmpZ x y = -1) ∨ (x = y ∧ cmpZ x y = 0) ∨ (y < x ∧ cmpZ x y = 1) := by
  rcases Int.lt_trichotomy x y with h | h | h
  · exact .inl ⟨h, cmpZ_lt h⟩
  · subst h; exact .inr (.inl ⟨rfl, cmpZ_eq x⟩)
  · exact .inr (.inr ⟨h, cmpZ_gt h⟩)

/-- how stamps compare, said by the numbers -/
theorem cmpS_cases (aw ac bw bc : Int) :
    ((aw < bw ∨ aw = bw ∧ ac < bc) ∧ cmpS aw ac bw bc = -1) ∨ ((aw = bw ∧ ac = bc) ∧ cmpS aw ac bw bc = 0) ∨ ((bw < aw ∨ aw = bw ∧ bc < ac) ∧ cmpS aw ac bw bc = 1) := by
  have hw := cmpZ_cases aw bw
  have hc := cmpZ_cases ac bc
  unfold cmpS
  rcases hw with ⟨h, e⟩ | ⟨h, e⟩ | ⟨h, e⟩
  · exact .inl ⟨.inl h, by rw [e]; rfl⟩
  · rcases hc with ⟨g, f⟩ | ⟨g, f⟩ | ⟨g, f⟩
    · exact .inl ⟨.inr ⟨h, g⟩, by rw [if_pos e, f]⟩
    · exact .inr (.inl ⟨⟨h, g⟩, by rw [if_pos e, f]⟩)
    · exact .inr (.inr ⟨.inr ⟨h, g⟩, by rw [if_pos e, f]⟩)
  · exact .inr (.inr ⟨.inl h, by rw [e]; rfl⟩)

/-- the five ways in which three stamps lie -/
theorem three (aw ac bw bc cw cc : Int) :
    (cmpS aw ac bw bc = 1 ∧ cmpS bw bc aw ac = -1 ∧ same2 aw ac bw bc = false) ∨
    ((cmpS aw ac bw bc = 0 ∧ cmpS bw bc aw ac = 0 ∧ same2 aw ac bw bc = true) ∧ (0 < cmpS bw bc cw cc ∨ (¬ 0 < cmpS bw bc cw cc ∧ cmpS aw ac cw cc ≤ 0))) ∨
    ((cmpS aw ac bw bc = -1 ∧ cmpS bw bc aw ac = 1 ∧ same2 aw ac bw bc = false) ∧ (0 < cmpS bw bc cw cc ∨ (¬ 0 < cmpS bw bc cw cc ∧ cmpS aw ac cw cc ≤ 0))) := by
  have x := cmpS_cases aw ac bw bc
  have x' := cmpS_cases bw bc aw ac
  have y := cmpS_cases bw bc cw cc
  have z := cmpS_cases aw ac cw cc
  rcases x with ⟨h, e⟩ | ⟨h, e⟩ | ⟨h, e⟩
  · refine .inr (.inr ⟨⟨e, by omega, by simp [same2]; omega⟩, ?_⟩)
    omega
  · refine .inr (.inl ⟨⟨e, by omega, by simp [same2]; omega⟩, ?_⟩)
    omega
  · exact .inl ⟨e, by omega, by simp [same2]; omega⟩

theorem maxZ_le (x y z : Int) : maxZ x y ≤ z ↔ x ≤ z ∧ y ≤ z := by unfold maxZ; split <;> omega
theorem le_minZ (x y z : Int) : z ≤ minZ x y ↔ z ≤ x ∧ z ≤ y := by unfold minZ; split <;> omega
theorem le_maxZ_left (x y : Int) : x ≤ maxZ x y := by unfold maxZ; split <;> omega
theorem le_maxZ_right (x y : Int) : y ≤ maxZ x y := by unfold maxZ; split <;> omega
theorem minZ_le_left (x y : Int) : minZ x y ≤ x := by unfold minZ; split <;> omega
theorem minZ_le_right (x y : Int) : minZ x y ≤ y := by unfold minZ; split <;> omega
theorem maxZ_comm (x y : Int) : maxZ x y = maxZ y x := by unfold maxZ; split <;> split <;> omega
theorem maxZ_assoc (x y z : Int) : maxZ (maxZ x y) z = maxZ x (maxZ y z) := by
  have a := maxZ_le x y z
  unfold maxZ
  repeat split <;> try omega
theorem maxZ_minZ (x y : Int) : maxZ x (minZ x y) = x := by unfold maxZ minZ; repeat split <;> try omega
theorem covB_iff {a0 a1 a2 a3 b0 b1 b2 b3 : Int} : covB a0 a1 a2 a3 b0 b1 b2 b3 = true ↔ b0 ≤ a0 ∧ b1 ≤ a1 ∧ b2 ≤ a2 ∧ b3 ≤ a3 := by simp [covB, and_assoc]
theorem same4_iff {a0 a1 a2 a3 b0 b1 b2 b3 : Int} : same4 a0 a1 a2 a3 b0 b1 b2 b3 = true ↔ a0 = b0 ∧ a1 = b1 ∧ a2 = b2 ∧ a3 = b3 := by simp [same4, and_assoc]
theorem cov_max_a (a0 a1 a2 a3 b0 b1 b2 b3 : Int) : covB (maxZ a0 b0) (maxZ a1 b1) (maxZ a2 b2) (maxZ a3 b3) a0 a1 a2 a3 = true := covB_iff.2 ⟨le_maxZ_left _ _, le_maxZ_left _ _, le_maxZ_left _ _, le_maxZ_left _ _⟩
theorem cov_max_b (a0 a1 a2 a3 b0 b1 b2 b3 : Int) : covB (maxZ a0 b0) (maxZ a1 b1) (maxZ a2 b2) (maxZ a3 b3) b0 b1 b2 b3 = true := covB_iff.2 ⟨le_maxZ_right _ _, le_maxZ_right _ _, le_maxZ_right _ _, le_maxZ_right _ _⟩
theorem cov_a_min (a0 a1 a2 a3 b0 b1 b2 b3 : Int) : covB a0 a1 a2 a3 (minZ a0 b0) (minZ a1 b1) (minZ a2 b2) (minZ a3 b3) = true := covB_iff.2 ⟨minZ_le_left _ _, minZ_le_left _ _, minZ_le_left _ _, minZ_le_left _ _⟩
theorem cov_b_min (a0 a1 a2 a3 b0 b1 b2 b3 : Int) : covB b0 b1 b2 b3 (minZ a0 b0) (minZ a1 b1) (minZ a2 b2) (minZ a3 b3) = true := covB_iff.2 ⟨minZ_le_right _ _, minZ_le_right _ _, minZ_le_right _ _, minZ_le_right _ _⟩
theorem cov_c_max (a0 a1 a2 a3 b0 b1 b2 b3 c0 c1 c2 c3 : Int) : covB c0 c1 c2 c3 (maxZ a0 b0) (maxZ a1 b1) (maxZ a2 b2) (maxZ a3 b3) = (covB c0 c1 c2 c3 a0 a1 a2 a3 && covB c0 c1 c2 c3 b0 b1 b2 b3) := by
  rw [Bool.eq_iff_iff, Bool.and_eq_true, covB_iff, covB_iff, covB_iff]; simp only [maxZ_le]; omega
theorem cov_min_c (a0 a1 a2 a3 b0 b1 b2 b3 c0 c1 c2 c3 : Int) : covB (minZ a0 b0) (minZ a1 b1) (minZ a2 b2) (minZ a3 b3) c0 c1 c2 c3 = (covB a0 a1 a2 a3 c0 c1 c2 c3 && covB b0 b1 b2 b3 c0 c1 c2 c3) := by
  rw [Bool.eq_iff_iff, Bool.and_eq_true, covB_iff, covB_iff, covB_iff]; simp only [le_minZ]; omega
theorem cov_both (a0 a1 a2 a3 b0 b1 b2 b3 : Int) : same4 a0 a1 a2 a3 b0 b1 b2 b3 = (covB a0 a1 a2 a3 b0 b1 b2 b3 && covB b0 b1 b2 b3 a0 a1 a2 a3) := by
  rw [Bool.eq_iff_iff, Bool.and_eq_true, covB_iff, covB_iff, same4_iff]; omega
theorem same_comm (a0 a1 a2 a3 b0 b1 b2 b3 : Int) : same4 (maxZ a0 b0) (maxZ a1 b1) (maxZ a2 b2) (maxZ a3 b3) (maxZ b0 a0) (maxZ b1 a1) (maxZ b2 a2) (maxZ b3 a3) = true := same4_iff.2 ⟨maxZ_comm _ _, maxZ_comm _ _, maxZ_comm _ _, maxZ_comm _ _⟩
theorem same_assoc (a0 a1 a2 a3 b0 b1 b2 b3 c0 c1 c2 c3 : Int) : same4 (maxZ (maxZ a0 b0) c0) (maxZ (maxZ a1 b1) c1) (maxZ (maxZ a2 b2) c2) (maxZ (maxZ a3 b3) c3) (maxZ a0 (maxZ b0 c0)) (maxZ a1 (maxZ b1 c1)) (maxZ a2 (maxZ b2 c2)) (maxZ a3 (maxZ b3 c3)) = true := same4_iff.2 ⟨maxZ_assoc _ _ _, maxZ_assoc _ _ _, maxZ_assoc _ _ _, maxZ_assoc _ _ _⟩
theorem same_absorb (a0 a1 a2 a3 b0 b1 b2 b3 : Int) : same4 (maxZ a0 (minZ a0 b0)) (maxZ a1 (minZ a1 b1)) (maxZ a2 (minZ a2 b2)) (maxZ a3 (minZ a3 b3)) a0 a1 a2 a3 = true := same4_iff.2 ⟨maxZ_minZ _ _, maxZ_minZ _ _, maxZ_minZ _ _, maxZ_minZ _ _⟩

end Go.Proofs.YtknejedgddlabaaDoor

namespace Go.Proofs.YtknejedgddlabaaDoor
open Go.RowKit

/-- a number that lies between two -/
def inB (n lo hi : Int) : Bool := decide (lo ≤ n) && decide (n ≤ hi)
theorem inB_iff {n lo hi : Int} : inB n lo hi = true ↔ lo ≤ n ∧ n ≤ hi := by simp [inB]
theorem inB_time (n : Int) : inB n 0 1099511627776 = timeB n := rfl

set_option maxHeartbeats 400000 in
theorem inB_any (n lo hi : Int) (w : World) :
    Calls Tryd.prog 54 #[.int .i64 n, .int .i64 lo, .int .i64 hi] w fun e w' => e = .returned (.bool (inB n lo hi)) ∧ w' = w := by
  by_cases h0 : lo ≤ n
  · by_cases h1 : n ≤ hi
    · have e : inB n lo hi = true := by simp [inB, h0, h1]
      rw [e]
      go_enter Tryd.func54, Tryd.ntmps54
      go_wp2
      go_ret
      exact ⟨rfl, rfl⟩
    · have e : inB n lo hi = false := by simp [inB, h1]
      rw [e]
      go_enter Tryd.func54, Tryd.ntmps54
      go_wp2
      go_ret
      exact ⟨rfl, rfl⟩
  · have e : inB n lo hi = false := by simp [inB, h0]
    rw [e]
    go_enter Tryd.func54, Tryd.ntmps54
    go_wp2
    go_ret
    exact ⟨rfl, rfl⟩

/-- the same, where the answer is known -/
theorem inB_is {n lo hi : Int} {v : Bool} (h : inB n lo hi = v) (w : World) :
    Calls Tryd.prog 54 #[.int .i64 n, .int .i64 lo, .int .i64 hi] w fun e w' => e = .returned (.bool v) ∧ Below w.heap.size w w' := by
  subst h
  exact (inB_any n lo hi w).mono fun e w' ⟨he, hw⟩ => ⟨he, by rw [hw]; exact Below.refl _ _⟩

theorem in_any (n : Int) (w : World) :
    Calls Tryd.prog 54 #[.int .i64 n, .int .i64 0, .int .i64 1099511627776] w fun e w' => e = .returned (.bool (timeB n)) ∧ w' = w := inB_any n 0 1099511627776 w

end Go.Proofs.YtknejedgddlabaaDoor

namespace Go.Proofs.YtknejedgddlabaaDoor
open Go.RowKit

/-- a write: its key, its data, whether it is gone -/
structure Wr where
  key : Int
  data : ByteArray
  gone : Bool

/-- the n-th, or none -/
def wrAt (l : List Wr) (i : Nat) : Wr := l.getD i ⟨0, ⟨#[]⟩, false⟩

/-- the cells of a row of writes -/
def WrCells (w : World) (b off : Nat) (l : List Wr) : Prop :=
  ∀ i, i < l.length → w.cell? ⟨b, off + i * 3, none⟩ = some (.int .i64 (wrAt l i).key) ∧ w.cell? ⟨b, off + i * 3 + 1, none⟩ = some (.string (wrAt l i).data) ∧ w.cell? ⟨b, off + i * 3 + 1 + 1, none⟩ = some (.bool (wrAt l i).gone)

theorem WrCells.later {w w' : World} {b off : Nat} {l : List Wr} (hb : Below w.heap.size w w') (h : WrCells w b off l) : WrCells w' b off l := fun i hi =>
  ⟨cell_later hb (h i hi).1, cell_later hb (h i hi).2.1, cell_later hb (h i hi).2.2⟩

/-- the i-th of the writes may be: its key, above the one ahead; its data; none, if it is gone -/
def okAt (l : List Wr) (i : Nat) : Bool :=
  inB (wrAt l i).key 0 7 && !(decide (0 < i) && decide ((wrAt l i).key ≤ (wrAt l (i - 1)).key)) && decide ((wrAt l i).data.size ≤ 12) && !((wrAt l i).gone && !(wrAt l i).data.toList.isEmpty)
/-- the writes may be -/
def okWs (l : List Wr) : Bool := (List.range l.length).all (okAt l) && inB l.length 1 5

theorem okWs_bad {l : List Wr} {k : Nat} (hk : k < l.length) (h : okAt l k = false) : okWs l = false := by
  have e : (List.range l.length).all (okAt l) = false := by
    rw [List.all_eq_false]
    exact ⟨k, List.mem_range.2 hk, by simp [h]⟩
  simp [okWs, e]
theorem okWs_all {l : List Wr} (h : ∀ j, j < l.length → okAt l j = true) : okWs l = inB l.length 1 5 := by
  have e : (List.range l.length).all (okAt l) = true := by
    rw [List.all_eq_true]
    exact fun j hj => h j (List.mem_range.1 hj)
  simp [okWs, e]

/-- the same of a write, at which place, behind which key -/
def okV (k : Nat) (prev : Int) (x : Wr) : Bool :=
  inB x.key 0 7 && !(decide (0 < k) && decide (x.key ≤ prev)) && decide (x.data.size ≤ 12) && !(x.gone && !x.data.toList.isEmpty)
theorem okAt_eq {l : List Wr} {k : Nat} {x : Wr} (h : wrAt l k = x) : okAt l k = okV k (wrAt l (k - 1)).key x := by rw [← h]; rfl
theorem okv_key {k : Nat} {p key : Int} {data : ByteArray} {gone : Bool} (h : inB key 0 7 = false) : okV k p ⟨key, data, gone⟩ = false := by simp [okV, h]
theorem okv_prev {k : Nat} {p key : Int} {data : ByteArray} {gone : Bool} (h0 : 0 < k) (h : key ≤ p) : okV k p ⟨key, data, gone⟩ = false := by simp [okV, h0, h]
theorem okv_len {k : Nat} {p key : Int} {data : ByteArray} {gone : Bool} (h : 12 < (data.size : Int)) : okV k p ⟨key, data, gone⟩ = false := by
  have e : decide (data.size ≤ 12) = false := decide_eq_false (by omega)
  simp [okV, e]
theorem okv_gone {k : Nat} {p key : Int} {data : ByteArray} {gone : Bool} (h : gone = true) (he : data.toList.isEmpty = false) : okV k p ⟨key, data, gone⟩ = false := by simp [okV, h, he]
theorem okv_good {k : Nat} {p key : Int} {data : ByteArray} {gone : Bool} (h : inB key 0 7 = true) (h0 : k = 0 ∨ ¬ key ≤ p) (hl : ¬ 12 < (data.size : Int)) (hg : gone = false ∨ data.toList.isEmpty = true) : okV k p ⟨key, data, gone⟩ = true := by
  have e : decide (data.size ≤ 12) = true := decide_eq_true (by omega)
  have e2 : (!(decide (0 < k) && decide (key ≤ p))) = true := by
    rcases h0 with h0 | h0
    · simp [h0]
    · simp only [decide_eq_false h0, Bool.and_false, Bool.not_false]
  have e3 : (!(gone && !data.toList.isEmpty)) = true := by
    rcases hg with hg | hg <;> simp [hg]
  simp only [okV, h, e, e2, e3, Bool.and_self]
theorem ok_next {l : List Wr} {k : Nat} (h : ∀ j, j < k → okAt l j = true) (hk : okAt l k = true) : ∀ j, j < k + 1 → okAt l j = true := fun j hj => by
  rcases Nat.lt_or_ge j k with h1 | h1
  · exact h j h1
  · obtain rfl : j = k := by omega
    exact hk

/-- a slice value that holds the writes l: none, or its cells lie in one block -/
structure WrIn (w : World) (a : Option Addr) (cap : Nat) (l : List Wr) : Prop where
  len : l.length ≤ cap
  cap : cap ≤ 9223372036854775807
  held : l = [] ∨ ∃ b off, a = some ⟨b, off, none⟩ ∧ WrCells w b off l

theorem WrIn.later {w w' : World} {a : Option Addr} {cap : Nat} {l : List Wr} (hb : Below w.heap.size w w') (h : WrIn w a cap l) : WrIn w' a cap l :=
  ⟨h.len, h.cap, h.held.elim .inl fun ⟨b, off, e, c⟩ => .inr ⟨b, off, e, c.later hb⟩⟩

/-- the dependency of a site -/
def depOf (site d0 d1 d2 d3 : Int) : Int := if site = 0 then d0 else if site = 1 then d1 else if site = 2 then d2 else d3
/-- a transaction may be -/
def okTx (site seq wall count d0 d1 d2 d3 : Int) (l : List Wr) : Bool :=
  inB site 0 3 && inB seq 1 1099511627776 && (timeB wall && timeB count) && timesB d0 d1 d2 d3 && decide (depOf site d0 d1 d2 d3 = seq - 1) && okWs l

/-- 1 if it is gone, else 0 -/
def flagS (g : Bool) : ByteArray := if g then ⟨#[1]⟩ else ⟨#[0]⟩
/-- a write's bytes behind others -/
def stepS (s : ByteArray) (x : Wr) : ByteArray := s ++ numS 5 x.key ++ flagS x.gone ++ (numS 5 (x.data.size : Int) ++ x.data)
/-- writes' bytes behind others -/
def wrS (s : ByteArray) (l : List Wr) : ByteArray := l.foldl stepS s
/-- all but the writes -/
def headS (site seq wall count d0 d1 d2 d3 : Int) (n : Int) : ByteArray := (⟨#[116]⟩ : ByteArray) ++ numS 5 site ++ numS 5 seq ++ numS 5 wall ++ numS 5 count ++ numS 5 d0 ++ numS 5 d1 ++ numS 5 d2 ++ numS 5 d3 ++ numS 5 n
/-- a transaction's bytes -/
def txS (site seq wall count d0 d1 d2 d3 : Int) (l : List Wr) : ByteArray := wrS (headS site seq wall count d0 d1 d2 d3 l.length) l

theorem flagS_size (g : Bool) : (flagS g).size = 1 := by cases g <;> rfl
theorem wrS_snoc {s : ByteArray} {l : List Wr} {k : Nat} (hk : k < l.length) : wrS s (l.take (k + 1)) = stepS (wrS s (l.take k)) (wrAt l k) := by
  unfold wrS
  rw [List.take_succ_eq_append_getElem hk, List.foldl_append]
  simp [wrAt, List.getD, List.getElem?_eq_getElem hk]
theorem stepS_size (s : ByteArray) (x : Wr) (h : x.data.size ≤ 12) : (stepS s x).size ≤ s.size + 25 := by
  have a := numS_size 5 x.key
  have b := numS_size 5 (x.data.size : Int)
  simp only [stepS, ByteArray.size_append, flagS_size]
  omega
theorem okAt_size {l : List Wr} {k : Nat} (h : okAt l k = true) : (wrAt l k).data.size ≤ 12 := by
  simp only [okAt, Bool.and_eq_true, decide_eq_true_eq] at h
  exact h.1.2
theorem okAt_key {l : List Wr} {k : Nat} (h : okAt l k = true) : 0 ≤ (wrAt l k).key ∧ (wrAt l k).key ≤ 7 := by
  simp only [okAt, Bool.and_eq_true, inB_iff] at h
  exact h.1.1.1
theorem wrS_size {s : ByteArray} {l : List Wr} (h : ∀ j, j < l.length → okAt l j = true) : ∀ k, k ≤ l.length → (wrS s (l.take k)).size ≤ s.size + 25 * k
  | 0, _ => by simp [wrS]
  | k + 1, hk => by
    rw [wrS_snoc (by omega)]
    have a := wrS_size (s := s) h k (by omega)
    have b := stepS_size (wrS s (l.take k)) (wrAt l k) (okAt_size (h k (by omega)))
    omega
theorem headS_size (site seq wall count d0 d1 d2 d3 n : Int) : (headS site seq wall count d0 d1 d2 d3 n).size ≤ 55 := by
  have a := numS_size 5 site
  have b := numS_size 5 seq
  have c := numS_size 5 wall
  have d := numS_size 5 count
  have e := numS_size 5 d0
  have f := numS_size 5 d1
  have g := numS_size 5 d2
  have h := numS_size 5 d3
  have i := numS_size 5 n
  have z : (⟨#[116]⟩ : ByteArray).size = 1 := rfl
  simp only [headS, ByteArray.size_append]
  omega
theorem okWs_each {l : List Wr} (h : okWs l = true) : ∀ j, j < l.length → okAt l j = true := fun j hj => by
  simp only [okWs, Bool.and_eq_true, List.all_eq_true] at h
  exact h.1 j (List.mem_range.2 hj)
theorem okWs_len {l : List Wr} (h : okWs l = true) : 1 ≤ l.length ∧ l.length ≤ 5 := by
  simp only [okWs, Bool.and_eq_true, inB_iff] at h
  omega

/-- writes that are small enough to be held -/
def fewB (l : List Wr) : Bool := decide (l.length ≤ 20) && (List.range l.length).all fun i => decide ((wrAt l i).data.size ≤ 100)
theorem fewB_many {l : List Wr} (h : 20 < (l.length : Int)) : fewB l = false := by
  have e : decide (l.length ≤ 20) = false := decide_eq_false (by omega)
  simp [fewB, e]
theorem fewB_big {l : List Wr} {k : Nat} (hk : k < l.length) (h : 100 < ((wrAt l k).data.size : Int)) : fewB l = false := by
  have e : ((List.range l.length).all fun i => decide ((wrAt l i).data.size ≤ 100)) = false := by
    rw [List.all_eq_false]
    exact ⟨k, List.mem_range.2 hk, by simp; omega⟩
  simp [fewB, e]
theorem fewB_all {l : List Wr} (h : ¬ 20 < (l.length : Int)) (ha : ∀ j, j < l.length → (wrAt l j).data.size ≤ 100) : fewB l = true := by
  have e : ((List.range l.length).all fun i => decide ((wrAt l i).data.size ≤ 100)) = true := by
    rw [List.all_eq_true]
    exact fun j hj => decide_eq_true (ha j (List.mem_range.1 hj))
  have e2 : decide (l.length ≤ 20) = true := decide_eq_true (by omega)
  simp only [fewB, e, e2, Bool.and_self]
theorem fewB_iff {l : List Wr} (h : fewB l = true) : l.length ≤ 20 ∧ ∀ j, j < l.length → (wrAt l j).data.size ≤ 100 := by
  simp only [fewB, Bool.and_eq_true, List.all_eq_true, decide_eq_true_eq] at h
  exact ⟨h.1, fun j hj => h.2 j (List.mem_range.2 hj)⟩

end Go.Proofs.YtknejedgddlabaaDoor

namespace Go.Proofs.YtknejedgddlabaaDoor
open Go.ChangeShapes Go.WideShapes Go.ChangeAt Go.RowKit Go.Joins Go.Deep
set_option maxRecDepth 100000

theorem cellsS : Tryd.prog.cellsOf 23 = 2 := by kernel_rfl
theorem cellsV : Tryd.prog.cellsOf 37 = 4 := by kernel_rfl
theorem cellsTx : Tryd.prog.cellsOf 40 = 9 := by kernel_rfl
theorem cellsWs : Tryd.prog.cellsOf 38 = 1 := by kernel_rfl
theorem cellsWr : Tryd.prog.cellsOf 115 = 3 := by kernel_rfl
theorem cellsStr : Tryd.prog.cellsOf 9 = 1 := by kernel_rfl
theorem cellsBool : Tryd.prog.cellsOf 4 = 1 := by kernel_rfl

theorem array9 {α : Type} {cs : Array α} (h : cs.size = 9) : ∃ c0 c1 c2 c3 c4 c5 c6 c7 c8, cs = #[c0, c1, c2, c3, c4, c5, c6, c7, c8] := by
  obtain ⟨l⟩ := cs
  match l, h with
  | [c0, c1, c2, c3, c4, c5, c6, c7, c8], _ => exact ⟨c0, c1, c2, c3, c4, c5, c6, c7, c8, rfl⟩

theorem list3 {α : Type} {l : List α} (h : l.length = 3) : ∃ a b c, l = [a, b, c] := by
  match l, h with
  | [a, b, c], _ => exact ⟨a, b, c, rfl⟩
theorem list5 {α : Type} {l : List α} (h : l.length = 5) : ∃ a b c d e, l = [a, b, c, d, e] := by
  match l, h with
  | [a, b, c, d, e], _ => exact ⟨a, b, c, d, e, rfl⟩
theorem addPlain (b off i : Nat) : (⟨b, off, none⟩ : Addr).add i = ⟨b, off + i, none⟩ := by unfold Addr.add; split <;> simp_all

section
variable {H : Type} {enc : TypeId × Value → H} {W : World}

/-- a write's three cells -/
theorem open_write {fuel : Nat} {cs : List Value} {x : DataW H × List MemPlace} (h : DataW.trod enc Tryd.prog W 0 (fun _ => true) true fuel 115 cs = some x) :
    ∃ y : Wr, cs = [.int .i64 y.key, .string y.data, .bool y.gone] := by
  obtain ⟨y0, y1, y2, n, _, hl, h0, h1, h2⟩ := trod_struct3 Tryd.underlying115 h
  rw [cellsWr] at hl
  obtain ⟨c0, c1, c2, rfl⟩ := list3 hl
  · obtain ⟨key, e0, _, _⟩ := DataW.trod_int Tryd.underlying3 h0
    obtain ⟨data, e1, _, _⟩ := DataW.trod_string Tryd.underlying9 h1
    obtain ⟨gone, e2, _⟩ := DataW.trod_bool Tryd.underlying4 h2
    simp [cellsInt, cellsStr, cellsBool] at e0 e1 e2
    subst e0 e1 e2
    exact ⟨⟨key, data, gone⟩, rfl⟩

/-- a slice of writes: the writes, where they lie -/
theorem open_writes {fuel : Nat} {c : Value} {x : DataW H × List MemPlace} (h : DataW.trod enc Tryd.prog W 0 (fun _ => true) true fuel 38 [c] = some x) :
    ∃ (a : Option Addr) (cap : Nat) (l : List Wr), c = .slice a l.length cap ∧ WrIn W a cap l := by
  rcases open_slice Tryd.underlying38 h with ⟨hc, _⟩ | ⟨a, len, cap, m, n, D, Pl, hc, _, hl, hm, hmm, _, hx⟩
  · simp at hc
    exact ⟨none, 0, [], by simpa using hc, ⟨by simp, by omega, .inl rfl⟩⟩
  · simp at hc
    subst hc
    simp at hmm
    have hcap : cap ≤ 9223372036854775807 := by unfold maxLen at hm; omega
    rcases Nat.eq_zero_or_pos len with rfl | hpos
    · exact ⟨some a, cap, [], rfl, ⟨by simp, hcap, .inl rfl⟩⟩
    · have inh : Inhabited Wr := ⟨⟨0, ⟨#[]⟩, false⟩⟩
      have hx' : ∀ i, i < len → ∃ y : Wr, W.cell? (a.add (i * 3)) = some (.int .i64 y.key) ∧ W.cell? ((a.add (i * 3)).add 1) = some (.string y.data) ∧ W.cell? ((a.add (i * 3)).add 2) = some (.bool y.gone) := fun i hi => by
        obtain ⟨cs', h1, h2⟩ := hx i (by omega)
        rw [cellsWr] at h1
        obtain ⟨y, rfl⟩ := open_write h2
        obtain ⟨_, _, hcell⟩ := World.cells?_some h1
        have k0 := hcell 0 (by omega)
        have k1 := hcell 1 (by omega)
        have k2 := hcell 2 (by omega)
        exact ⟨y, by simpa [Addr.add] using k0, by simpa using k1, by simpa using k2⟩
      obtain ⟨f, hf⟩ := choose_lt hx'
      obtain ⟨b, off, spot⟩ := a
      have hspot : spot = none := by simpa [Addr.add] using World.cell?_spot (hf 0 hpos).1
      subst hspot
      refine ⟨some ⟨b, off, none⟩, cap, (List.range len).map f, by simp, ⟨by simpa using hl, hcap, .inr ⟨b, off, rfl, fun i hi => ?_⟩⟩⟩
      have hi' : i < len := by simpa using hi
      have e : wrAt ((List.range len).map f) i = f i := by simp [wrAt, List.getD, hi']
      rw [e]
      have := hf i hi'
      simp only [addPlain] at this
      exact this

/-- a transaction by value, opened -/
theorem open_tx {r : Reach} {b0 : Nat} {v : Value} {d : DataW H} {p : List MemPlace}
    (hv : Value.okWide Tryd.prog W r b0 40 v) (h : DataW.Trod enc Tryd.prog W 0 (fun _ => true) true 40 v d p) :
    ∃ (site seq wall count d0 d1 d2 d3 : Int) (a : Option Addr) (cap : Nat) (l : List Wr), v = .agg #[.int .i64 site, .int .i64 seq, .int .i64 wall, .int .i64 count, .int .i64 d0, .int .i64 d1, .int .i64 d2, .int .i64 d3, .slice a l.length cap] ∧ WrIn W a cap l := by
  simp only [Value.okWide, Tryd.underlying40] at hv
  obtain ⟨cs, rfl, hsz, _⟩ := hv
  obtain ⟨c0, c1, c2, c3, c4, c5, c6, c7, c8, rfl⟩ := array9 (hsz.trans cellsTx)
  obtain ⟨fuel, hf⟩ := h
  obtain ⟨xs, n, _, _, _, hlen, hfl⟩ := DataW.trod_struct Tryd.underlying40 hf
  obtain ⟨y0, y1, y2, y3, y4, rfl⟩ := list5 hlen
  · have f0 := hfl 0 _ rfl
    have f1 := hfl 1 _ rfl
    have f2 := hfl 2 _ rfl
    have f3 := hfl 3 _ rfl
    have f4 := hfl 4 _ rfl
    simp [Value.cells, cellsInt, cellsS, cellsV, cellsWs] at f0 f1 f2 f3 f4
    obtain ⟨site, e0, _, _⟩ := DataW.trod_int Tryd.underlying3 f0
    obtain ⟨seq, e1, _, _⟩ := DataW.trod_int Tryd.underlying3 f1
    obtain ⟨z0, z1, n2, _, _, g0, g1⟩ := trod_struct2 Tryd.underlying23 f2
    obtain ⟨wall, e2, _, _⟩ := DataW.trod_int Tryd.underlying3 g0
    obtain ⟨count, e3, _, _⟩ := DataW.trod_int Tryd.underlying3 g1
    obtain ⟨u0, u1, u2, u3, m, _, q0, q1, q2, q3⟩ := trod_array4 Tryd.underlying37 cellsInt f3
    obtain ⟨d0, e4, _, _⟩ := DataW.trod_int Tryd.underlying3 q0
    obtain ⟨d1, e5, _, _⟩ := DataW.trod_int Tryd.underlying3 q1
    obtain ⟨d2, e6, _, _⟩ := DataW.trod_int Tryd.underlying3 q2
    obtain ⟨d3, e7, _, _⟩ := DataW.trod_int Tryd.underlying3 q3
    obtain ⟨a, cap, l, e8, hW⟩ := open_writes f4
    simp [cellsInt] at e0 e1 e2 e3 e4 e5 e6 e7
    subst e0 e1 e2 e3 e4 e5 e6 e7 e8
    exact ⟨_, _, _, _, _, _, _, _, _, _, _, rfl, hW⟩

end
end Go.Proofs.YtknejedgddlabaaDoor

namespace Go.Proofs.YtknejedgddlabaaDoor
open Go.ChangeShapes Go.WideShapes Go.ChangeAt Go.RowKit Go.Joins Go.Deep
set_option maxRecDepth 100000

/-- what is said: at which site, when, how much comes ahead of it, and its writes -/
structure SayV where
  site : Int
  now : Int
  comes : Int
  ws : List Wr
  wa : Option Addr
  wc : Nat
/-- its cells -/
def sayC (p : SayV) : List Value := [.int .i64 p.site, .int .i64 p.now, .int .i64 p.comes, .slice p.wa p.ws.length p.wc]
def say0 : SayV := ⟨0, 0, 0, [], none, 0⟩
def sayAt (l : List SayV) (i : Nat) : SayV := l.getD i say0

/-- a slice that holds them: none, or its cells lie in one block; their writes lie where they say -/
structure SayIn (w : World) (a : Option Addr) (cap : Nat) (l : List SayV) : Prop where
  len : l.length ≤ cap
  cap : cap ≤ 9223372036854775807
  held : l = [] ∨ ∃ b off, a = some ⟨b, off, none⟩ ∧ ∀ i r u, i < l.length → (sayC (sayAt l i))[r]? = some u → w.cell? ⟨b, off + (i * 4 + r), none⟩ = some u
  wr : ∀ i, i < l.length → WrIn w (sayAt l i).wa (sayAt l i).wc (sayAt l i).ws
theorem SayIn.later {w w' : World} {a : Option Addr} {cap : Nat} {l : List SayV} (hb : Below w.heap.size w w') (h : SayIn w a cap l) : SayIn w' a cap l :=
  ⟨h.len, h.cap, h.held.elim .inl fun ⟨b, off, e, c⟩ => .inr ⟨b, off, e, fun i r u hi hu => cell_later hb (c i r u hi hu)⟩, fun i hi => (h.wr i hi).later hb⟩
/-- a slice that holds ints -/
structure IntsIn (w : World) (a : Option Addr) (cap : Nat) (l : List Int) : Prop where
  len : l.length ≤ cap
  cap : cap ≤ 9223372036854775807
  held : l = [] ∨ ∃ b off, a = some ⟨b, off, none⟩ ∧ ∀ i x, l[i]? = some x → w.cell? ⟨b, off + i, none⟩ = some (.int .i64 x)
theorem IntsIn.later {w w' : World} {a : Option Addr} {cap : Nat} {l : List Int} (hb : Below w.heap.size w w') (h : IntsIn w a cap l) : IntsIn w' a cap l :=
  ⟨h.len, h.cap, h.held.elim .inl fun ⟨b, off, e, c⟩ => .inr ⟨b, off, e, fun i x hx => cell_later hb (c i x hx)⟩⟩

theorem cellsSay : Tryd.prog.cellsOf 97 = 4 := by kernel_rfl
theorem list4s {α : Type} {l : List α} (h : l.length = 4) : ∃ a b c d, l = [a, b, c, d] := by
  match l, h with
  | [a, b, c, d], _ => exact ⟨a, b, c, d, rfl⟩
theorem list1s {α : Type} {l : List α} (h : l.length = 1) : ∃ a, l = [a] := by
  match l, h with
  | [a], _ => exact ⟨a, rfl⟩

section
variable {H : Type} {enc : TypeId × Value → H} {W : World}

/-- four cells -/
theorem open_say {fuel : Nat} {cs : List Value} {x : DataW H × List MemPlace} (h : DataW.trod enc Tryd.prog W 0 (fun _ => true) true fuel 97 cs = some x) : ∃ p : SayV, cs = sayC p ∧ WrIn W p.wa p.wc p.ws := by
  obtain ⟨xs, n, _, _, hl, hlen, hfl⟩ := DataW.trod_struct Tryd.underlying97 h
  rw [cellsSay] at hl
  obtain ⟨c0, c1, c2, c3, rfl⟩ := list4s hl
  obtain ⟨y0, y1, y2, y3, rfl⟩ := list4s hlen
  have f0 := hfl 0 _ rfl
  have f1 := hfl 1 _ rfl
  have f2 := hfl 2 _ rfl
  have f3 := hfl 3 _ rfl
  simp [cellsInt, cellsWs] at f0 f1 f2 f3
  obtain ⟨si, e0, _, _⟩ := DataW.trod_int Tryd.underlying3 f0
  obtain ⟨no, e1, _, _⟩ := DataW.trod_int Tryd.underlying3 f1
  obtain ⟨co, e2, _, _⟩ := DataW.trod_int Tryd.underlying3 f2
  obtain ⟨a, cap, l, e3, hW⟩ := open_writes f3
  simp at e0 e1 e2
  refine ⟨⟨si, no, co, l, a, cap⟩, ?_, hW⟩
  unfold sayC
  rw [e0, e1, e2, e3]

/-- a slice of them: they, where they lie -/
theorem open_says {r : Reach} {b0 : Nat} {v : Value} {d : DataW H} {p : List MemPlace}
    (hv : Value.okWide Tryd.prog W r b0 94 v) (h : DataW.Trod enc Tryd.prog W 0 (fun _ => true) true 94 v d p) :
    ∃ (a : Option Addr) (cap : Nat) (l : List SayV), v = .slice a l.length cap ∧ SayIn W a cap l := by
  obtain ⟨a0, len0, cap0, rfl⟩ := okWide_slice Tryd.underlying94 hv
  obtain ⟨fuel, hf⟩ := h
  rcases open_slice Tryd.underlying94 hf with ⟨hc, _⟩ | ⟨a, len, cap, m, n, D, Pl, hc, _, hl, hm, hmm, _, hx⟩
  · have e : Value.slice a0 len0 cap0 = .slice none 0 0 := by simpa [Value.cells] using hc
    rw [e]
    exact ⟨none, 0, [], rfl, ⟨by simp, by omega, .inl rfl, fun i hi => by simp at hi⟩⟩
  · have e : Value.slice a0 len0 cap0 = .slice (some a) len cap := by simpa [Value.cells] using hc
    rw [e]
    simp at hmm
    have hcap : cap ≤ 9223372036854775807 := by unfold maxLen at hm; omega
    rcases Nat.eq_zero_or_pos len with rfl | hpos
    · exact ⟨some a, cap, [], rfl, ⟨by simp, hcap, .inl rfl, fun i hi => by simp at hi⟩⟩
    · have inh : Inhabited SayV := ⟨say0⟩
      have hx' : ∀ i, i < len → ∃ y : SayV, (∀ r u, (sayC y)[r]? = some u → W.cell? ((a.add (i * 4)).add r) = some u) ∧ WrIn W y.wa y.wc y.ws := fun i hi => by
        obtain ⟨cs', h1, h2⟩ := hx i (by omega)
        rw [cellsSay] at h1
        obtain ⟨y, rfl, hW⟩ := open_say h2
        obtain ⟨_, _, hcell⟩ := World.cells?_some h1
        refine ⟨y, fun r u hu => ?_, hW⟩
        have hr : r < 4 := by have := (List.getElem?_eq_some_iff.1 hu).1; simpa [sayC] using this
        have := hcell r hr
        rw [this]
        exact hu
      obtain ⟨f, hf⟩ := choose_lt hx'
      obtain ⟨b, off, spot⟩ := a
      have hspot : spot = none := by simpa [Addr.add] using World.cell?_spot ((hf 0 hpos).1 0 _ rfl)
      subst hspot
      have ea : ∀ i, i < len → sayAt ((List.range len).map f) i = f i := fun i hi => by simp [sayAt, List.getD, hi]
      refine ⟨some ⟨b, off, none⟩, cap, (List.range len).map f, by simp, ⟨by simpa using hl, hcap, .inr ⟨b, off, rfl, fun i r u hi hu => ?_⟩, fun i hi => ?_⟩⟩
      · have hi' : i < len := by simpa using hi
        rw [ea i hi'] at hu
        have := (hf i hi').1 r u hu
        simp only [addPlain] at this
        rw [← Nat.add_assoc]
        exact this
      · have hi' : i < len := by simpa using hi
        rw [ea i hi']
        exact (hf i hi').2

/-- a slice of ints -/
theorem open_ints {r : Reach} {b0 : Nat} {v : Value} {d : DataW H} {p : List MemPlace}
    (hv : Value.okWide Tryd.prog W r b0 95 v) (h : DataW.Trod enc Tryd.prog W 0 (fun _ => true) true 95 v d p) :
    ∃ (a : Option Addr) (cap : Nat) (l : List Int), v = .slice a l.length cap ∧ IntsIn W a cap l := by
  obtain ⟨a0, len0, cap0, rfl⟩ := okWide_slice Tryd.underlying95 hv
  obtain ⟨fuel, hf⟩ := h
  rcases open_slice Tryd.underlying95 hf with ⟨hc, _⟩ | ⟨a, len, cap, m, n, D, Pl, hc, _, hl, hm, hmm, _, hx⟩
  · have e : Value.slice a0 len0 cap0 = .slice none 0 0 := by simpa [Value.cells] using hc
    rw [e]
    exact ⟨none, 0, [], rfl, ⟨by simp, by omega, .inl rfl⟩⟩
  · have e : Value.slice a0 len0 cap0 = .slice (some a) len cap := by simpa [Value.cells] using hc
    rw [e]
    simp at hmm
    have hcap : cap ≤ 9223372036854775807 := by unfold maxLen at hm; omega
    rcases Nat.eq_zero_or_pos len with rfl | hpos
    · exact ⟨some a, cap, [], rfl, ⟨by simp, hcap, .inl rfl⟩⟩
    · have inh : Inhabited Int := ⟨0⟩
      have hx' : ∀ i, i < len → ∃ y : Int, W.cell? (a.add i) = some (.int .i64 y) := fun i hi => by
        obtain ⟨cs', h1, h2⟩ := hx i (by omega)
        rw [cellsInt] at h1
        obtain ⟨y, e0, _, _⟩ := DataW.trod_int Tryd.underlying3 h2
        subst e0
        obtain ⟨_, _, hcell⟩ := World.cells?_some h1
        have := hcell 0 (by omega)
        simp only [Nat.mul_one] at this
        refine ⟨y, ?_⟩
        simpa [Addr.add] using this
      obtain ⟨f, hf⟩ := choose_lt hx'
      obtain ⟨b, off, spot⟩ := a
      have hspot : spot = none := by simpa [Addr.add] using World.cell?_spot (hf 0 hpos)
      subst hspot
      refine ⟨some ⟨b, off, none⟩, cap, (List.range len).map f, by simp, ⟨by simpa using hl, hcap, .inr ⟨b, off, rfl, fun i x hi => ?_⟩⟩⟩
      have hi' : i < len := by
        have := (List.getElem?_eq_some_iff.1 hi).1
        simpa using this
      have e : x = f i := by
        rw [List.getElem?_map, List.getElem?_range hi'] at hi
        simpa using hi.symm
      have := hf i hi'
      simp only [addPlain] at this
      rw [e]
      exact this

end
end Go.Proofs.YtknejedgddlabaaDoor

namespace Go.Proofs.YtknejedgddlabaaDoor
open Go.RowKit

/-- block g, at or behind B, holds the bytes S, with room up to cap -/
structure Own (w : World) (B g cap : Nat) (S : ByteArray) : Prop where
  base : B ≤ g
  lt : g < w.heap.size
  room : S.size ≤ cap
  most : cap ≤ maxLen
  have_ : ∀ j u, (byteCells S)[j]? = some u → w.cell? ⟨g, j, none⟩ = some u
  there : ∀ j, j < cap → (w.cell? ⟨g, j, none⟩).isSome = true
  free : ∀ j, j < cap → w.frozen? ⟨g, j, none⟩ = false

theorem Own.kept {w w' : World} {B g cap : Nat} {S : ByteArray} (h : Own w B g cap S) (hb : w'.heap[g]? = w.heap[g]?) (hs : w.heap.size ≤ w'.heap.size) : Own w' B g cap S :=
  ⟨h.base, Nat.lt_of_lt_of_le h.lt hs, h.room, h.most, fun j u hu => by rw [World.cell?_of_block (w := w) hb]; exact h.have_ j u hu,
    fun j hj => by rw [World.cell?_of_block (w := w) hb]; exact h.there j hj, fun j hj => by rw [World.frozen?_of_block (w := w) hb]; exact h.free j hj⟩
theorem Own.later {w w' : World} {B g cap : Nat} {S : ByteArray} (h : Own w B g cap S) (hb : Below w.heap.size w w') : Own w' B g cap S := h.kept (hb.block g h.lt) hb.size
theorem Own.alloc {w : World} {B g cap : Nat} {S : ByteArray} (h : Own w B g cap S) (o : Obj) : Own (w.alloc o) B g cap S := h.later (boxed (Below.refl _ _) o)

theorem byteCells_append (a b : ByteArray) : byteCells (a ++ b) = byteCells a ++ byteCells b := by
  unfold byteCells
  rw [ByteArray.data_append, Array.toList_append, List.map_append]
theorem byteCells_one {n : Int} (h0 : 0 ≤ n) (h1 : n < 256) : byteCells (byteS n) = [.int .u8 n] := by
  have e : (UInt8.ofNat n.toNat).toNat = n.toNat := by
    rw [UInt8.toNat_ofNat']
    exact Nat.mod_eq_of_lt (by omega)
  show [Value.int .u8 (UInt8.ofNat n.toNat).toNat] = _
  rw [e, Int.toNat_of_nonneg h0]

theorem Own.mono {w : World} {B B' g cap : Nat} {S : ByteArray} (h : Own w B g cap S) (hB : B' ≤ B) : Own w B' g cap S := ⟨Nat.le_trans hB h.base, h.lt, h.room, h.most, h.have_, h.there, h.free⟩

/-- '[]byte("t")': a row of one byte, new -/
theorem Own.one (w : World) (B : Nat) (e : TypeId) {n : Int} (h0 : 0 ≤ n) (h1 : n < 256) (hB : B ≤ w.heap.size) : Own (w.alloc (.cells #[.int .u8 n] e (1, 2))) B w.heap.size 1 (byteS n) := by
  have hcell : ∀ j, (w.alloc (.cells #[.int .u8 n] e (1, 2))).cell? ⟨w.heap.size, j, none⟩ = (#[Value.int .u8 n])[j]? := fun j => cell_of_row _ w.heap.size j _ e (1, 2) (heap_alloc_new w (.cells #[.int .u8 n] e (1, 2)))
  refine ⟨hB, by simp, Nat.le_refl _, by simp [maxLen], fun j u hu => ?_, fun j hj => ?_, fun j hj => ?_⟩
  · rw [byteCells_one h0 h1] at hu
    rw [hcell]
    simpa using hu
  · obtain rfl : j = 0 := by omega
    rw [hcell]
    rfl
  · obtain rfl : j = 0 := by omega
    have hn := heap_alloc_new w (.cells #[.int .u8 n] e (1, 2))
    unfold World.frozen?
    rw [hn]
    rfl

/-- block g alone was written, and new ones -/
abbrev Only (g : Nat) (w w' : World) : Prop := w.grownBy w' (some g)

theorem Only.refl (g : Nat) (w : World) : Only g w w := ⟨rfl, rfl, rfl, Nat.le_refl _, fun _ _ _ => rfl⟩
theorem Only.trans {g g' : Nat} {a b c : World} (h : Only g a b) (k : Only g' b c) (e : g' = g ∨ a.heap.size ≤ g') : Only g a c :=
  ⟨k.os.trans h.os, k.tape.trans h.tape, k.output.trans h.output, Nat.le_trans h.size k.size, fun i hi hne =>
    (k.block i (Nat.lt_of_lt_of_le hi h.size) (fun x => by
      injection x with x
      rcases e with e | e
      · exact hne (by rw [x, e])
      · omega)).trans (h.block i hi hne)⟩
theorem Only.ofBelow {g : Nat} {w w' : World} (h : Below w.heap.size w w') : Only g w w' := ⟨h.os, h.tape, h.output, h.size, fun k hk _ => h.block k hk⟩
theorem Only.below {g B : Nat} {w w' : World} (h : Only g w w') (hg : B ≤ g) (hB : B ≤ w.heap.size) : Below B w w' :=
  ⟨h.os, h.tape, h.output, h.size, fun k hk => h.block k (by omega) (fun x => by injection x with x; omega)⟩
theorem Only.cell {g : Nat} {w w' : World} (h : Only g w w') {p : Addr} {v : Value} (hc : w.cell? p = some v) (hne : p.block ≠ g) : w'.cell? p = some v := World.grownBy.cell h hc (fun x => by injection x with x; exact hne x)

theorem only_setCells (g : Nat) : ∀ (vs : List Value) (o : Nat) (w : World), Only g w (w.setCells g o vs)
  | [], _, w => Only.refl g w
  | v :: vs, o, w =>
    have h1 : Only g w (w.setCell ⟨g, o, none⟩ v) := ⟨rfl, rfl, rfl, by simp [World.setCell], fun k _ hk => Below.heap_setCell w ⟨g, o, none⟩ v k (fun e => hk (by rw [e]))⟩
    Only.trans h1 (only_setCells g vs (o + 1) (w.setCell ⟨g, o, none⟩ v)) (.inl rfl)

/-- the law of an append of bytes, wherever they come from -/
theorem run_append_bytes {P : Program} {w : World} (t tx ty e : TypeId) (ht : P.underlying t = some (.slice e)) (hI : (P.info? e).map (fun i => (i.zero, i.size, i.bytes)) = some (some (.int .u8 0), 1, 1))
    {B g cap : Nat} {S : ByteArray} (hown : Own w B g cap S) (T : ByteArray) (v : Value) (hsrc : Src P 1 tx v T.size (byteCells T) w) (hsz : S.size + T.size ≤ 1000000) (hB : B ≤ w.heap.size) :
    ∃ g' cap' w', (Builtin.append_ #[t, tx] ty #[.slice (some ⟨g, 0, none⟩) S.size cap, v]).run P w = .ok (.slice (some ⟨g', 0, none⟩) (S ++ T).size cap') w' ∧ Own w' B g' cap' (S ++ T) ∧ (g' = g ∨ g' = w.heap.size) ∧ Only g w w' := by
  obtain ⟨i, hi, hz, hs1, hb1⟩ := info_parts hI
  have hl : (byteCells T).length = T.size := byteCells_length T
  have hl0 : (byteCells S).length = S.size := byteCells_length S
  rw [ByteArray.size_append]
  by_cases hroom : S.size + T.size ≤ cap
  · have hc : ∀ j, j < (byteCells T).length → (w.cell? ⟨g, 0 + S.size * i.size + j, none⟩).isSome = true := fun j hj => by
      rw [hs1, Nat.mul_one, Nat.zero_add]; exact hown.there _ (by omega)
    have hf : ∀ j, j < (byteCells T).length → w.frozen? ⟨g, 0 + S.size * i.size + j, none⟩ = false := fun j hj => by
      rw [hs1, Nat.mul_one, Nat.zero_add]; exact hown.free _ (by omega)
    have hr := run_append_room_src (P := P) w t tx ty e i ht hi g 0 S.size cap v T.size (byteCells T) (by rw [hs1]; exact hsrc) hroom hc hf
    rw [hs1, Nat.mul_one, Nat.zero_add] at hr
    rw [hs1, Nat.mul_one, Nat.zero_add] at hc
    refine ⟨g, cap, _, hr, ⟨hown.base, Nat.lt_of_lt_of_le hown.lt (only_setCells g _ _ w).size, by rw [ByteArray.size_append]; exact hroom, hown.most, ?_, ?_, ?_⟩, .inl rfl, only_setCells g _ _ w⟩
    · intro j u hu
      rw [byteCells_append] at hu
      rcases Nat.lt_or_ge j S.size with hj | hj
      · rw [List.getElem?_append_left (by omega)] at hu
        rw [World.cell?_setCells_out g _ _ _ _ (fun _ _ => .inl hj)]
        exact hown.have_ j u hu
      · rw [List.getElem?_append_right (by omega), hl0] at hu
        have hj2 : j - S.size < (byteCells T).length := by
          rcases Nat.lt_or_ge (j - S.size) (byteCells T).length with h | h
          · exact h
          · rw [List.getElem?_eq_none h] at hu; cases hu
        have := World.cell?_setCells_in g (byteCells T) S.size w hc (j - S.size) hj2
        rw [Nat.add_sub_cancel' hj] at this
        rw [this]
        rw [List.getElem?_eq_getElem hj2] at hu
        exact hu
    · intro j hj
      by_cases hin : S.size ≤ j ∧ j < S.size + T.size
      · have := World.cell?_setCells_in g (byteCells T) S.size w hc (j - S.size) (by omega)
        rw [Nat.add_sub_cancel' hin.1] at this
        rw [this]; rfl
      · rw [World.cell?_setCells_out g _ _ _ _ (fun _ _ => by rw [hl]; show j < S.size ∨ S.size + T.size ≤ j; omega)]
        exact hown.there j hj
    · intro j hj
      rw [World.frozen?_setCells]
      exact hown.free j hj
  · have hold : (Builtin.firstCells i.size S.size (.slice (some ⟨g, 0, none⟩) S.size cap)).run P w.drew = .ok (byteCells S).toArray w.drew :=
      run_firstCells_some w.drew i.size S.size ⟨g, 0, none⟩ S.size cap (byteCells S) (by rw [hs1, Nat.mul_one, hl0]) (fun j u hu => by
        have hadd : (⟨g, 0, none⟩ : Addr).add j = ⟨g, j, none⟩ := by unfold Addr.add; split <;> simp_all
        rw [hadd]
        exact hown.have_ j u hu)
    have hr := run_append_grow_src (P := P) w t tx ty e i (.int .u8 0) ht hi hz (some ⟨g, 0, none⟩) S.size cap (byteCells S) hold v T.size (byteCells T) (by rw [hs1]; exact hsrc) (by omega) (by omega) (by rw [hb1]; exact growslice_fits (by omega) (by omega))
    have hge := grownCap_ge w (S.size + T.size) cap e
    have hcm := grownCap_le_maxLen w (S.size + T.size) cap e (by simp only [maxLen]; omega)
    have hlen : ((byteCells S ++ byteCells T).toArray ++ Builtin.zeroCells (Value.int IntKind.u8 0).cells (grownCap w (S.size + T.size) cap e - (S.size + T.size))).size = grownCap w (S.size + T.size) cap e := by
      have hz1 : (Value.int IntKind.u8 0).cells.size = 1 := rfl
      simp only [Array.size_append, List.size_toArray, List.length_append, size_zeroCells, hz1, hl, hl0]
      omega
    have hnew := heap_alloc_new w.drew (.cells ((byteCells S ++ byteCells T).toArray ++ Builtin.zeroCells (Value.int IntKind.u8 0).cells (grownCap w (S.size + T.size) cap e - (S.size + T.size))) e)
    have hcell : ∀ j, (w.drew.alloc (.cells ((byteCells S ++ byteCells T).toArray ++ Builtin.zeroCells (Value.int IntKind.u8 0).cells (grownCap w (S.size + T.size) cap e - (S.size + T.size))) e)).cell? ⟨w.heap.size, j, none⟩ = ((byteCells S ++ byteCells T).toArray ++ Builtin.zeroCells (Value.int IntKind.u8 0).cells (grownCap w (S.size + T.size) cap e - (S.size + T.size)))[j]? := fun j => cell_of_row _ w.heap.size j _ e (0, 0) hnew
    refine ⟨w.heap.size, _, _, hr, ⟨hB, by simp, by rw [ByteArray.size_append]; exact hge, hcm, ?_, ?_, ?_⟩, .inr rfl, ⟨rfl, rfl, rfl, by simp, fun k hk _ => Below.heap_alloc w.drew _ k hk⟩⟩
    · intro j u hu
      rw [hcell, Array.getElem?_append_left (by
        rcases Nat.lt_or_ge j (byteCells (S ++ T)).length with h | h
        · rw [byteCells_append] at h; simpa using h
        · rw [List.getElem?_eq_none h] at hu; cases hu)]
      rw [byteCells_append] at hu
      simpa using hu
    · intro j hj
      rw [hcell, Array.getElem?_eq_getElem (by rw [hlen]; exact hj)]
      rfl
    · intro j _
      exact World.frozen?_alloc_at _ _ _ _ rfl

theorem wpList_append_bytes {P : Program} {w : World} {ops : Array Oper} {rest : List Oper} {o : Oper} {a : Act} {Q : Exit → Act → World → Prop} (hgd : o.guard = none) (s x : Operand) (t tx e : TypeId)
    (ho : o.op = .call { callee := .builtin .append, args := #[s, x], argTypes := #[t, tx] }) (ht : P.underlying t = some (.slice e)) (hI : (P.info? e).map (fun i => (i.zero, i.size, i.bytes)) = some (some (.int .u8 0), 1, 1))
    {B g cap : Nat} {S : ByteArray} (hs : a.eval s = .slice (some ⟨g, 0, none⟩) S.size cap) (hown : Own w B g cap S) (T : ByteArray) (v : Value) (hx : a.eval x = v) (hsrc : Src P 1 tx v T.size (byteCells T) w) (hsz : S.size + T.size ≤ 1000000) (hB : B ≤ w.heap.size)
    (h : ∀ S' g' cap' w', Hid (S' = S ++ T) → Own w' B g' cap' S' → (g' = g ∨ g' = w.heap.size) → Only g w w' → wpList P ops Q rest (a.put o.dst (.slice (some ⟨g', 0, none⟩) S'.size cap')) w') : wpList P ops Q (o :: rest) a w := by
  refine wpList_plain hgd fun K hK => ?_
  obtain ⟨g', cap', w', hr, h2, h3, h4⟩ := run_append_bytes (P := P) t tx o.type e ht hI hown T v hsrc hsz hB
  unfold Oper.wp execOp
  simp only [ho, resolve, invoke, builtin, Sem.run_bind, Sem.run_pure, Result.andThen_ok, List.map_toArray, List.map_cons, List.map_nil, hs, hx, hr]
  exact hK _ _ (h _ g' cap' w' rfl h2 h3 h4)

/-- one byte, laid in a block of its own, as 'append(b, c)' does -/
theorem srcByte {P : Program} {w : World} {tx e : TypeId} (ht : P.underlying tx = some (.slice e)) {b : Nat} {n : Int} (h0 : 0 ≤ n) (h1 : n < 256) (c : Nat) (hc : w.cell? ⟨b, 0, none⟩ = some (.int .u8 n)) :
    Src P 1 tx (.slice (some ⟨b, 0, none⟩) 1 c) (byteS n).size (byteCells (byteS n)) w := by
  rw [byteS_size, byteCells_one h0 h1]
  refine Src.ofSlice w ht _ 1 c _ rfl ?_ ?_
  · intro j u hu
    match j, hu with
    | 0, hu =>
      injection hu with hu
      subst hu
      exact hc
    | j + 1, hu => cases hu
  · intro u hu
    simp only [List.mem_singleton] at hu
    subst hu
    rfl

/-- the bytes of a row that the call owns, as a string -/
theorem Own.str {P : Program} {w : World} {B g cap : Nat} {S : ByteArray} (h : Own w B g cap S) (src e dst : TypeId) (hs : P.underlying src = some (.slice e)) (he : P.underlying e = some (.int .u8)) (hd : P.underlying dst = some .string) :
    (convert src dst (.slice (some ⟨g, 0, none⟩) S.size cap)).run P w = .ok (.string S) w := by
  have hlen : (S.data.toList.map fun b => (b.toNat : Int)).length = S.size := by rw [List.length_map, Array.length_toList]; rfl
  have := run_convert_bytes_arg (P := P) w src e hs he g 0 S.size cap (S.data.toList.map fun b => (b.toNat : Int)) hlen (fun j hj => by
    rw [Nat.zero_add]
    have hj' : j < (S.data.toList.map fun b => (b.toNat : Int)).length := by omega
    have hj2 : j < S.data.toList.length := by simpa using hj'
    refine h.have_ j _ ?_
    unfold byteCells
    simp [List.getD, List.getElem?_eq_getElem hj2]) dst hd
  rw [this]
  congr 2
  unfold strOfNums
  rw [List.map_map]
  have e : ((fun n : Int => UInt8.ofNat n.toNat) ∘ fun b : UInt8 => (b.toNat : Int)) = id := by
    funext b
    simp
  rw [e, List.map_id]

end Go.Proofs.YtknejedgddlabaaDoor

namespace Go.Proofs.YtknejedgddlabaaDoor
open Go.RowKit

/-- block b begins with the values vs, and may be written -/
structure RowL (w : World) (b : Nat) (vs : List Value) : Prop where
  cell : ∀ j v, vs[j]? = some v → w.cell? ⟨b, j, none⟩ = some v
  free : ∀ j, j < vs.length → w.frozen? ⟨b, j, none⟩ = false
  lt : b < w.heap.size

theorem RowL.kept {w w' : World} {b : Nat} {vs : List Value} (h : RowL w b vs) (e : w'.heap[b]? = w.heap[b]?) (hs : w.heap.size ≤ w'.heap.size) : RowL w' b vs :=
  ⟨fun j v hv => by rw [World.cell?_of_block (w := w) e]; exact h.cell j v hv, fun j hj => by rw [World.frozen?_of_block (w := w) e]; exact h.free j hj, Nat.lt_of_lt_of_le h.lt hs⟩
theorem RowL.later {w w' : World} {b : Nat} {vs : List Value} (h : RowL w b vs) (hb : Below w.heap.size w w') : RowL w' b vs := h.kept (hb.block b h.lt) hb.size
theorem RowL.only {w w' : World} {rb b : Nat} {vs : List Value} (h : RowL w b vs) (hO : Only rb w w') (hne : b ≠ rb) : RowL w' b vs := h.kept (hO.block b h.lt (fun x => by injection x with x; exact hne x)) hO.size
theorem RowL.grown {w w' : World} {r : Option Nat} {b : Nat} {vs : List Value} (h : RowL w b vs) (hO : w.grownBy w' r) (hne : some b ≠ r) : RowL w' b vs := h.kept (hO.block b h.lt hne) hO.size
theorem RowL.far {w : World} {b : Nat} {vs : List Value} (h : RowL w b vs) (p : Addr) (u : Value) (hn : p.block ≠ b) : RowL (w.setCell p u) b vs := h.kept (Below.heap_setCell _ _ _ _ (Ne.symm hn)) (by simp [World.setCell])
theorem RowL.boxed {w : World} {b : Nat} {vs : List Value} (h : RowL w b vs) (o : Obj) : RowL (w.alloc o) b vs := h.kept (Below.heap_alloc _ _ _ h.lt) (by simp)
theorem RowL.drew {w : World} {b : Nat} {vs : List Value} (h : RowL w b vs) : RowL w.drew b vs := h.kept rfl (Nat.le_refl _)
theorem RowL.new {w : World} {T : TypeId} {n : Nat} (vs : List Value) (hn : w.heap.size = n) : RowL (w.alloc (.cells vs.toArray T)) n vs := by
  subst hn
  have hnew := heap_alloc_new w (.cells vs.toArray T)
  refine ⟨fun j v hv => ?_, fun j _ => World.frozen?_alloc_at _ _ _ _ rfl, by simp⟩
  rw [cell_of_row _ w.heap.size j _ T (0, 0) hnew]
  simpa using hv
theorem RowL.set {w : World} {b : Nat} {vs : List Value} (h : RowL w b vs) (k : Nat) (u : Value) (hk : k < vs.length) : RowL (w.setCell ⟨b, k, none⟩ u) b (vs.set k u) := by
  refine ⟨fun j v hv => ?_, fun j hj => by rw [World.frozen?_setCell]; exact h.free j (by simpa using hj), by simpa [World.setCell] using h.lt⟩
  by_cases hj : k = j
  · subst hj
    rw [List.getElem?_set_self hk] at hv
    injection hv with hv
    subst hv
    exact World.cell?_setCell_same _ _ _ (h.cell k vs[k] (List.getElem?_eq_getElem hk))
  · rw [List.getElem?_set_ne hj] at hv
    rw [World.cell?_setCell_other _ _ _ _ (by intro e; injection e with _ e _; exact hj e)]
    exact h.cell j v hv

/-- a write's cells -/
def wrC (x : Wr) : List Value := [.int .i64 x.key, .string x.data, .bool x.gone]
def wrsC (l : List Wr) : List Value := l.flatMap wrC
theorem wrsC_length (l : List Wr) : (wrsC l).length = l.length * 3 := by
  induction l with
  | nil => rfl
  | cons x l ih =>
    show (wrC x ++ wrsC l).length = _
    rw [List.length_append, ih]
    simp [wrC]
    omega
theorem wrsC_snoc (l : List Wr) (x : Wr) : wrsC (l ++ [x]) = wrsC l ++ wrC x := by simp [wrsC]
theorem wrsC_at : ∀ (l : List Wr) (i : Nat), i < l.length → (wrsC l)[i * 3]? = some (.int .i64 (wrAt l i).key) ∧ (wrsC l)[i * 3 + 1]? = some (.string (wrAt l i).data) ∧ (wrsC l)[i * 3 + 1 + 1]? = some (.bool (wrAt l i).gone)
  | [], _, h => by simp at h
  | x :: l, 0, _ => ⟨rfl, rfl, rfl⟩
  | x :: l, i + 1, h => by
    have ih := wrsC_at l i (by simpa using h)
    have e : wrAt (x :: l) (i + 1) = wrAt l i := rfl
    have e1 : (i + 1) * 3 = i * 3 + 1 + 1 + 1 := by omega
    rw [e, e1]
    exact ih

theorem addr_add (g j : Nat) : (⟨g, 0, none⟩ : Addr).add j = ⟨g, j, none⟩ := by unfold Addr.add; split <;> simp_all

/-- writes that the call owns, as a slice of writes -/
theorem wrIn_own {w : World} {B : Nat} {T : TypeId} {v : Value} {l : List Wr} (h : w.ownsRow B T 3 v l.length (wrsC l)) : ∃ a cap, v = .slice a l.length cap ∧ WrIn w a cap l := by
  rcases h.2 with ⟨rfl, h0⟩ | ⟨g, cap, cur, rfl, hb, hg, hnc, hm, hs, ht⟩
  · exact ⟨none, 0, by rw [h0], ⟨by omega, by omega, .inl (List.eq_nil_of_length_eq_zero h0)⟩⟩
  · refine ⟨_, cap, rfl, ⟨hnc, by simp only [maxLen] at hm; omega, .inr ⟨g, 0, rfl, fun i hi => ?_⟩⟩⟩
    have hc := h.cells (g := g) rfl
    obtain ⟨a0, a1, a2⟩ := wrsC_at l i hi
    have b0 := hc _ _ a0
    have b1 := hc _ _ a1
    have b2 := hc _ _ a2
    rw [addr_add] at b0 b1 b2
    rw [Nat.zero_add]
    exact ⟨b0, b1, b2⟩

/-- a call of a Go function, as one step of a region that draws -/
theorem step_call {P : Program} {ops : Array Oper} {o : Oper} {a : Act} {w : World} {K : Act → World → Prop} {Q : Exit → Act → World → Prop} {E : Prop} (hg : o.guard = none) (f : FuncId) (args : Array Value)
    (he : (execOp a.eval o).run P w = .ok (.enter f args) w) {R : Ending → World → Prop} (h : Calls P f args w R) (hK : ∀ e w', R e w' → ∃ v, e = .returned v ∧ K (a.put o.dst v) w') :
    if Region.wanted o (yielded ops a.tmps) = true then Oper.wp P o a w K Q else E := by
  have hw : Region.wanted o (yielded ops a.tmps) = true := by simp [Region.wanted, hg]
  rw [if_pos hw]
  unfold Oper.wp
  rw [he]
  exact h.mono fun e w' hr => by
    obtain ⟨v, rfl, hk⟩ := hK e w' hr
    exact hk

end Go.Proofs.YtknejedgddlabaaDoor

namespace Go.Proofs.YtknejedgddlabaaDoor
open Go.RowKit

/-- a version -/
structure Ver where
  wall : Int
  count : Int
  site : Int
  seq : Int
  data : ByteArray
  gone : Bool
/-- a version of a key -/
structure Hd where
  key : Int
  v : Ver

def ver0 : Ver := ⟨0, 0, 0, 0, ⟨#[]⟩, false⟩
/-- its cells -/
def verL (v : Ver) : List Value := [.int .i64 v.wall, .int .i64 v.count, .int .i64 v.site, .int .i64 v.seq, .string v.data, .bool v.gone]
def hdL (h : Hd) : List Value := [.int .i64 h.key, .int .i64 h.v.wall, .int .i64 h.v.count, .int .i64 h.v.site, .int .i64 h.v.seq, .string h.v.data, .bool h.v.gone]
def hdsL (l : List Hd) : List Value := l.flatMap hdL
def hdAt (l : List Hd) (i : Nat) : Hd := l.getD i ⟨0, ver0⟩

theorem hdsL_length (l : List Hd) : (hdsL l).length = l.length * 7 := by
  induction l with
  | nil => rfl
  | cons x l ih =>
    show (hdL x ++ hdsL l).length = _
    rw [List.length_append, ih]
    simp [hdL]
    omega
theorem hdsL_snoc (l : List Hd) (x : Hd) : hdsL (l ++ [x]) = hdsL l ++ hdL x := by simp [hdsL]
theorem hdsL_at : ∀ (l : List Hd) (i r : Nat) (u : Value), i < l.length → (hdL (hdAt l i))[r]? = some u → (hdsL l)[i * 7 + r]? = some u
  | [], _, _, _, h, _ => by simp at h
  | x :: l, 0, r, u, _, hu => by
    have hr : r < (hdL x).length := (List.getElem?_eq_some_iff.1 hu).1
    show (hdL x ++ hdsL l)[0 * 7 + r]? = some u
    rw [Nat.zero_mul, Nat.zero_add, List.getElem?_append_left hr]
    exact hu
  | x :: l, i + 1, r, u, h, hu => by
    have ih := hdsL_at l i r u (by simpa using h) hu
    show (hdL x ++ hdsL l)[(i + 1) * 7 + r]? = some u
    have e : (i + 1) * 7 + r = (hdL x).length + (i * 7 + r) := by simp [hdL]; omega
    rw [e, List.getElem?_append_right (by omega), Nat.add_sub_cancel_left]
    exact ih

/-- which one is earlier -/
def beforeV (a b : Ver) : Bool := if cmpS a.wall a.count b.wall b.count = 0 then decide (a.site < b.site) else decide (cmpS a.wall a.count b.wall b.count < 0)
/-- a vector has it -/
def hasV (a0 a1 a2 a3 : Int) (v : Ver) : Bool := decide (v.seq ≤ depOf v.site a0 a1 a2 a3)
/-- one more is looked at -/
def stepV (key a0 a1 a2 a3 : Int) (best : Option Ver) (h : Hd) : Option Ver :=
  if h.key = key ∧ hasV a0 a1 a2 a3 h.v = true ∧ (match best with | none => true | some b => beforeV b h.v) = true then some h.v else best
/-- the last one of a key that a vector has -/
def lastV (key a0 a1 a2 a3 : Int) (l : List Hd) : Option Ver := l.foldl (stepV key a0 a1 a2 a3) none
theorem lastV_snoc {key a0 a1 a2 a3 : Int} {l : List Hd} {k : Nat} (hk : k < l.length) : lastV key a0 a1 a2 a3 (l.take (k + 1)) = stepV key a0 a1 a2 a3 (lastV key a0 a1 a2 a3 (l.take k)) (hdAt l k) := by
  unfold lastV
  rw [List.take_succ_eq_append_getElem hk, List.foldl_append]
  simp [hdAt, List.getD, List.getElem?_eq_getElem hk]
theorem stepV_none {key a0 a1 a2 a3 : Int} {best : Option Ver} {h : Hd} (hn : ¬ (h.key = key ∧ hasV a0 a1 a2 a3 h.v = true ∧ (match best with | none => true | some b => beforeV b h.v) = true)) : stepV key a0 a1 a2 a3 best h = best := if_neg hn
theorem stepV_some {key a0 a1 a2 a3 : Int} {best : Option Ver} {h : Hd} (hn : h.key = key ∧ hasV a0 a1 a2 a3 h.v = true ∧ (match best with | none => true | some b => beforeV b h.v) = true) : stepV key a0 a1 a2 a3 best h = some h.v := if_pos hn

/-- a version that may be -/
def okVer (v : Ver) : Bool := (timeB v.wall && timeB v.count) && inB v.site 0 3 && inB v.seq 1 1099511627776 && decide ((v.data.size : Int) ≤ 12) && !(v.gone && !v.data.toList.isEmpty)
theorem okVer_site {v : Ver} (h : okVer v = true) : 0 ≤ v.site ∧ v.site ≤ 3 := by
  simp only [okVer, Bool.and_eq_true, inB_iff] at h
  exact h.1.1.1.2

/-- a slice that holds versions of keys: none, or its cells lie in one block -/
structure HdIn (w : World) (a : Option Addr) (cap : Nat) (l : List Hd) : Prop where
  len : l.length ≤ cap
  cap : cap ≤ 9223372036854775807
  held : l = [] ∨ ∃ b off, a = some ⟨b, off, none⟩ ∧ ∀ i r u, i < l.length → (hdL (hdAt l i))[r]? = some u → w.cell? ⟨b, off + (i * 7 + r), none⟩ = some u
theorem HdIn.later {w w' : World} {a : Option Addr} {cap : Nat} {l : List Hd} (hb : Below w.heap.size w w') (h : HdIn w a cap l) : HdIn w' a cap l :=
  ⟨h.len, h.cap, h.held.elim .inl fun ⟨b, off, e, c⟩ => .inr ⟨b, off, e, fun i r u hi hu => cell_later hb (c i r u hi hu)⟩⟩
theorem hdIn_own {w : World} {B : Nat} {T : TypeId} {v : Value} {l : List Hd} (h : w.ownsRow B T 7 v l.length (hdsL l)) : ∃ a cap, v = .slice a l.length cap ∧ HdIn w a cap l := by
  rcases h.2 with ⟨rfl, h0⟩ | ⟨g, cap, cur, rfl, hb, hg, hnc, hm, hs, ht⟩
  · exact ⟨none, 0, by rw [h0], ⟨by omega, by omega, .inl (List.eq_nil_of_length_eq_zero h0)⟩⟩
  · refine ⟨_, cap, rfl, ⟨hnc, by simp only [maxLen] at hm; omega, .inr ⟨g, 0, rfl, fun i r u hi hu => ?_⟩⟩⟩
    have hc := h.cells (g := g) rfl _ _ (hdsL_at l i r u hi hu)
    rw [addr_add] at hc
    rw [Nat.zero_add]
    exact hc

end Go.Proofs.YtknejedgddlabaaDoor

namespace Go.Proofs.YtknejedgddlabaaDoor
open Go.RowKit

set_option maxHeartbeats 400000 in
theorem isTime_any (n : Int) (w : World) :
    Calls Tryd.prog 55 #[.int .i64 n] w fun e w' => e = .returned (.bool (timeB n)) ∧ w' = w := by
  by_cases h0 : 0 ≤ n
  · by_cases h1 : n ≤ 1099511627776
    · rw [timeB_true h0 h1]
      go_enter Tryd.func55, Tryd.ntmps55
      go_wp2
      go_ret
      exact ⟨rfl, rfl⟩
    · have e : timeB n = false := by simp [timeB, h1]
      rw [e]
      go_enter Tryd.func55, Tryd.ntmps55
      go_wp2
      go_ret
      exact ⟨rfl, rfl⟩
  · have e : timeB n = false := by simp [timeB, h0]
    rw [e]
    go_enter Tryd.func55, Tryd.ntmps55
    go_wp2
    go_ret
    exact ⟨rfl, rfl⟩

set_option maxHeartbeats 400000 in
theorem right_any (x c : Int) (w : World) :
    Calls Tryd.prog 13 #[.agg #[.int .i64 x, .int .i64 c]] w fun e w' => e = .returned (.bool (timeB x && timeB c)) ∧ Below w.heap.size w w' := by
  by_cases h : timeB x = true
  · rw [h]
    go_enter Tryd.func13, Tryd.ntmps13
    go_wp2_with (go_at_call 55; refine (isTime_any _ _).mono ?_; rintro e w' ⟨rfl, rfl⟩)
    go_ret
    exact ⟨by simp, (Below.refl _ _).alloc (Nat.le_refl _) _⟩
  · have h' : timeB x = false := by simpa using h
    rw [h']
    go_enter Tryd.func13, Tryd.ntmps13
    go_wp2_with (go_at_call 55; refine (isTime_any _ _).mono ?_; rintro e w' ⟨rfl, rfl⟩)
    go_ret
    exact ⟨by simp, (Below.refl _ _).alloc (Nat.le_refl _) _⟩

end Go.Proofs.YtknejedgddlabaaDoor

namespace Go.Proofs.YtknejedgddlabaaDoor
open Go.RowKit

theorem eqStamp (a b c d : Int) (w : World) : (Op.equalIn 10000 23 (.agg #[.int .i64 a, .int .i64 b]) (.agg #[.int .i64 c, .int .i64 d])).run Tryd.prog w = .ok (a == c && b == d) w := by
  have u3 := Tryd.underlying3
  have a3 := Tryd.isAgg3
  have z3 := Tryd.sizeOf3
  have hS : Tryd.prog.underlying 23 = some (.struct (Tryd.prog.fieldsOf 23)) := by kernel_rfl
  have hp : Tryd.prog.stoodInHeld 23 = false := by kernel_rfl
  rw [show (10000 : Nat) = 9999 + 1 from rfl, run_equalIn_agg w 9999 23 _ _ hS hp]
  simp only [Program.fieldsOf, Tryd.underlying23]
  go_simp
  by_cases h1 : a = c <;> by_cases h2 : b = d <;> simp [h1, h2]

theorem eqStampB (a b c d : Int) (w : World) : (binOp .eql 23 (.agg #[.int .i64 a, .int .i64 b]) (.agg #[.int .i64 c, .int .i64 d])).run Tryd.prog w = .ok (.bool (same2 a b c d)) w := by
  rw [run_eql_struct, eqStamp]
  rfl

end Go.Proofs.YtknejedgddlabaaDoor

namespace Go.Proofs.YtknejedgddlabaaDoor
open Go.RowKit

set_option maxHeartbeats 400000 in
theorem refRight_any (x c : Int) (w : World) :
    Calls Tryd.prog 14 #[.agg #[.int .i64 x, .int .i64 c]] w fun e w' => e = .returned (.bool (timeB x && timeB c)) ∧ Below w.heap.size w w' := by
  by_cases h : timeB x = true
  · rw [h]
    go_enter Tryd.func14, Tryd.ntmps14
    go_wp2_with (go_at_call 54; refine (in_any _ _).mono ?_; rintro e w' ⟨rfl, rfl⟩)
    go_ret
    exact ⟨by simp, boxed (Below.refl _ _) _⟩
  · have h' : timeB x = false := by simpa using h
    rw [h']
    go_enter Tryd.func14, Tryd.ntmps14
    go_wp2_with (go_at_call 54; refine (in_any _ _).mono ?_; rintro e w' ⟨rfl, rfl⟩)
    go_ret
    exact ⟨by simp, boxed (Below.refl _ _) _⟩

/-- the same, where the answer is known -/
theorem refRight_is {x c : Int} {v : Bool} (h : (timeB x && timeB c) = v) (w : World) :
    Calls Tryd.prog 14 #[.agg #[.int .i64 x, .int .i64 c]] w fun e w' => e = .returned (.bool v) ∧ Below w.heap.size w w' := by
  subst h
  exact refRight_any x c w

end Go.Proofs.YtknejedgddlabaaDoor

namespace Go.Proofs.YtknejedgddlabaaDoor
open Go.RowKit

/-- block b holds two ints, and may be written -/
structure Row2 (w : World) (b : Nat) (a0 a1 : Int) : Prop where
  c0 : w.cell? ⟨b, 0, none⟩ = some (.int .i64 a0)
  c1 : w.cell? ⟨b, 1, none⟩ = some (.int .i64 a1)
  f0 : w.frozen? ⟨b, 0, none⟩ = false
  f1 : w.frozen? ⟨b, 1, none⟩ = false

theorem Row2.lt {w : World} {b : Nat} {a0 a1 : Int} (h : Row2 w b a0 a1) : b < w.heap.size := World.block_lt_of_cell? _ _ h.c0

theorem Row2.later {w w' : World} {b : Nat} {a0 a1 : Int} (hb : Below w.heap.size w w') (h : Row2 w b a0 a1) : Row2 w' b a0 a1 :=
  have l := h.lt
  ⟨cell_later hb h.c0, cell_later hb h.c1, (hb.frozen (p := ⟨b, 0, none⟩) l).trans h.f0, (hb.frozen (p := ⟨b, 1, none⟩) l).trans h.f1⟩

theorem Row2.new (w : World) (T : TypeId) (a0 a1 : Int) : Row2 (w.alloc (.cells #[.int .i64 a0, .int .i64 a1] T)) w.heap.size a0 a1 := by
  constructor <;> go_simp

/-- a store into another block -/
theorem Row2.far {w : World} {b : Nat} {a0 a1 : Int} (h : Row2 w b a0 a1) (p : Addr) (u : Value) (hn : p.block ≠ b) : Row2 (w.setCell p u) b a0 a1 := by
  have e : (w.setCell p u).heap[b]? = w.heap[b]? := Below.heap_setCell _ _ _ _ (Ne.symm hn)
  constructor
  · rw [World.cell?_of_block (w := w) e]; exact h.c0
  · rw [World.cell?_of_block (w := w) e]; exact h.c1
  · rw [World.frozen?_of_block (w := w) e]; exact h.f0
  · rw [World.frozen?_of_block (w := w) e]; exact h.f1

theorem Row2.set0 {w : World} {b : Nat} {a0 a1 : Int} (h : Row2 w b a0 a1) (x : Int) : Row2 (w.setCell ⟨b, 0, none⟩ (.int .i64 x)) b x a1 :=
  ⟨World.cell?_setCell_same _ _ _ h.c0, (World.cell?_setCell_other _ _ _ _ (by simp)).trans h.c1, (World.frozen?_setCell _ _ _ _).trans h.f0, (World.frozen?_setCell _ _ _ _).trans h.f1⟩
theorem Row2.set1 {w : World} {b : Nat} {a0 a1 : Int} (h : Row2 w b a0 a1) (x : Int) : Row2 (w.setCell ⟨b, 1, none⟩ (.int .i64 x)) b a0 x :=
  ⟨(World.cell?_setCell_other _ _ _ _ (by simp)).trans h.c0, World.cell?_setCell_same _ _ _ h.c1, (World.frozen?_setCell _ _ _ _).trans h.f0, (World.frozen?_setCell _ _ _ _).trans h.f1⟩

/-- two boxed stamps, in a later world -/
theorem rows2 {w w1 : World} {T : TypeId} {a0 a1 b0 b1 : Int} (hb : Below ((w.alloc (.cells #[.int .i64 a0, .int .i64 a1] T)).alloc (.cells #[.int .i64 b0, .int .i64 b1] T)).heap.size ((w.alloc (.cells #[.int .i64 a0, .int .i64 a1] T)).alloc (.cells #[.int .i64 b0, .int .i64 b1] T)) w1) :
    Row2 w1 w.heap.size a0 a1 ∧ Row2 w1 (w.heap.size + 1) b0 b1 := by
  refine ⟨((Row2.new w T a0 a1).later (boxed (Below.refl _ _) _)).later hb, ?_⟩
  have y := Row2.new (w.alloc (.cells #[.int .i64 a0, .int .i64 a1] T)) T b0 b1
  simp only [World.size_alloc] at y
  exact y.later hb

end Go.Proofs.YtknejedgddlabaaDoor

namespace Go.Proofs.YtknejedgddlabaaDoor
open Go.RowKit

/-- block b holds four ints, and may be written -/
structure Row4 (w : World) (b : Nat) (a0 a1 a2 a3 : Int) : Prop where
  c0 : w.cell? ⟨b, 0, none⟩ = some (.int .i64 a0)
  c1 : w.cell? ⟨b, 1, none⟩ = some (.int .i64 a1)
  c2 : w.cell? ⟨b, 2, none⟩ = some (.int .i64 a2)
  c3 : w.cell? ⟨b, 3, none⟩ = some (.int .i64 a3)
  f0 : w.frozen? ⟨b, 0, none⟩ = false
  f1 : w.frozen? ⟨b, 1, none⟩ = false
  f2 : w.frozen? ⟨b, 2, none⟩ = false
  f3 : w.frozen? ⟨b, 3, none⟩ = false

theorem Row4.lt {w : World} {b : Nat} {a0 a1 a2 a3 : Int} (h : Row4 w b a0 a1 a2 a3) : b < w.heap.size := World.block_lt_of_cell? _ _ h.c0

theorem Row4.later {w w' : World} {b : Nat} {a0 a1 a2 a3 : Int} (hb : Below w.heap.size w w') (h : Row4 w b a0 a1 a2 a3) : Row4 w' b a0 a1 a2 a3 :=
  have l := h.lt
  ⟨cell_later hb h.c0, cell_later hb h.c1, cell_later hb h.c2, cell_later hb h.c3, (hb.frozen (p := ⟨b, 0, none⟩) l).trans h.f0, (hb.frozen (p := ⟨b, 1, none⟩) l).trans h.f1, (hb.frozen (p := ⟨b, 2, none⟩) l).trans h.f2, (hb.frozen (p := ⟨b, 3, none⟩) l).trans h.f3⟩

theorem Row4.new (w : World) (T : TypeId) (a0 a1 a2 a3 : Int) : Row4 (w.alloc (.cells #[.int .i64 a0, .int .i64 a1, .int .i64 a2, .int .i64 a3] T)) w.heap.size a0 a1 a2 a3 := by
  constructor <;> go_simp

/-- a store into another block -/
theorem Row4.far {w : World} {b : Nat} {a0 a1 a2 a3 : Int} (h : Row4 w b a0 a1 a2 a3) (p : Addr) (u : Value) (hn : p.block ≠ b) : Row4 (w.setCell p u) b a0 a1 a2 a3 := by
  have e : (w.setCell p u).heap[b]? = w.heap[b]? := Below.heap_setCell _ _ _ _ (Ne.symm hn)
  constructor
  · rw [World.cell?_of_block (w := w) e]; exact h.c0
  · rw [World.cell?_of_block (w := w) e]; exact h.c1
  · rw [World.cell?_of_block (w := w) e]; exact h.c2
  · rw [World.cell?_of_block (w := w) e]; exact h.c3
  · rw [World.frozen?_of_block (w := w) e]; exact h.f0
  · rw [World.frozen?_of_block (w := w) e]; exact h.f1
  · rw [World.frozen?_of_block (w := w) e]; exact h.f2
  · rw [World.frozen?_of_block (w := w) e]; exact h.f3

theorem Row4.set0 {w : World} {b : Nat} {a0 a1 a2 a3 : Int} (h : Row4 w b a0 a1 a2 a3) (x : Int) : Row4 (w.setCell ⟨b, 0, none⟩ (.int .i64 x)) b x a1 a2 a3 :=
  ⟨World.cell?_setCell_same _ _ _ h.c0, (World.cell?_setCell_other _ _ _ _ (by simp)).trans h.c1, (World.cell?_setCell_other _ _ _ _ (by simp)).trans h.c2, (World.cell?_setCell_other _ _ _ _ (by simp)).trans h.c3, (World.frozen?_setCell _ _ _ _).trans h.f0, (World.frozen?_setCell _ _ _ _).trans h.f1, (World.frozen?_setCell _ _ _ _).trans h.f2, (World.frozen?_setCell _ _ _ _).trans h.f3⟩
theorem Row4.set1 {w : World} {b : Nat} {a0 a1 a2 a3 : Int} (h : Row4 w b a0 a1 a2 a3) (x : Int) : Row4 (w.setCell ⟨b, 1, none⟩ (.int .i64 x)) b a0 x a2 a3 :=
  ⟨(World.cell?_setCell_other _ _ _ _ (by simp)).trans h.c0, World.cell?_setCell_same _ _ _ h.c1, (World.cell?_setCell_other _ _ _ _ (by simp)).trans h.c2, (World.cell?_setCell_other _ _ _ _ (by simp)).trans h.c3, (World.frozen?_setCell _ _ _ _).trans h.f0, (World.frozen?_setCell _ _ _ _).trans h.f1, (World.frozen?_setCell _ _ _ _).trans h.f2, (World.frozen?_setCell _ _ _ _).trans h.f3⟩
theorem Row4.set2 {w : World} {b : Nat} {a0 a1 a2 a3 : Int} (h : Row4 w b a0 a1 a2 a3) (x : Int) : Row4 (w.setCell ⟨b, 2, none⟩ (.int .i64 x)) b a0 a1 x a3 :=
  ⟨(World.cell?_setCell_other _ _ _ _ (by simp)).trans h.c0, (World.cell?_setCell_other _ _ _ _ (by simp)).trans h.c1, World.cell?_setCell_same _ _ _ h.c2, (World.cell?_setCell_other _ _ _ _ (by simp)).trans h.c3, (World.frozen?_setCell _ _ _ _).trans h.f0, (World.frozen?_setCell _ _ _ _).trans h.f1, (World.frozen?_setCell _ _ _ _).trans h.f2, (World.frozen?_setCell _ _ _ _).trans h.f3⟩
theorem Row4.set3 {w : World} {b : Nat} {a0 a1 a2 a3 : Int} (h : Row4 w b a0 a1 a2 a3) (x : Int) : Row4 (w.setCell ⟨b, 3, none⟩ (.int .i64 x)) b a0 a1 a2 x :=
  ⟨(World.cell?_setCell_other _ _ _ _ (by simp)).trans h.c0, (World.cell?_setCell_other _ _ _ _ (by simp)).trans h.c1, (World.cell?_setCell_other _ _ _ _ (by simp)).trans h.c2, World.cell?_setCell_same _ _ _ h.c3, (World.frozen?_setCell _ _ _ _).trans h.f0, (World.frozen?_setCell _ _ _ _).trans h.f1, (World.frozen?_setCell _ _ _ _).trans h.f2, (World.frozen?_setCell _ _ _ _).trans h.f3⟩
/-- a new block beside it -/
theorem Row4.boxed {w : World} {b : Nat} {a0 a1 a2 a3 : Int} (h : Row4 w b a0 a1 a2 a3) (o : Obj) : Row4 (w.alloc o) b a0 a1 a2 a3 := h.later (YtknejedgddlabaaDoor.boxed (Below.refl _ _) o)
/-- a draw -/
theorem Row4.drew {w : World} {b : Nat} {a0 a1 a2 a3 : Int} (h : Row4 w b a0 a1 a2 a3) : Row4 w.drew b a0 a1 a2 a3 := h.later (Below.refl _ _).drew
/-- the newest block -/
theorem Row4.newest {w : World} {T : TypeId} {n : Nat} {a0 a1 a2 a3 : Int} (hn : w.heap.size = n) : Row4 (w.alloc (.cells #[.int .i64 a0, .int .i64 a1, .int .i64 a2, .int .i64 a3] T)) n a0 a1 a2 a3 := by
  subst hn; exact Row4.new w T a0 a1 a2 a3
/-- all four written -/
theorem Row4.set {w : World} {b : Nat} {a0 a1 a2 a3 x0 x1 x2 x3 : Int} (h : Row4 w b a0 a1 a2 a3) : Row4 ((((w.setCell ⟨b, 0, none⟩ (.int .i64 x0)).setCell ⟨b, 1, none⟩ (.int .i64 x1)).setCell ⟨b, 2, none⟩ (.int .i64 x2)).setCell ⟨b, 3, none⟩ (.int .i64 x3)) b x0 x1 x2 x3 :=
  (((h.set0 x0).set1 x1).set2 x2).set3 x3
/-- another one's four written -/
theorem Row4.far4 {w : World} {b c : Nat} {a0 a1 a2 a3 x0 x1 x2 x3 : Int} (h : Row4 w b a0 a1 a2 a3) (hn : c ≠ b) : Row4 ((((w.setCell ⟨c, 0, none⟩ (.int .i64 x0)).setCell ⟨c, 1, none⟩ (.int .i64 x1)).setCell ⟨c, 2, none⟩ (.int .i64 x2)).setCell ⟨c, 3, none⟩ (.int .i64 x3)) b a0 a1 a2 a3 :=
  (((h.far ⟨c, 0, none⟩ (.int .i64 x0) hn).far ⟨c, 1, none⟩ (.int .i64 x1) hn).far ⟨c, 2, none⟩ (.int .i64 x2) hn).far ⟨c, 3, none⟩ (.int .i64 x3) hn

end Go.Proofs.YtknejedgddlabaaDoor

namespace Go.Proofs.YtknejedgddlabaaDoor
open Go.RowKit

def versL (l : List Ver) : List Value := l.flatMap verL
def verAt (l : List Ver) (i : Nat) : Ver := l.getD i ver0

theorem verL_length (v : Ver) : (verL v).length = 6 := rfl
theorem versL_append (a b : List Ver) : versL (a ++ b) = versL a ++ versL b := by simp [versL]
theorem versL_cons (x : Ver) (l : List Ver) : versL (x :: l) = verL x ++ versL l := by simp [versL]
theorem versL_one (x : Ver) : versL [x] = verL x := by simp [versL]
theorem versL_length (l : List Ver) : (versL l).length = l.length * 6 := by
  induction l with
  | nil => rfl
  | cons x l ih =>
    rw [versL_cons, List.length_append, ih, verL_length, List.length_cons]
    omega
theorem verAt_mem {l : List Ver} {i : Nat} (h : i < l.length) : verAt l i ∈ l := by
  simp only [verAt, List.getD, List.getElem?_eq_getElem h, Option.getD_some]
  exact List.getElem_mem h
theorem verAt_eq {l : List Ver} {i : Nat} (h : i < l.length) : verAt l i = l[i] := by simp [verAt, List.getD, List.getElem?_eq_getElem h]
theorem versL_at : ∀ (l : List Ver) (i r : Nat) (u : Value), i < l.length → (verL (verAt l i))[r]? = some u → (versL l)[i * 6 + r]? = some u
  | [], _, _, _, h, _ => by simp at h
  | x :: l, 0, r, u, _, hu => by
    have hr : r < (verL x).length := (List.getElem?_eq_some_iff.1 hu).1
    rw [versL_cons, Nat.zero_mul, Nat.zero_add, List.getElem?_append_left hr]
    exact hu
  | x :: l, i + 1, r, u, h, hu => by
    have ih := versL_at l i r u (by simpa using h) hu
    have e : (i + 1) * 6 + r = (verL x).length + (i * 6 + r) := by rw [verL_length]; omega
    rw [versL_cons, e, List.getElem?_append_right (by omega), Nat.add_sub_cancel_left]
    exact ih
theorem versL_one' (l : List Ver) : ∀ u ∈ versL l, u.oneCell' = true := by
  intro u hu
  unfold versL at hu
  obtain ⟨x, _, hx⟩ := List.mem_flatMap.1 hu
  simp [verL] at hx
  rcases hx with rfl | rfl | rfl | rfl | rfl | rfl <;> rfl
theorem versL_take : ∀ (l : List Ver) (i : Nat), (versL l).take (i * 6) = versL (l.take i)
  | [], i => by simp [versL]
  | x :: l, 0 => by simp [versL]
  | x :: l, i + 1 => by
    have e : (i + 1) * 6 = (verL x).length + i * 6 := by rw [verL_length]; omega
    rw [List.take_succ_cons, versL_cons, versL_cons, e, List.take_append]
    congr 1
    · exact List.take_of_length_le (by omega)
    · rw [Nat.add_sub_cancel_left, versL_take]
theorem versL_drop : ∀ (l : List Ver) (i : Nat), (versL l).drop (i * 6) = versL (l.drop i)
  | [], i => by simp [versL]
  | x :: l, 0 => by simp [versL]
  | x :: l, i + 1 => by
    have e : (i + 1) * 6 = (verL x).length + i * 6 := by rw [verL_length]; omega
    rw [List.drop_succ_cons, versL_cons, e, ← List.drop_drop, List.drop_left]
    exact versL_drop l i

/-- a slice that holds versions: none, or its cells lie in one block -/
structure VsIn (w : World) (a : Option Addr) (cap : Nat) (l : List Ver) : Prop where
  len : l.length ≤ cap
  cap : cap ≤ 9223372036854775807
  held : l = [] ∨ ∃ b, b < w.heap.size ∧ a = some ⟨b, 0, none⟩ ∧ ∀ i r u, i < l.length → (verL (verAt l i))[r]? = some u → w.cell? ⟨b, i * 6 + r, none⟩ = some u
theorem VsIn.later {w w' : World} {a : Option Addr} {cap : Nat} {l : List Ver} (hb : Below w.heap.size w w') (h : VsIn w a cap l) : VsIn w' a cap l :=
  ⟨h.len, h.cap, h.held.elim .inl fun ⟨b, lt, e, c⟩ => .inr ⟨b, Nat.lt_of_lt_of_le lt hb.size, e, fun i r u hi hu => cell_later hb (c i r u hi hu)⟩⟩
theorem vsIn_own {w : World} {B : Nat} {T : TypeId} {v : Value} {l : List Ver} (h : w.ownsRow B T 6 v l.length (versL l)) : ∃ a cap, v = .slice a l.length cap ∧ VsIn w a cap l := by
  rcases h.2 with ⟨rfl, h0⟩ | ⟨g, cap, cur, rfl, hb, hg, hnc, hm, hs, ht⟩
  · exact ⟨none, 0, by rw [h0], ⟨by omega, by omega, .inl (List.eq_nil_of_length_eq_zero h0)⟩⟩
  · refine ⟨_, cap, rfl, ⟨hnc, by simp only [maxLen] at hm; omega, .inr ⟨g, (Array.getElem?_eq_some_iff.1 hg).1, rfl, fun i r u hi hu => ?_⟩⟩⟩
    have hc := h.cells (g := g) rfl _ _ (versL_at l i r u hi hu)
    rw [addr_add] at hc
    exact hc
theorem own_below6 {w w' : World} {B : Nat} {T : TypeId} {v : Value} {n : Nat} {xs : List Value} (h : w.ownsRow B T 6 v n xs) (hb : Below w.heap.size w w') : w'.ownsRow B T 6 v n xs :=
  h.kept (row := none) ⟨hb.os, hb.tape, hb.output, hb.size, fun k hk _ => hb.block k hk⟩ (by cases v.ownBlock <;> simp)

end Go.Proofs.YtknejedgddlabaaDoor

namespace Go.Proofs.YtknejedgddlabaaDoor

/-- a string's bytes -/
abbrev toL (s : ByteArray) : List UInt8 := s.data.toList
theorem toL_append (a b : ByteArray) : toL (a ++ b) = toL a ++ toL b := by
  show (a ++ b).data.toList = _
  rw [ByteArray.data_append, Array.toList_append]
theorem toL_inj {a b : ByteArray} (h : toL a = toL b) : a = b := by
  obtain ⟨⟨x⟩⟩ := a
  obtain ⟨⟨y⟩⟩ := b
  have h' : x = y := h
  rw [h']
theorem toL_length (s : ByteArray) : (toL s).length = s.size := by
  show s.data.toList.length = s.data.size
  rw [Array.length_toList]

/-- the model holds strings against each other by this list -/
theorem byteList (s : ByteArray) : s.toList = toL s := by
  have loop : ∀ (n i : Nat) (r : List UInt8), s.size - i = n → ByteArray.toList.loop s i r = r.reverse ++ (toL s).drop i := by
    intro n
    induction n with
    | zero =>
      intro i r hn
      unfold ByteArray.toList.loop
      rw [if_neg (by omega), List.drop_eq_nil_of_le (by rw [toL_length]; omega), List.append_nil]
    | succ n ih =>
      intro i r hn
      unfold ByteArray.toList.loop
      rw [if_pos (by omega), ih _ _ (by omega)]
      have hi : i < (toL s).length := by rw [toL_length]; omega
      rw [List.drop_eq_getElem_cons hi, List.reverse_cons, List.append_assoc]
      congr 2
      have hi2 : i < s.data.size := by have := toL_length s; rw [Array.length_toList] at hi; exact hi
      show [s.data[i]!] ++ _ = s.data.toList[i] :: _
      rw [getElem!_pos s.data i hi2, Array.getElem_toList]
      rfl
  exact loop s.size 0 [] (by omega)
theorem strB (a b : ByteArray) : (a.toList == b.toList) = decide (a = b) := by
  rw [byteList, byteList]
  by_cases h : a = b
  · rw [h]; simp
  · rw [decide_eq_false h]
    exact beq_eq_false_iff_ne.2 (fun e => h (toL_inj e))

end Go.Proofs.YtknejedgddlabaaDoor

namespace Go.Proofs.YtknejedgddlabaaDoor
open Go.RowKit

/-- 'copy(d, s)' at elements of k cells: all is read before anything is written -/
theorem run_copy_k {P : Program} (w : World) (dT sT ty elem : TypeId) (k b o dLen dCap : Nat) (a : Addr) (sLen sCap m : Nat) (cs : List Value)
    (hu : P.underlying dT = some (.slice elem)) (hs : (P.info? elem).map (·.size) = some k) (hm : m = Nat.min sLen dLen) (hn : cs.length = m * k)
    (hsrc : ∀ j v, cs[j]? = some v → w.cell? (a.add j) = some v) (hc : ∀ j, j < cs.length → (w.cell? ⟨b, o + j, none⟩).isSome = true) (hf : ∀ j, j < cs.length → w.frozen? ⟨b, o + j, none⟩ = false) (h1 : ∀ v ∈ cs, v.oneCell' = true) :
    (Builtin.copy_ #[dT, sT] ty #[.slice (some ⟨b, o, none⟩) dLen dCap, .slice (some a) sLen sCap]).run P w = .ok (goInt m) (w.setCells b o cs) := by
  have hl := run_loadCells_list (P := P) w a cs hsrc
  have hst := run_storeCells_cells (P := P) b o cs 0 w (by simpa using hc) (by simpa using hf) h1
  rw [hn] at hl
  cases hq : P.info? elem with
  | none => simp [hq] at hs
  | some i =>
    have hi : i.size = k := by simpa [hq] using hs
    simp [Builtin.copy_, run_underlying hu, Builtin.lenOf, Builtin.firstCells, sizeOf, typeInfo, hq, hi, ← hm, hl, hst]

theorem wp_copy_run {P : Program} (w : World) {o : Oper} {a : Act} {K : Act → World → Prop} {Q : Exit → Act → World → Prop} (d s : Operand) (t t' : TypeId)
    (ho : o.op = .call { callee := .builtin .copy, args := #[d, s], argTypes := #[t, t'] }) (v u : Value) (hd : a.eval d = v) (hs : a.eval s = u) {v' : Value} {w' : World}
    (hr : (Builtin.copy_ #[t, t'] o.type #[v, u]).run P w = .ok v' w') (h : K (a.put o.dst v') w') : o.wp P a w K Q := by
  unfold Oper.wp execOp
  simp only [ho, resolve, invoke, builtin, Sem.run_bind, Sem.run_pure, Result.andThen_ok, List.map_toArray, List.map_cons, List.map_nil, hd, hs, hr]
  exact h
theorem wpList_copy_run {P : Program} (w : World) {ops : Array Oper} {rest : List Oper} {o : Oper} {a : Act} {Q : Exit → Act → World → Prop} (hgd : o.guard = none) (d s : Operand) (t t' : TypeId)
    (ho : o.op = .call { callee := .builtin .copy, args := #[d, s], argTypes := #[t, t'] }) (v u : Value) (hd : a.eval d = v) (hs : a.eval s = u) {v' : Value} {w' : World}
    (hr : (Builtin.copy_ #[t, t'] o.type #[v, u]).run P w = .ok v' w') (h : wpList P ops Q rest (a.put o.dst v') w') : wpList P ops Q (o :: rest) a w :=
  wpList_plain hgd fun _ hK => wp_copy_run w d s t t' ho v u hd hs hr (hK _ _ h)
theorem step_copy_run {P : Program} {ops : Array Oper} {o : Oper} {a : Act} {w : World} {K : Act → World → Prop} {Q : Exit → Act → World → Prop} {E : Prop}
    (hg : o.guard = none) (d x : Operand) (dT sT : TypeId) (hop : o.op = Op.call { callee := Callee.builtin Builtin.copy, args := #[d, x], argTypes := #[dT, sT] })
    (v u : Value) (hd : a.eval d = v) (hx : a.eval x = u) {v' : Value} {w' : World} (hr : (Builtin.copy_ #[dT, sT] o.type #[v, u]).run P w = .ok v' w') (hK : K (a.put o.dst v') w') :
    if Region.wanted o (yielded ops a.tmps) = true then Oper.wp P o a w K Q else E := by
  have hw : Region.wanted o (yielded ops a.tmps) = true := by simp [Region.wanted, hg]
  rw [if_pos hw]
  exact wp_copy_run w d x dT sT hop v u hd hx hr hK

/-- what a block is behind stores into it -/
theorem heap_setCells (g : Nat) : ∀ (vs : List Value) (o : Nat) (w : World) {cur : Array Value} {T : TypeId}, w.heap[g]? = some (.cells cur T (0, 0)) → ∃ cur', (w.setCells g o vs).heap[g]? = some (.cells cur' T (0, 0)) ∧ cur'.size = cur.size
  | [], _, _, cur, _, h => ⟨cur, h, rfl⟩
  | v :: vs, o, w, cur, T, h => by
    obtain ⟨c, h1, h2⟩ := heap_setCells g vs (o + 1) (w.setCell ⟨g, o, none⟩ v) (heap_setCell_same w g o cur T v h)
    exact ⟨c, h1, by simpa using h2⟩

/-- a block that holds these cells, as a row -/
theorem own_of_cells {w : World} {B g n cap k : Nat} {T : TypeId} {cur : Array Value} {xs : List Value} (hB : B ≤ g) (hg : w.heap[g]? = some (.cells cur T (0, 0))) (hcap : cap ≤ maxLen) (hs : cur.size = cap * k) (hn : n ≤ cap) (hx : xs.length = n * k)
    (hc : ∀ j u, xs[j]? = some u → w.cell? ⟨g, j, none⟩ = some u) : w.ownsRow B T k (.slice (some ⟨g, 0, none⟩) n cap) n xs := by
  refine ⟨hx, .inr ⟨g, cap, cur, rfl, hB, hg, hn, hcap, hs, ?_⟩⟩
  have hle : n * k ≤ cur.size := by rw [hs]; exact Nat.mul_le_mul_right _ hn
  apply List.ext_getElem
  · rw [List.length_take, Array.length_toList, hx]
    omega
  · intro i h1 h2
    have := hc i xs[i] (List.getElem?_eq_getElem h2)
    rw [cell_of_row w g i cur T (0, 0) hg] at this
    rw [List.getElem_take, Array.getElem_toList]
    rw [Array.getElem?_eq_getElem (by omega)] at this
    injection this

/-- the cells behind 'V at |A|', D at '|A| + |V|' being there -/
theorem isSome_set (g : Nat) (vs : List Value) (o : Nat) (w : World) (h : ∀ j, j < vs.length → (w.cell? ⟨g, o + j, none⟩).isSome = true) (k : Nat) (hk : (w.cell? ⟨g, k, none⟩).isSome = true) : ((w.setCells g o vs).cell? ⟨g, k, none⟩).isSome = true := by
  by_cases hin : o ≤ k ∧ k < o + vs.length
  · have := World.cell?_setCells_in g vs o w h (k - o) (by omega)
    rw [show o + (k - o) = k by omega] at this
    rw [this]; rfl
  · rw [World.cell?_setCells_out g vs o w ⟨g, k, none⟩ (fun _ _ => by show k < o ∨ o + vs.length ≤ k; omega)]
    exact hk
theorem set_in {g : Nat} {vs : List Value} {o : Nat} {w : World} (h : ∀ j, j < vs.length → (w.cell? ⟨g, o + j, none⟩).isSome = true) {j : Nat} {u : Value} (hu : vs[j]? = some u) : (w.setCells g o vs).cell? ⟨g, o + j, none⟩ = some u := by
  obtain ⟨hj, e⟩ := List.getElem?_eq_some_iff.1 hu
  rw [World.cell?_setCells_in g vs o w h j hj, e]
/-- D is laid first, then V ahead of it -/
theorem cells_shift {w : World} {g : Nat} (A V D : List Value) (hA : ∀ j u, A[j]? = some u → w.cell? ⟨g, j, none⟩ = some u) (hex : ∀ j, j < A.length + V.length + D.length → (w.cell? ⟨g, j, none⟩).isSome = true) :
    ∀ j u, (A ++ V ++ D)[j]? = some u → ((w.setCells g (A.length + V.length) D).setCells g A.length V).cell? ⟨g, j, none⟩ = some u := by
  intro j u hu
  have hD : ∀ t, t < D.length → (w.cell? ⟨g, A.length + V.length + t, none⟩).isSome = true := fun t ht => hex _ (by omega)
  have hV : ∀ t, t < V.length → ((w.setCells g (A.length + V.length) D).cell? ⟨g, A.length + t, none⟩).isSome = true := fun t ht => isSome_set g D _ w hD _ (hex _ (by omega))
  rcases Nat.lt_or_ge j (A.length + V.length) with h1 | h1
  · rw [List.getElem?_append_left (by simpa using h1)] at hu
    rcases Nat.lt_or_ge j A.length with h2 | h2
    · rw [List.getElem?_append_left h2] at hu
      rw [World.cell?_setCells_out g V _ _ _ (fun _ _ => .inl h2), World.cell?_setCells_out g D _ _ _ (fun _ _ => .inl (by show j < _; omega))]
      exact hA j u hu
    · rw [List.getElem?_append_right h2] at hu
      have := set_in hV hu
      rwa [show A.length + (j - A.length) = j by omega] at this
  · rw [List.getElem?_append_right (by simpa using h1), List.length_append] at hu
    rw [World.cell?_setCells_out g V _ _ _ (fun _ _ => .inr h1)]
    have := set_in hD hu
    rwa [show A.length + V.length + (j - (A.length + V.length)) = j by omega] at this
/-- V is laid first, then D behind it -/
theorem cells_shift2 {w : World} {g : Nat} (A V D : List Value) (hA : ∀ j u, A[j]? = some u → w.cell? ⟨g, j, none⟩ = some u) (hex : ∀ j, j < A.length + V.length + D.length → (w.cell? ⟨g, j, none⟩).isSome = true) :
    ∀ j u, (A ++ V ++ D)[j]? = some u → ((w.setCells g A.length V).setCells g (A.length + V.length) D).cell? ⟨g, j, none⟩ = some u := by
  intro j u hu
  have hV : ∀ t, t < V.length → (w.cell? ⟨g, A.length + t, none⟩).isSome = true := fun t ht => hex _ (by omega)
  have hD : ∀ t, t < D.length → ((w.setCells g A.length V).cell? ⟨g, A.length + V.length + t, none⟩).isSome = true := fun t ht => isSome_set g V _ w hV _ (hex _ (by omega))
  rcases Nat.lt_or_ge j (A.length + V.length) with h1 | h1
  · rw [List.getElem?_append_left (by simpa using h1)] at hu
    rw [World.cell?_setCells_out g D _ _ _ (fun _ _ => .inl h1)]
    rcases Nat.lt_or_ge j A.length with h2 | h2
    · rw [List.getElem?_append_left h2] at hu
      rw [World.cell?_setCells_out g V _ _ _ (fun _ _ => .inl h2)]
      exact hA j u hu
    · rw [List.getElem?_append_right h2] at hu
      have := set_in hV hu
      rwa [show A.length + (j - A.length) = j by omega] at this
  · rw [List.getElem?_append_right (by simpa using h1), List.length_append] at hu
    have := set_in hD hu
    rwa [show A.length + V.length + (j - (A.length + V.length)) = j by omega] at this

end Go.Proofs.YtknejedgddlabaaDoor

namespace Go.Proofs.YtknejedgddlabaaDoor
open Go.RowKit

set_option maxHeartbeats 1000000 in
theorem covers_any (a0 a1 a2 a3 b0 b1 b2 b3 : Int) (w : World) :
    Calls Tryd.prog 50 #[.agg #[.int .i64 a0, .int .i64 a1, .int .i64 a2, .int .i64 a3], .agg #[.int .i64 b0, .int .i64 b1, .int .i64 b2, .int .i64 b3]] w fun e w' => e = .returned (.bool (covB a0 a1 a2 a3 b0 b1 b2 b3)) ∧ Below w.heap.size w w' := by
  by_cases h0 : a0 < b0
  · have e : covB a0 a1 a2 a3 b0 b1 b2 b3 = false := by simp [covB]; omega
    rw [e]
    clear e
    go_enter Tryd.func50, Tryd.ntmps50
    go_wp2
    refine wp_loop_rounds 5 ?_
    rw [rounds_succ]
    go_wp2
    go_quiet (fail)
    go_wp2
    go_ret
    exact ⟨rfl, by repeat (first | exact Below.refl _ _ | apply below_drawn | apply boxed)⟩
  by_cases h1 : a1 < b1
  · have e : covB a0 a1 a2 a3 b0 b1 b2 b3 = false := by simp [covB]; omega
    rw [e]
    clear e
    go_enter Tryd.func50, Tryd.ntmps50
    go_wp2
    refine wp_loop_rounds 5 ?_
    rw [rounds_succ]
    go_wp2
    go_quiet (fail)
    go_wp2
    rw [rounds_succ]
    go_wp2
    go_quiet (fail)
    go_wp2
    go_ret
    exact ⟨rfl, by repeat (first | exact Below.refl _ _ | apply below_drawn | apply boxed)⟩
  by_cases h2 : a2 < b2
  · have e : covB a0 a1 a2 a3 b0 b1 b2 b3 = false := by simp [covB]; omega
    rw [e]
    clear e
    go_enter Tryd.func50, Tryd.ntmps50
    go_wp2
    refine wp_loop_rounds 5 ?_
    rw [rounds_succ]
    go_wp2
    go_quiet (fail)
    go_wp2
    rw [rounds_succ]
    go_wp2
    go_quiet (fail)
    go_wp2
    rw [rounds_succ]
    go_wp2
    go_quiet (fail)
    go_wp2
    go_ret
    exact ⟨rfl, by repeat (first | exact Below.refl _ _ | apply below_drawn | apply boxed)⟩
  by_cases h3 : a3 < b3
  · have e : covB a0 a1 a2 a3 b0 b1 b2 b3 = false := by simp [covB]; omega
    rw [e]
    clear e
    go_enter Tryd.func50, Tryd.ntmps50
    go_wp2
    refine wp_loop_rounds 5 ?_
    rw [rounds_succ]
    go_wp2
    go_quiet (fail)
    go_wp2
    rw [rounds_succ]
    go_wp2
    go_quiet (fail)
    go_wp2
    rw [rounds_succ]
    go_wp2
    go_quiet (fail)
    go_wp2
    rw [rounds_succ]
    go_wp2
    go_quiet (fail)
    go_wp2
    go_ret
    exact ⟨rfl, by repeat (first | exact Below.refl _ _ | apply below_drawn | apply boxed)⟩
  have e : covB a0 a1 a2 a3 b0 b1 b2 b3 = true := by simp [covB]; omega
  rw [e]
  clear e
  go_enter Tryd.func50, Tryd.ntmps50
  go_wp2
  refine wp_loop_rounds 5 ?_
  rw [rounds_succ]
  go_wp2
  go_quiet (fail)
  go_wp2
  rw [rounds_succ]
  go_wp2
  go_quiet (fail)
  go_wp2
  rw [rounds_succ]
  go_wp2
  go_quiet (fail)
  go_wp2
  rw [rounds_succ]
  go_wp2
  go_quiet (fail)
  go_wp2
  rw [rounds_succ]
  go_wp2
  go_ret
  exact ⟨rfl, by repeat (first | exact Below.refl _ _ | apply below_drawn | apply boxed)⟩

/-- the same, where the answer is known -/
theorem covers_is {a0 a1 a2 a3 b0 b1 b2 b3 : Int} {v : Bool} (h : covB a0 a1 a2 a3 b0 b1 b2 b3 = v) (w : World) :
    Calls Tryd.prog 50 #[.agg #[.int .i64 a0, .int .i64 a1, .int .i64 a2, .int .i64 a3], .agg #[.int .i64 b0, .int .i64 b1, .int .i64 b2, .int .i64 b3]] w fun e w' => e = .returned (.bool v) ∧ Below w.heap.size w w' := by
  subst h
  exact covers_any _ _ _ _ _ _ _ _ w

end Go.Proofs.YtknejedgddlabaaDoor

namespace Go.Proofs.YtknejedgddlabaaDoor
open Go.RowKit

set_option maxHeartbeats 400000 in
theorem max1_any (x y : Int) (w : World) :
    Calls Tryd.prog 81 #[.int .i64 x, .int .i64 y] w fun e w' => e = .returned (.int .i64 (maxZ x y)) ∧ w' = w := by
  by_cases h : x < y
  · rw [maxZ_pos h]
    go_enter Tryd.func81, Tryd.ntmps81
    go_wp2
    go_ret
    exact ⟨rfl, rfl⟩
  · rw [maxZ_neg h]
    go_enter Tryd.func81, Tryd.ntmps81
    go_wp2
    go_ret
    exact ⟨rfl, rfl⟩

set_option maxHeartbeats 1000000 in
/-- two vectors joined, number by number -/
theorem join_max (a0 a1 a2 a3 b0 b1 b2 b3 : Int) (w : World) :
    Calls Tryd.prog 80 #[.agg #[.int .i64 a0, .int .i64 a1, .int .i64 a2, .int .i64 a3], .agg #[.int .i64 b0, .int .i64 b1, .int .i64 b2, .int .i64 b3], .func (.func 81) #[] #[]] w fun e w' => e = .returned (.agg #[.int .i64 (maxZ a0 b0), .int .i64 (maxZ a1 b1), .int .i64 (maxZ a2 b2), .int .i64 (maxZ a3 b3)]) ∧ Below w.heap.size w w' := by
  go_enter Tryd.func80, Tryd.ntmps80
  go_wp2
  refine wp_loop_rounds 5 ?_
  rw [rounds_succ]
  go_wp2
  go_region_held3 (fun w' => w'.cell? ⟨w.heap.size, 0, none⟩ = some (.int .i64 a0) ∧ w'.cell? ⟨w.heap.size, 1, none⟩ = some (.int .i64 a1) ∧ w'.cell? ⟨w.heap.size, 2, none⟩ = some (.int .i64 a2) ∧ w'.cell? ⟨w.heap.size, 3, none⟩ = some (.int .i64 a3) ∧ w'.cell? ⟨w.heap.size + 1, 0, none⟩ = some (.int .i64 b0) ∧ w'.cell? ⟨w.heap.size + 1, 1, none⟩ = some (.int .i64 b1) ∧ w'.cell? ⟨w.heap.size + 1, 2, none⟩ = some (.int .i64 b2) ∧ w'.cell? ⟨w.heap.size + 1, 3, none⟩ = some (.int .i64 b3)) (go_keep) ((go_at_call 81; refine (max1_any _ _ _).mono ?_; rintro e wc ⟨rfl, rfl⟩))
  go_wp2
  rw [rounds_succ]
  go_wp2
  go_region_held3 (fun w' => w'.cell? ⟨w.heap.size, 0, none⟩ = some (.int .i64 a0) ∧ w'.cell? ⟨w.heap.size, 1, none⟩ = some (.int .i64 a1) ∧ w'.cell? ⟨w.heap.size, 2, none⟩ = some (.int .i64 a2) ∧ w'.cell? ⟨w.heap.size, 3, none⟩ = some (.int .i64 a3) ∧ w'.cell? ⟨w.heap.size + 1, 0, none⟩ = some (.int .i64 b0) ∧ w'.cell? ⟨w.heap.size + 1, 1, none⟩ = some (.int .i64 b1) ∧ w'.cell? ⟨w.heap.size + 1, 2, none⟩ = some (.int .i64 b2) ∧ w'.cell? ⟨w.heap.size + 1, 3, none⟩ = some (.int .i64 b3)) (go_keep) ((go_at_call 81; refine (max1_any _ _ _).mono ?_; rintro e wc ⟨rfl, rfl⟩))
  go_wp2
  rw [rounds_succ]
  go_wp2
  go_region_held3 (fun w' => w'.cell? ⟨w.heap.size, 0, none⟩ = some (.int .i64 a0) ∧ w'.cell? ⟨w.heap.size, 1, none⟩ = some (.int .i64 a1) ∧ w'.cell? ⟨w.heap.size, 2, none⟩ = some (.int .i64 a2) ∧ w'.cell? ⟨w.heap.size, 3, none⟩ = some (.int .i64 a3) ∧ w'.cell? ⟨w.heap.size + 1, 0, none⟩ = some (.int .i64 b0) ∧ w'.cell? ⟨w.heap.size + 1, 1, none⟩ = some (.int .i64 b1) ∧ w'.cell? ⟨w.heap.size + 1, 2, none⟩ = some (.int .i64 b2) ∧ w'.cell? ⟨w.heap.size + 1, 3, none⟩ = some (.int .i64 b3)) (go_keep) ((go_at_call 81; refine (max1_any _ _ _).mono ?_; rintro e wc ⟨rfl, rfl⟩))
  go_wp2
  rw [rounds_succ]
  go_wp2
  go_region_held3 (fun w' => w'.cell? ⟨w.heap.size, 0, none⟩ = some (.int .i64 a0) ∧ w'.cell? ⟨w.heap.size, 1, none⟩ = some (.int .i64 a1) ∧ w'.cell? ⟨w.heap.size, 2, none⟩ = some (.int .i64 a2) ∧ w'.cell? ⟨w.heap.size, 3, none⟩ = some (.int .i64 a3) ∧ w'.cell? ⟨w.heap.size + 1, 0, none⟩ = some (.int .i64 b0) ∧ w'.cell? ⟨w.heap.size + 1, 1, none⟩ = some (.int .i64 b1) ∧ w'.cell? ⟨w.heap.size + 1, 2, none⟩ = some (.int .i64 b2) ∧ w'.cell? ⟨w.heap.size + 1, 3, none⟩ = some (.int .i64 b3)) (go_keep) ((go_at_call 81; refine (max1_any _ _ _).mono ?_; rintro e wc ⟨rfl, rfl⟩))
  go_wp2
  rw [rounds_succ]
  go_wp2
  exact bodyPost_ret (v := .agg #[.int .i64 (maxZ a0 b0), .int .i64 (maxZ a1 b1), .int .i64 (maxZ a2 b2), .int .i64 (maxZ a3 b3)]) (by simp [results, Tryd.results80, go_sem]) rfl ⟨rfl, by repeat (first | exact Below.refl _ _ | apply Below.drew | apply boxed)⟩

set_option maxHeartbeats 400000 in
theorem max_any (a0 a1 a2 a3 b0 b1 b2 b3 : Int) (w : World) :
    Calls Tryd.prog 43 #[.agg #[.int .i64 a0, .int .i64 a1, .int .i64 a2, .int .i64 a3], .agg #[.int .i64 b0, .int .i64 b1, .int .i64 b2, .int .i64 b3]] w fun e w' => e = .returned (.agg #[.int .i64 (maxZ a0 b0), .int .i64 (maxZ a1 b1), .int .i64 (maxZ a2 b2), .int .i64 (maxZ a3 b3)]) ∧ Below w.heap.size w w' := by
  go_enter Tryd.func43, Tryd.ntmps43
  go_wp2_with fail
  refine (join_max _ _ _ _ _ _ _ _ _).mono ?_
  rintro e w1 ⟨rfl, hb⟩
  obtain ⟨hc, hf⟩ := bcell hb
  have hz : w.heap.size + 2 < w1.heap.size := by have := hb.size; simp at this; omega
  go_wp2
  exact bodyPost_ret (v := .agg #[.int .i64 (maxZ a0 b0), .int .i64 (maxZ a1 b1), .int .i64 (maxZ a2 b2), .int .i64 (maxZ a3 b3)]) (by simp [results, Tryd.results43, go_sem, hc]) rfl ⟨rfl, ((((below3 hb).setCell (by simp; omega) _).setCell (by simp; omega) _).setCell (by simp; omega) _).setCell (by simp; omega) _⟩

end Go.Proofs.YtknejedgddlabaaDoor

namespace Go.Proofs.YtknejedgddlabaaDoor
open Go.RowKit

/-- a function's region, by its number -/
def findRegion (n : Nat) : Code → Option Code
  | .region id ops d => if id = n then some (.region id ops d) else none
  | .seq x y => match findRegion n x with
    | some c => some c
    | none => findRegion n y
  | .block _ c => findRegion n c
  | .loop c => findRegion n c
  | .cond _ x y => match findRegion n x with
    | some c => some c
    | none => findRegion n y
  | _ => none
/-- the region that a piece opens with -/
def opensWith (n : Nat) : Code → Bool
  | .region id _ _ => Nat.beq id n
  | .seq x _ => opensWith n x
  | .block _ c => opensWith n c
  | .loop c => opensWith n c
  | _ => false
/-- a function's loop, by the region that its body opens with -/
def findLoop (n : Nat) : Code → Option Code
  | .loop c => match opensWith n c with
    | true => some (.loop c)
    | false => findLoop n c
  | .seq x y => match findLoop n x with
    | some c => some c
    | none => findLoop n y
  | .block _ c => findLoop n c
  | .cond _ x y => match findLoop n x with
    | some c => some c
    | none => findLoop n y
  | _ => none
/-- what a function does from a region on -/
def findFrom (n : Nat) : Code → Option Code
  | .seq x y => match opensWith n x with
    | true => some (.seq x y)
    | false => match findFrom n x with
      | some c => some c
      | none => findFrom n y
  | .block _ c => findFrom n c
  | .cond _ x y => match findFrom n x with
    | some c => some c
    | none => findFrom n y
  | _ => none
theorem wp_out {P : Program} {c : Code} {x : Exit} {Q : Exit → Act → World → Prop} {a : Act} {w : World} (h : c.wp P (fun e a w => e = x ∧ Q x a w) a w) : c.wp P Q a w :=
  wp_mono h (fun e a w h => by obtain ⟨h1, h2⟩ := h; rw [h1]; exact h2)
theorem wp_next {P : Program} {c : Code} {K : Act → World → Prop} {Q : Exit → Act → World → Prop} {a : Act} {w : World} (h : c.wp P (Exit.then K (fun _ _ _ => False)) a w) : c.wp P (Exit.then K Q) a w :=
  wp_mono h (fun e a w h => by cases e <;> first | exact h | exact False.elim h)

end Go.Proofs.YtknejedgddlabaaDoor

namespace Go.Proofs.YtknejedgddlabaaDoor
open Go.RowKit

theorem pick_num (a : Int) (n : Nat) (h0 : 0 < n) (h1 : n ≤ 1000000) : ∃ r : Nat, wrap64 ((IntKind.u64.wrap a).tmod n) = r ∧ r < n := by
  have hw : 0 ≤ IntKind.u64.wrap a := by
    unfold IntKind.wrap
    simp [IntKind.signed, IntKind.bits]
    omega
  rw [Int.tmod_eq_emod_of_nonneg hw]
  have b0 := Int.emod_nonneg (IntKind.u64.wrap a) (b := n) (by omega)
  have b1 := Int.emod_lt_of_pos (IntKind.u64.wrap a) (b := n) (by omega)
  refine ⟨(IntKind.u64.wrap a % n).toNat, ?_, by omega⟩
  unfold wrap64
  omega

set_option maxHeartbeats 1000000 in
theorem pick_any (a : Int) (n : Nat) (h0 : 0 < n) (h1 : n ≤ 1000000) (w : World) :
    Calls Tryd.prog 42 #[.int .i64 a, .int .i64 n] w fun e w' => ∃ r : Nat, e = .returned (.int .i64 r) ∧ r < n ∧ w' = w := by
  obtain ⟨r, hr, hlt⟩ := pick_num a n h0 h1
  go_enter Tryd.func42, Tryd.ntmps42
  go_wp2_with fail
  go_ret
  exact ⟨r, by rw [← hr]; rfl, hlt, rfl⟩

end Go.Proofs.YtknejedgddlabaaDoor
