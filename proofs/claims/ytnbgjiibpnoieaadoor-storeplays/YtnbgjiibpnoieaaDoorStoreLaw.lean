/-
  'copselaw.StorePlays', whatever the program's store is: given that its functions do to what it holds what the document's do, the law returns true.
-/
import Derived.Test.YtnbgjiibpnoieaaDoorStoreFacts
import Derived.Test.YtnbgjiibpnoieaaDoorTexts
import Derived.Test.YtnbgjiibpnoieaaDoorOpenPuts
import Derived.Test.YtnbgjiibpnoieaaDoorErrOf
import Derived.Deep.RegionHeld3
namespace Go.Proofs.YtnbgjiibpnoieaaDoor
open Go.RowKit

/-- an error: nil, or a bare one -/
def errV (n : Int) : Value := if n = 0 then .nilIface else .iface 24 (.int .i64 n)
theorem sameErr_errV (n : Int) : SameErr (errV n) n := by
  unfold errV
  split
  · rename_i h
    rw [h]
    exact sameErr_nil
  · exact sameErr_no n

/-- what the program's store must be: 'St w b F l': in w the box b, with the blocks F, is a store that holds the versions l (in whatever order) -/
structure ProgSt (St : World → Nat → (Nat → Prop) → List Hd → Prop) : Prop where
  kept : ∀ {w w' : World} {b : Nat} {F : Nat → Prop} {l : List Hd}, St w b F l → (∀ k, F k → w'.heap[k]? = w.heap[k]?) → w.heap.size ≤ w'.heap.size → St w' b F l
  lt : ∀ {w : World} {b : Nat} {F : Nat → Prop} {l : List Hd}, St w b F l → ∀ k, F k → k < w.heap.size
  put : ∀ {w : World} {b : Nat} {F : Nat → Prop} {l : List Hd} (key : Int) (v : Ver), St w b F l → l.length ≤ 1000 → Apart l → (∀ h ∈ l, okVer h.v = true) →
    Calls Tryd.prog 30 #[.pointer (some ⟨b, 0, none⟩), .int .i64 key, .agg #[.int .i64 v.wall, .int .i64 v.count, .int .i64 v.site, .int .i64 v.seq, .string v.data, .bool v.gone]] w fun e w' => e = .returned (errV (putE l key v)) ∧ ∃ F', St w' b F' (putL l key v) ∧ (∀ k, F' k → F k ∨ w.heap.size ≤ k) ∧ Touch F w w'
  sweep : ∀ {w : World} {b : Nat} {F : Nat → Prop} {l : List Hd} (a0 a1 a2 a3 : Int), St w b F l → l.length ≤ 1000 → Apart l → (∀ h ∈ l, okVer h.v = true) →
    Calls Tryd.prog 32 #[.pointer (some ⟨b, 0, none⟩), .agg #[.int .i64 a0, .int .i64 a1, .int .i64 a2, .int .i64 a3]] w fun e w' => e = .returned (.tuple #[]) ∧ ∃ F', St w' b F' (sweepL a0 a1 a2 a3 l) ∧ (∀ k, F' k → F k ∨ w.heap.size ≤ k) ∧ Touch F w w'
  read : ∀ {w : World} {b : Nat} {F : Nat → Prop} {l : List Hd} (key a0 a1 a2 a3 : Int), St w b F l → l.length ≤ 1000 → Apart l → (∀ h ∈ l, okVer h.v = true) →
    Calls Tryd.prog 35 #[.pointer (some ⟨b, 0, none⟩), .int .i64 key, .agg #[.int .i64 a0, .int .i64 a1, .int .i64 a2, .int .i64 a3]] w fun e w' => e = .returned (.tuple #[.agg (verL (readV key a0 a1 a2 a3 l).1).toArray, errV (readV key a0 a1 a2 a3 l).2]) ∧ Below w.heap.size w w'
  many : ∀ {w : World} {b : Nat} {F : Nat → Prop} {l : List Hd}, St w b F l → l.length ≤ 1000 →
    Calls Tryd.prog 36 #[.pointer (some ⟨b, 0, none⟩)] w fun e w' => e = .returned (.int .i64 l.length) ∧ Below w.heap.size w w'
  all : ∀ {w : World} {b : Nat} {F : Nat → Prop} {l : List Hd} (a0 a1 a2 a3 : Int), St w b F l → l.length ≤ 1000 → Apart l → (∀ h ∈ l, okVer h.v = true) →
    Calls Tryd.prog 38 #[.pointer (some ⟨b, 0, none⟩), .agg #[.int .i64 a0, .int .i64 a1, .int .i64 a2, .int .i64 a3]] w fun e w' => ∃ v, e = .returned v ∧ w'.ownsRow w.heap.size 9 1 v 8 (toldC a0 a1 a2 a3 l 8) ∧ Below w.heap.size w w'

theorem RefSt.kept {w w' : World} {sb : Nat} {v : Value} {l : List Hd} (h : RefSt w sb v l) (hk : ∀ k, footR sb v k → w'.heap[k]? = w.heap[k]?) (hs : w.heap.size ≤ w'.heap.size) : RefSt w' sb v l := by
  refine ⟨h.box.kept (hk sb (.inl rfl)) hs, ⟨h.own.1, ?_⟩, h.apart, h.ok⟩
  rcases h.own.2 with hn | ⟨g, cap, cur, rfl, hb, hg, rest⟩
  · exact .inl hn
  · exact .inr ⟨g, cap, cur, rfl, hb, by rw [hk g (.inr rfl)]; exact hg, rest⟩
theorem RefSt.lt {w : World} {sb : Nat} {v : Value} {l : List Hd} (h : RefSt w sb v l) : ∀ k, footR sb v k → k < w.heap.size := fun k hk => by
  rcases hk with rfl | hk
  · exact h.box.lt
  · exact (h.own.lt k hk).2

/-- blocks of X are as they were -/
structure Keeps (X : Nat → Prop) (w w' : World) : Prop where
  os : w'.os = w.os
  tape : w'.tape = w.tape
  output : w'.output = w.output
  size : w.heap.size ≤ w'.heap.size
  block : ∀ k, X k → w'.heap[k]? = w.heap[k]?
theorem Keeps.refl (X : Nat → Prop) (w : World) : Keeps X w w := ⟨rfl, rfl, rfl, Nat.le_refl _, fun _ _ => rfl⟩
theorem Keeps.trans {X : Nat → Prop} {a b c : World} (h : Keeps X a b) (k : Keeps X b c) : Keeps X a c := ⟨k.os.trans h.os, k.tape.trans h.tape, k.output.trans h.output, Nat.le_trans h.size k.size, fun i hi => (k.block i hi).trans (h.block i hi)⟩
theorem Keeps.below {X : Nat → Prop} {w w' : World} {B : Nat} (h : Keeps X w w') (hX : ∀ k, k < B → X k) : Below B w w' := ⟨h.os, h.tape, h.output, h.size, fun k hk => h.block k (hX k hk)⟩
theorem RowL.keeps {X : Nat → Prop} {w w' : World} {b : Nat} {vs : List Value} (h : RowL w b vs) (hk : Keeps X w w') (hX : X b) : RowL w' b vs := h.kept (hk.block b hX) hk.size

/-- both stores, side by side, and blocks X that are neither's -/
structure Two (St : World → Nat → (Nat → Prop) → List Hd → Prop) (w : World) (sb rb : Nat) (lp lr : List Hd) (X : Nat → Prop) : Prop where
  both : ∃ F v, St w sb F lp ∧ RefSt w rb v lr ∧ (∀ k, F k → ¬ footR rb v k) ∧ (∀ k, X k → k < w.heap.size ∧ ¬ F k ∧ ¬ footR rb v k)

section
variable {St : World → Nat → (Nat → Prop) → List Hd → Prop}

theorem Two.later (PS : ProgSt St) {w w' : World} {sb rb : Nat} {lp lr : List Hd} {X : Nat → Prop} (h : Two St w sb rb lp lr X) (hb : Below w.heap.size w w') : Two St w' sb rb lp lr X ∧ Keeps X w w' := by
  obtain ⟨F, v, s, r, d, hX⟩ := h.both
  exact ⟨⟨F, v, PS.kept s (fun k hk => hb.block k (PS.lt s k hk)) hb.size, r.later hb, d, fun k hk => ⟨Nat.lt_of_lt_of_le (hX k hk).1 hb.size, (hX k hk).2⟩⟩, ⟨hb.os, hb.tape, hb.output, hb.size, fun k hk => hb.block k (hX k hk).1⟩⟩
/-- a new block is neither's -/
theorem Two.new (PS : ProgSt St) {w : World} {sb rb : Nat} {lp lr : List Hd} {X : Nat → Prop} (h : Two St w sb rb lp lr X) (o : Obj) : Two St (w.alloc o) sb rb lp lr (fun k => X k ∨ k = w.heap.size) := by
  obtain ⟨F, v, s, r, d, hX⟩ := h.both
  have hb := boxed (Below.refl w.heap.size w) o
  refine ⟨F, v, PS.kept s (fun k hk => hb.block k (PS.lt s k hk)) hb.size, r.later hb, d, fun k hk => ?_⟩
  rcases hk with hk | rfl
  · exact ⟨Nat.lt_of_lt_of_le (hX k hk).1 hb.size, (hX k hk).2⟩
  · exact ⟨by simp, fun hf => Nat.lt_irrefl _ (PS.lt s _ hf), fun hf => Nat.lt_irrefl _ (r.lt _ hf)⟩
theorem Two.less {w : World} {sb rb : Nat} {lp lr : List Hd} {X Y : Nat → Prop} (h : Two St w sb rb lp lr X) (hY : ∀ k, Y k → X k) : Two St w sb rb lp lr Y := by
  obtain ⟨F, v, s, r, d, hX⟩ := h.both
  exact ⟨F, v, s, r, d, fun k hk => hX k (hY k hk)⟩

/-- the program's store was changed, within its blocks and new ones -/
theorem Two.prog {w w' : World} {sb rb : Nat} {lp' lr : List Hd} {X : Nat → Prop} {F F' : Nat → Prop} {v : Value} (r : RefSt w rb v lr) (d : ∀ k, F k → ¬ footR rb v k) (hX : ∀ k, X k → k < w.heap.size ∧ ¬ F k ∧ ¬ footR rb v k)
    (s' : St w' sb F' lp') (hF : ∀ k, F' k → F k ∨ w.heap.size ≤ k) (ht : Touch F w w') : Two St w' sb rb lp' lr X ∧ Keeps X w w' := by
  refine ⟨⟨F', v, s', r.kept (fun k hk => ht.block k (r.lt k hk) (fun hf => d k hf hk)) ht.size, fun k hk hf => ?_, fun k hk => ⟨Nat.lt_of_lt_of_le (hX k hk).1 ht.size, fun hf => ?_, (hX k hk).2.2⟩⟩, ⟨ht.os, ht.tape, ht.output, ht.size, fun k hk => ht.block k (hX k hk).1 (hX k hk).2.1⟩⟩
  · rcases hF k hk with h1 | h1
    · exact d k h1 hf
    · have := r.lt k hf
      omega
  · rcases hF k hf with h1 | h1
    · exact (hX k hk).2.1 h1
    · have := (hX k hk).1
      omega
/-- .. the document's -/
theorem Two.ref (PS : ProgSt St) {w w' : World} {sb rb : Nat} {lp lr lr' : List Hd} {X : Nat → Prop} {F : Nat → Prop} {v : Value} (s : St w sb F lp) (r : RefSt w rb v lr) (d : ∀ k, F k → ¬ footR rb v k) (hX : ∀ k, X k → k < w.heap.size ∧ ¬ F k ∧ ¬ footR rb v k)
    (hp : PutPost w rb v lr' w') : Two St w' sb rb lp lr' X ∧ Keeps X w w' := by
  obtain ⟨v', r', hn, ht⟩ := hp
  have hf : ∀ k, footR rb v' k → footR rb v k ∨ w.heap.size ≤ k := fun k hk => by
    rcases hk with rfl | hk
    · exact .inl (.inl rfl)
    · rcases hn k hk with h1 | h1
      · exact .inl (.inr h1)
      · exact .inr h1
  refine ⟨⟨F, v', PS.kept s (fun k hk => ht.block k (PS.lt s k hk) (d k hk)) ht.size, r', fun k hk hr => ?_, fun k hk => ⟨Nat.lt_of_lt_of_le (hX k hk).1 ht.size, (hX k hk).2.1, fun hr => ?_⟩⟩, ⟨ht.os, ht.tape, ht.output, ht.size, fun k hk => ht.block k (hX k hk).1 (hX k hk).2.2⟩⟩
  · rcases hf k hr with h1 | h1
    · exact d k hk h1
    · have := PS.lt s k hk
      omega
  · rcases hf k hr with h1 | h1
    · exact (hX k hk).2.2 h1
    · have := (hX k hk).1
      omega

theorem two_put (PS : ProgSt St) {w : World} {sb rb : Nat} {lp lr : List Hd} {X : Nat → Prop} (key : Int) (v : Ver) (h : Two St w sb rb lp lr X) (hl : lp.length ≤ 1000) (ha : Apart lp) (ho : ∀ h ∈ lp, okVer h.v = true) :
    Calls Tryd.prog 30 #[.pointer (some ⟨sb, 0, none⟩), .int .i64 key, .agg #[.int .i64 v.wall, .int .i64 v.count, .int .i64 v.site, .int .i64 v.seq, .string v.data, .bool v.gone]] w fun e w' => e = .returned (errV (putE lp key v)) ∧ Two St w' sb rb (putL lp key v) lr X ∧ Keeps X w w' := by
  obtain ⟨F, sv, s, r, d, hX⟩ := h.both
  exact (PS.put key v s hl ha ho).mono fun e w' ⟨he, F', s', hF, ht⟩ => ⟨he, Two.prog r d hX s' hF ht⟩
theorem two_refPut (PS : ProgSt St) {w : World} {sb rb : Nat} {lp lr : List Hd} {X : Nat → Prop} (key : Int) (v : Ver) (h : Two St w sb rb lp lr X) (hl : lr.length ≤ 1000) :
    Calls Tryd.prog 31 #[.pointer (some ⟨rb, 0, none⟩), .int .i64 key, .agg #[.int .i64 v.wall, .int .i64 v.count, .int .i64 v.site, .int .i64 v.seq, .string v.data, .bool v.gone]] w fun e w' => e = .returned (.int .i64 (putE lr key v)) ∧ Two St w' sb rb lp (putL lr key v) X ∧ Keeps X w w' := by
  obtain ⟨F, sv, s, r, d, hX⟩ := h.both
  exact (refPut_any key v w r hl).mono fun e w' ⟨he, hp⟩ => ⟨he, Two.ref PS s r d hX hp⟩
theorem two_sweep (PS : ProgSt St) {w : World} {sb rb : Nat} {lp lr : List Hd} {X : Nat → Prop} (a0 a1 a2 a3 : Int) (h : Two St w sb rb lp lr X) (hl : lp.length ≤ 1000) (ha : Apart lp) (ho : ∀ h ∈ lp, okVer h.v = true) :
    Calls Tryd.prog 32 #[.pointer (some ⟨sb, 0, none⟩), .agg #[.int .i64 a0, .int .i64 a1, .int .i64 a2, .int .i64 a3]] w fun e w' => e = .returned (.tuple #[]) ∧ Two St w' sb rb (sweepL a0 a1 a2 a3 lp) lr X ∧ Keeps X w w' := by
  obtain ⟨F, sv, s, r, d, hX⟩ := h.both
  exact (PS.sweep a0 a1 a2 a3 s hl ha ho).mono fun e w' ⟨he, F', s', hF, ht⟩ => ⟨he, Two.prog r d hX s' hF ht⟩
theorem two_refSweep (PS : ProgSt St) {w : World} {sb rb : Nat} {lp lr : List Hd} {X : Nat → Prop} (a0 a1 a2 a3 : Int) (h : Two St w sb rb lp lr X) (hl : lr.length ≤ 1000) :
    Calls Tryd.prog 33 #[.pointer (some ⟨rb, 0, none⟩), .agg #[.int .i64 a0, .int .i64 a1, .int .i64 a2, .int .i64 a3]] w fun e w' => e = .returned (.tuple #[]) ∧ Two St w' sb rb lp (sweepL a0 a1 a2 a3 lr) X ∧ Keeps X w w' := by
  obtain ⟨F, sv, s, r, d, hX⟩ := h.both
  exact (refSweep_any a0 a1 a2 a3 w r hl).mono fun e w' ⟨he, hp⟩ => ⟨he, Two.ref PS s r d hX hp⟩

theorem two_read (PS : ProgSt St) {w : World} {sb rb : Nat} {lp lr : List Hd} {X : Nat → Prop} (key a0 a1 a2 a3 : Int) (h : Two St w sb rb lp lr X) (hl : lp.length ≤ 1000) (ha : Apart lp) (ho : ∀ h ∈ lp, okVer h.v = true) :
    Calls Tryd.prog 35 #[.pointer (some ⟨sb, 0, none⟩), .int .i64 key, .agg #[.int .i64 a0, .int .i64 a1, .int .i64 a2, .int .i64 a3]] w fun e w' => e = .returned (.tuple #[.agg (verL (readV key a0 a1 a2 a3 lp).1).toArray, errV (readV key a0 a1 a2 a3 lp).2]) ∧ Below w.heap.size w w' := by
  obtain ⟨F, sv, s, r, d, hX⟩ := h.both
  exact PS.read key a0 a1 a2 a3 s hl ha ho
theorem two_refRead {w : World} {sb rb : Nat} {lp lr : List Hd} {X : Nat → Prop} (key a0 a1 a2 a3 : Int) (h : Two St w sb rb lp lr X) (hl : lr.length ≤ 1000) :
    Calls Tryd.prog 34 #[.pointer (some ⟨rb, 0, none⟩), .int .i64 key, .agg #[.int .i64 a0, .int .i64 a1, .int .i64 a2, .int .i64 a3]] w fun e w' => e = .returned (.tuple #[.agg (verL (readV key a0 a1 a2 a3 lr).1).toArray, .int .i64 (readV key a0 a1 a2 a3 lr).2]) ∧ Below w.heap.size w w' := by
  obtain ⟨F, sv, s, r, d, hX⟩ := h.both
  obtain ⟨a, cap, rfl, hH⟩ := hdIn_own r.own
  exact refRead_any key a0 a1 a2 a3 w (r.box.cell 0 _ rfl) hH r.ok (by omega)
theorem two_many (PS : ProgSt St) {w : World} {sb rb : Nat} {lp lr : List Hd} {X : Nat → Prop} (h : Two St w sb rb lp lr X) (hl : lp.length ≤ 1000) :
    Calls Tryd.prog 36 #[.pointer (some ⟨sb, 0, none⟩)] w fun e w' => e = .returned (.int .i64 lp.length) ∧ Below w.heap.size w w' := by
  obtain ⟨F, sv, s, r, d, hX⟩ := h.both
  exact PS.many s hl
theorem two_all (PS : ProgSt St) {w : World} {sb rb : Nat} {lp lr : List Hd} {X : Nat → Prop} (a0 a1 a2 a3 : Int) (h : Two St w sb rb lp lr X) (hl : lp.length ≤ 1000) (ha : Apart lp) (ho : ∀ h ∈ lp, okVer h.v = true) :
    Calls Tryd.prog 38 #[.pointer (some ⟨sb, 0, none⟩), .agg #[.int .i64 a0, .int .i64 a1, .int .i64 a2, .int .i64 a3]] w fun e w' => ∃ v, e = .returned v ∧ w'.ownsRow w.heap.size 9 1 v 8 (toldC a0 a1 a2 a3 lp 8) ∧ Below w.heap.size w w' := by
  obtain ⟨F, sv, s, r, d, hX⟩ := h.both
  exact PS.all a0 a1 a2 a3 s hl ha ho
theorem two_told {w : World} {sb rb : Nat} {lp lr : List Hd} {X : Nat → Prop} (a0 a1 a2 a3 : Int) (h : Two St w sb rb lp lr X) (hl : lr.length ≤ 1000) :
    Calls Tryd.prog 39 #[.pointer (some ⟨rb, 0, none⟩), .agg #[.int .i64 a0, .int .i64 a1, .int .i64 a2, .int .i64 a3]] w fun e w' => ∃ v, e = .returned v ∧ w'.ownsRow (w.heap.size + 1) 9 1 v 8 (toldC a0 a1 a2 a3 lr 8) ∧ Below w.heap.size w w' := by
  obtain ⟨F, sv, s, r, d, hX⟩ := h.both
  exact refTold_any a0 a1 a2 a3 w r hl
/-- how many the document's store holds -/
theorem two_len {w : World} {sb rb : Nat} {lp lr : List Hd} {X : Nat → Prop} (h : Two St w sb rb lp lr X) : ∃ a cap, w.cell? ⟨rb, 0, none⟩ = some (.slice a lr.length cap) := by
  obtain ⟨F, sv, s, r, d, hX⟩ := h.both
  obtain ⟨a, cap, rfl, hH⟩ := hdIn_own r.own
  exact ⟨a, cap, r.box.cell 0 _ rfl⟩
theorem two_ok {w : World} {sb rb : Nat} {lp lr : List Hd} {X : Nat → Prop} (h : Two St w sb rb lp lr X) : ∀ x ∈ lr, okVer x.v = true := by
  obtain ⟨F, sv, s, r, d, hX⟩ := h.both
  exact r.ok

/-- what is told, as texts -/
def toldT (a0 a1 a2 a3 : Int) (l : List Hd) : List ByteArray := (List.range 8).map fun (i : Nat) => toldV a0 a1 a2 a3 l i
theorem told_txt {w : World} {B : Nat} {v : Value} {a0 a1 a2 a3 : Int} {l : List Hd} (h : w.ownsRow B 9 1 v 8 (toldC a0 a1 a2 a3 l 8)) : ∃ a cap, v = .slice a (toldT a0 a1 a2 a3 l).length cap ∧ TxtIn w a cap (toldT a0 a1 a2 a3 l) :=
  txtIn_own (T := 9) (B := B) (by
    have e : toldC a0 a1 a2 a3 l 8 = (toldT a0 a1 a2 a3 l).map Value.string := by
      unfold toldC toldT
      rw [List.map_map]
      rfl
    rw [← e]
    exact h)
theorem putL_length {l : List Hd} {key : Int} {v : Ver} : (putL l key v).length ≤ l.length + 1 := by
  unfold putL
  split
  · simp
  · omega
theorem apart_sweep {l : List Hd} {a0 a1 a2 a3 : Int} (h : Apart l) : Apart (sweepL a0 a1 a2 a3 l) := apart_sub h fun _ hx => (List.mem_filter.1 hx).1
theorem sweepL_length {l : List Hd} {a0 a1 a2 a3 : Int} : (sweepL a0 a1 a2 a3 l).length ≤ l.length := List.length_filter_le _ _

end

end Go.Proofs.YtnbgjiibpnoieaaDoor
