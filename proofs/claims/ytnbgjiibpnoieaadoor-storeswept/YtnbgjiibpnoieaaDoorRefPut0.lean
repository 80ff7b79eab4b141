/-
  What the document's own Put into a store is, as the model runs it (copseref.Store.Put).
-/
import Derived.Test.YtnbgjiibpnoieaaDoorRefRead
import Derived.Test.YtnbgjiibpnoieaaDoorRefRightS
namespace Go.Proofs.YtnbgjiibpnoieaaDoor
open Go.RowKit

/-- of the same key, stamp and site -/
def twinB (key : Int) (v : Ver) (h : Hd) : Bool := decide (h.key = key) && (decide (h.v.wall = v.wall) && decide (h.v.count = v.count)) && decide (h.v.site = v.site)
/-- the error of a Put -/
def putE (l : List Hd) (key : Int) (v : Ver) : Int := if inB key 0 7 = true then (if okVer v = true then (if l.any (twinB key v) = true then 9 else 0) else 1) else 2
/-- what is held behind it -/
def putL (l : List Hd) (key : Int) (v : Ver) : List Hd := if putE l key v = 0 then l ++ [⟨key, v⟩] else l

/-- only blocks of F, and new ones, were written -/
structure Touch (F : Nat → Prop) (w w' : World) : Prop where
  os : w'.os = w.os
  tape : w'.tape = w.tape
  output : w'.output = w.output
  size : w.heap.size ≤ w'.heap.size
  block : ∀ k, k < w.heap.size → ¬ F k → w'.heap[k]? = w.heap[k]?
theorem Touch.ofBelow {F : Nat → Prop} {w w' : World} (h : Below w.heap.size w w') : Touch F w w' := ⟨h.os, h.tape, h.output, h.size, fun k hk _ => h.block k hk⟩
theorem Touch.trans {F : Nat → Prop} {a b c : World} (h : Touch F a b) (k : Touch F b c) : Touch F a c :=
  ⟨k.os.trans h.os, k.tape.trans h.tape, k.output.trans h.output, Nat.le_trans h.size k.size, fun i hi hf => (k.block i (Nat.lt_of_lt_of_le hi h.size) hf).trans (h.block i hi hf)⟩
theorem Touch.grown {F : Nat → Prop} {w w' : World} {r : Option Nat} (h : w.grownBy w' r) (hr : ∀ k, r = some k → F k) : Touch F w w' :=
  ⟨h.os, h.tape, h.output, h.size, fun k hk hf => h.block k hk (fun e => hf (hr k e.symm))⟩
theorem Touch.setCell {F : Nat → Prop} (w : World) (p : Addr) (u : Value) (hp : F p.block) : Touch F w (w.setCell p u) :=
  ⟨rfl, rfl, rfl, by simp [World.setCell], fun k _ hf => Below.heap_setCell w p u k (fun e => hf (by rw [e]; exact hp))⟩

theorem onlyCell (g o : Nat) (w : World) (v : Value) : Only g w (w.setCell ⟨g, o, none⟩ v) := ⟨rfl, rfl, rfl, by simp [World.setCell], fun k _ hk => Below.heap_setCell w ⟨g, o, none⟩ v k (fun e => hk (by rw [e]))⟩

/-- a store of the document: its box, and the versions that it holds -/
structure RefSt (w : World) (sb : Nat) (v : Value) (l : List Hd) : Prop where
  box : RowL w sb [v]
  own : w.ownsRow 0 122 7 v l.length (hdsL l)
  apart : v.ownBlock ≠ some sb
  ok : ∀ h ∈ l, okVer h.v = true
def footR (sb : Nat) (v : Value) (k : Nat) : Prop := k = sb ∨ v.ownBlock = some k

/-- what Put leaves -/
def PutPost (w : World) (sb : Nat) (v : Value) (l' : List Hd) (w' : World) : Prop :=
  ∃ v', RefSt w' sb v' l' ∧ (∀ k, v'.ownBlock = some k → v.ownBlock = some k ∨ w.heap.size ≤ k) ∧ Touch (footR sb v) w w'

theorem own_below7 {w w' : World} {B : Nat} {T : TypeId} {v : Value} {n : Nat} {xs : List Value} (h : w.ownsRow B T 7 v n xs) (hb : Below w.heap.size w w') : w'.ownsRow B T 7 v n xs :=
  h.kept (row := none) ⟨hb.os, hb.tape, hb.output, hb.size, fun k hk _ => hb.block k hk⟩ (by cases v.ownBlock <;> simp)
theorem RefSt.later {w w' : World} {sb : Nat} {v : Value} {l : List Hd} (h : RefSt w sb v l) (hb : Below w.heap.size w w') : RefSt w' sb v l := ⟨h.box.later hb, own_below7 h.own hb, h.apart, h.ok⟩
theorem PutPost.same {w w' : World} {sb : Nat} {v : Value} {l : List Hd} (h : RefSt w sb v l) (hb : Below w.heap.size w w') : PutPost w sb v l w' :=
  ⟨v, h.later hb, fun _ hk => .inl hk, Touch.ofBelow hb⟩

theorem heldInfo : (Tryd.prog.info? 122).map (fun i => (i.zero, i.size, i.bytes)) = some (some (.agg #[.int .i64 0, .int .i64 0, .int .i64 0, .int .i64 0, .int .i64 0, .string ⟨#[]⟩, .bool false]), 7, 64) := by kernel_rfl

set_option maxHeartbeats 4000000 in
theorem refPut_range {sb : Nat} {sv : Value} {l : List Hd} {key : Int} (h : inB key 0 7 = false) (v : Ver) (w : World) (hS : RefSt w sb sv l) :
    Calls Tryd.prog 31 #[.pointer (some ⟨sb, 0, none⟩), .int .i64 key, .agg #[.int .i64 v.wall, .int .i64 v.count, .int .i64 v.site, .int .i64 v.seq, .string v.data, .bool v.gone]] w fun e w' => e = .returned (.int .i64 (putE l key v)) ∧ PutPost w sb sv (putL l key v) w' := by
  have e : putE l key v = 2 := by unfold putE; rw [h]; rfl
  have e2 : putL l key v = l := by unfold putL; rw [e]; rfl
  rw [e, e2]
  have H : Hid (inB key 0 7 = false) := h
  clear h e e2
  go_enter Tryd.func31, Tryd.ntmps31
  go_wp2_with fail
  refine (inB_is H.out _).mono ?_
  rintro e w1 ⟨rfl, hb1⟩
  go_wp2_with fail
  go_ret
  exact ⟨rfl, PutPost.same hS (behind (boxed (Below.refl _ _) _) hb1)⟩

set_option maxHeartbeats 8000000 in
theorem refPut_arg {sb : Nat} {sv : Value} {l : List Hd} {key : Int} (h : inB key 0 7 = true) (v : Ver) (hv : okVer v = false) (w : World) (hS : RefSt w sb sv l) :
    Calls Tryd.prog 31 #[.pointer (some ⟨sb, 0, none⟩), .int .i64 key, .agg #[.int .i64 v.wall, .int .i64 v.count, .int .i64 v.site, .int .i64 v.seq, .string v.data, .bool v.gone]] w fun e w' => e = .returned (.int .i64 (putE l key v)) ∧ PutPost w sb sv (putL l key v) w' := by
  have e : putE l key v = 1 := by unfold putE; rw [h, hv]; rfl
  have e2 : putL l key v = l := by unfold putL; rw [e]; rfl
  rw [e, e2]
  have H : Hid (inB key 0 7 = true) := h
  clear h e e2
  obtain ⟨wl, ct, st, sq, dt, gn⟩ := v
  have R := RowL.new (w := w) (T := 71) [.int .i64 wl, .int .i64 ct, .int .i64 st, .int .i64 sq, .string dt, .bool gn] rfl
  have hb := boxed (Below.refl _ w) (.cells #[.int .i64 wl, .int .i64 ct, .int .i64 st, .int .i64 sq, .string dt, .bool gn] 71)
  go_enter Tryd.func31, Tryd.ntmps31
  go_wp2_with fail
  refine (inB_is H.out _).mono ?_
  rintro e w1 ⟨rfl, hb1⟩
  replace R := R.later hb1
  replace hb := behind hb hb1
  clear hb1
  have c0 := R.cell 0 _ rfl
  have c1 := R.cell 1 _ rfl
  cases p1 : (timeB wl && timeB ct)
  · have P1 : Hid ((timeB wl && timeB ct) = false) := p1
    clear p1
    go_wp2_with fail
    refine (refRight_is P1.out _).mono ?_
    rintro e w2 ⟨rfl, hb2⟩
    replace hb := behind hb hb2
    go_wp2_with fail
    go_ret
    exact ⟨rfl, PutPost.same hS hb⟩
  · have P1 : Hid ((timeB wl && timeB ct) = true) := p1
    go_wp2_with fail
    refine (refRight_is P1.out _).mono ?_
    rintro e w2 ⟨rfl, hb2⟩
    replace R := R.later hb2
    replace hb := behind hb hb2
    clear hb2 c0 c1
    have c2 := R.cell 2 _ rfl
    cases p2 : inB st 0 3
    · have P2 : Hid (inB st 0 3 = false) := p2
      clear p1 p2
      go_wp2_with fail
      refine (inB_is P2.out _).mono ?_
      rintro e w3 ⟨rfl, hb3⟩
      replace hb := behind hb hb3
      go_wp2_with fail
      go_ret
      exact ⟨rfl, PutPost.same hS hb⟩
    · have P2 : Hid (inB st 0 3 = true) := p2
      go_wp2_with fail
      refine (inB_is P2.out _).mono ?_
      rintro e w3 ⟨rfl, hb3⟩
      replace R := R.later hb3
      replace hb := behind hb hb3
      clear hb3 c2
      have c3 := R.cell 3 _ rfl
      cases p3 : inB sq 1 1099511627776
      · have P3 : Hid (inB sq 1 1099511627776 = false) := p3
        clear p1 p2 p3
        go_wp2_with fail
        refine (inB_is P3.out _).mono ?_
        rintro e w4 ⟨rfl, hb4⟩
        replace hb := behind hb hb4
        go_wp2_with fail
        go_ret
        exact ⟨rfl, PutPost.same hS hb⟩
      · have P3 : Hid (inB sq 1 1099511627776 = true) := p3
        go_wp2_with fail
        refine (inB_is P3.out _).mono ?_
        rintro e w4 ⟨rfl, hb4⟩
        replace R := R.later hb4
        replace hb := behind hb hb4
        clear hb4 c3
        have c4 := R.cell 4 _ rfl
        have c5 := R.cell 5 _ rfl
        by_cases p4 : 12 < (dt.size : Int)
        · clear p1 p2 p3
          go_wp2_with fail
          go_ret
          exact ⟨rfl, PutPost.same hS hb⟩
        · have d4 : decide ((dt.size : Int) ≤ 12) = true := decide_eq_true (by omega)
          cases gn
          · simp only [okVer, p1, p2, p3, d4, Bool.and_self, Bool.false_and, Bool.not_false] at hv
            cases hv
          · cases he : dt.toList.isEmpty
            · clear p1 p2 p3
              go_wp2_with fail
              go_ret
              exact ⟨rfl, PutPost.same hS hb⟩
            · simp only [okVer, p1, p2, p3, d4, he, Bool.and_self, Bool.not_true, Bool.and_false, Bool.not_false] at hv
              cases hv

end Go.Proofs.YtnbgjiibpnoieaaDoor
