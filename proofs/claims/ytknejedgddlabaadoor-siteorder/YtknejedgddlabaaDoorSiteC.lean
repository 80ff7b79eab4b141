/-
  What the document's own Read of a store is, as the model runs it (copseref.Store.Read).
  What the document's own Put into a store is, as the model runs it (copseref.Store.Put).
-/
import Derived.Test.YtknejedgddlabaaDoorRefLast
import Derived.Test.YtknejedgddlabaaDoorSiteA
namespace Go.Proofs.YtknejedgddlabaaDoor
open Go.RowKit

/-- what is read where that is the last one -/
def readO : Option Ver → Ver × Int
  | none => (ver0, 8)
  | some v => if v.gone then (ver0, 8) else (v, 0)
/-- what is read of a key at a vector: the version, and the error -/
def readV (key a0 a1 a2 a3 : Int) (l : List Hd) : Ver × Int := if inB key 0 7 = true then readO (lastV key a0 a1 a2 a3 l) else (ver0, 2)

theorem read_results {tmps : Array Value} {w : World} {b : Nat} {v : Ver} {ev : Int} (h : RowL w b (verL v)) (h2 : tmps[6]? = some (.pointer (some ⟨b, 0, none⟩))) (h3 : tmps[7]? = some (.int .i64 ev)) :
    (results Tryd.f35 tmps).run Tryd.prog w = .ok (.tuple #[.agg (verL v).toArray, .int .i64 ev]) w := by
  have z0 := h.cell 0 _ rfl
  have z1 := h.cell 1 _ rfl
  have z2 := h.cell 2 _ rfl
  have z3 := h.cell 3 _ rfl
  have z4 := h.cell 4 _ rfl
  have z5 := h.cell 5 _ rfl
  simp [results, Tryd.results35, go_sem, h2, h3, z0, z1, z2, z3, z4, z5, verL]

set_option maxHeartbeats 4000000 in
theorem refRead_any {sb : Nat} {a : Option Addr} {cap : Nat} {l : List Hd} (key a0 a1 a2 a3 : Int) (w : World) (hS : w.cell? ⟨sb, 0, none⟩ = some (.slice a l.length cap)) (hC : HdIn w a cap l) (hok : ∀ h ∈ l, okVer h.v = true) (hl : l.length ≤ 1000000) :
    Calls Tryd.prog 35 #[.pointer (some ⟨sb, 0, none⟩), .int .i64 key, .agg #[.int .i64 a0, .int .i64 a1, .int .i64 a2, .int .i64 a3]] w fun e w' =>
      e = .returned (.tuple #[.agg (verL (readV key a0 a1 a2 a3 l).1).toArray, .int .i64 (readV key a0 a1 a2 a3 l).2]) ∧ Below w.heap.size w w' := by
  have HOK : Hid (∀ h ∈ l, okVer h.v = true) := hok
  clear hok
  have RA := (Row4.new w 37 a0 a1 a2 a3).boxed (.cells #[.int .i64 0, .int .i64 0, .int .i64 0, .int .i64 0, .string ⟨#[]⟩, .bool false] 71)
  have RR : RowL ((w.alloc (.cells #[.int .i64 a0, .int .i64 a1, .int .i64 a2, .int .i64 a3] 37)).alloc (.cells #[.int .i64 0, .int .i64 0, .int .i64 0, .int .i64 0, .string ⟨#[]⟩, .bool false] 71)) (w.heap.size + 1) (verL ver0) := RowL.new (w := w.alloc (.cells #[.int .i64 a0, .int .i64 a1, .int .i64 a2, .int .i64 a3] 37)) (T := 71) (n := w.heap.size + 1) [.int .i64 0, .int .i64 0, .int .i64 0, .int .i64 0, .string ⟨#[]⟩, .bool false] (by simp)
  have hb := boxed (boxed (Below.refl _ w) (.cells #[.int .i64 a0, .int .i64 a1, .int .i64 a2, .int .i64 a3] 37)) (.cells #[.int .i64 0, .int .i64 0, .int .i64 0, .int .i64 0, .string ⟨#[]⟩, .bool false] 71)
  have s0 := cell_later hb hS
  have hC0 := hC.later hb
  clear hS hC
  cases hk : inB key 0 7
  · have RV : Hid (readV key a0 a1 a2 a3 l = (ver0, 2)) := by show readV key a0 a1 a2 a3 l = (ver0, 2); unfold readV; rw [hk]; rfl
    have HK : Hid (inB key 0 7 = false) := hk
    clear hk
    go_enter Tryd.func35, Tryd.ntmps35
    go_wp2_with fail
    refine (inB_is HK.out _).mono ?_
    rintro e w1 ⟨rfl, hb1⟩
    replace RR := RR.later hb1
    replace hb := behind hb hb1
    clear hb1 RA s0 hC0
    have r0 := RR.cell 0 _ rfl
    have p0 := RR.free 0 (by simp [verL])
    have r1 := RR.cell 1 _ rfl
    have p1 := RR.free 1 (by simp [verL])
    have r2 := RR.cell 2 _ rfl
    have p2 := RR.free 2 (by simp [verL])
    have r3 := RR.cell 3 _ rfl
    have p3 := RR.free 3 (by simp [verL])
    have r4 := RR.cell 4 _ rfl
    have p4 := RR.free 4 (by simp [verL])
    have r5 := RR.cell 5 _ rfl
    have p5 := RR.free 5 (by simp [verL])
    have RZ := ((((((RR.set 0 (.int .i64 0) (by simp [verL])).set 1 (.int .i64 0) (by simp [verL])).set 2 (.int .i64 0) (by simp [verL])).set 3 (.int .i64 0) (by simp [verL])).set 4 (.string ⟨#[]⟩) (by simp [verL])).set 5 (.bool false) (by simp [verL]))
    have hbZ := ((((((hb.setCell (p := ⟨w.heap.size + 1, 0, none⟩) (by show w.heap.size ≤ w.heap.size + 1; omega) (.int .i64 0)).setCell (p := ⟨w.heap.size + 1, 1, none⟩) (by show w.heap.size ≤ w.heap.size + 1; omega) (.int .i64 0)).setCell (p := ⟨w.heap.size + 1, 2, none⟩) (by show w.heap.size ≤ w.heap.size + 1; omega) (.int .i64 0)).setCell (p := ⟨w.heap.size + 1, 3, none⟩) (by show w.heap.size ≤ w.heap.size + 1; omega) (.int .i64 0)).setCell (p := ⟨w.heap.size + 1, 4, none⟩) (by show w.heap.size ≤ w.heap.size + 1; omega) (.string ⟨#[]⟩)).setCell (p := ⟨w.heap.size + 1, 5, none⟩) (by show w.heap.size ≤ w.heap.size + 1; omega) (.bool false))
    go_wp2_with fail
    refine bodyPost_ret (read_results (v := ver0) RZ rfl rfl) rfl ⟨?_, hbZ⟩
    rw [RV.out]
  · have HK : Hid (inB key 0 7 = true) := hk
    have RV0 : Hid (readV key a0 a1 a2 a3 l = readO (lastV key a0 a1 a2 a3 l)) := by show readV key a0 a1 a2 a3 l = _; unfold readV; rw [hk]; rfl
    clear hk
    go_enter Tryd.func35, Tryd.ntmps35
    go_wp2_with fail
    refine (inB_is HK.out _).mono ?_
    rintro e w1 ⟨rfl, hb1⟩
    replace RR := RR.later hb1
    replace RA := RA.later hb1
    replace hb := behind hb hb1
    replace s0 := cell_later hb1 s0
    replace hC0 := hC0.later hb1
    clear hb1
    have c0 := RA.c0
    have c1 := RA.c1
    have c2 := RA.c2
    have c3 := RA.c3
    go_wp2_with fail
    refine (refLast_any key a0 a1 a2 a3 _ s0 hC0 HOK.out hl).mono ?_
    rintro e w2 ⟨rfl, hb2⟩
    clear c0 c1 c2 c3 RA s0 hC0
    obtain ⟨best, hbest⟩ : ∃ best, lastV key a0 a1 a2 a3 l = best := ⟨_, rfl⟩
    have RV1 : Hid (readV key a0 a1 a2 a3 l = readO best) := by show readV key a0 a1 a2 a3 l = _; rw [RV0.out, hbest]
    rw [hbest, bestL_eq]
    clear hbest RV0
    cases best with
    | none =>
      have RV : Hid (readV key a0 a1 a2 a3 l = (ver0, 8)) := RV1.out
      have sn : someB none = false := rfl
      show _
      rw [show verL ((none : Option Ver).getD ver0) = [.int .i64 0, .int .i64 0, .int .i64 0, .int .i64 0, .string ⟨#[]⟩, .bool false] from rfl]
      replace RR := (RR.later hb2).boxed (.cells #[.int .i64 0, .int .i64 0, .int .i64 0, .int .i64 0, .string ⟨#[]⟩, .bool false] 71)
      replace hb := boxed (behind hb hb2) (.cells #[.int .i64 0, .int .i64 0, .int .i64 0, .int .i64 0, .string ⟨#[]⟩, .bool false] 71)
      clear hb2
      have r0 := RR.cell 0 _ rfl
      have p0 := RR.free 0 (by simp [verL])
      have r1 := RR.cell 1 _ rfl
      have p1 := RR.free 1 (by simp [verL])
      have r2 := RR.cell 2 _ rfl
      have p2 := RR.free 2 (by simp [verL])
      have r3 := RR.cell 3 _ rfl
      have p3 := RR.free 3 (by simp [verL])
      have r4 := RR.cell 4 _ rfl
      have p4 := RR.free 4 (by simp [verL])
      have r5 := RR.cell 5 _ rfl
      have p5 := RR.free 5 (by simp [verL])
      have RZ := ((((((RR.set 0 (.int .i64 0) (by simp [verL])).set 1 (.int .i64 0) (by simp [verL])).set 2 (.int .i64 0) (by simp [verL])).set 3 (.int .i64 0) (by simp [verL])).set 4 (.string ⟨#[]⟩) (by simp [verL])).set 5 (.bool false) (by simp [verL]))
      have hbZ := ((((((hb.setCell (p := ⟨w.heap.size + 1, 0, none⟩) (by show w.heap.size ≤ w.heap.size + 1; omega) (.int .i64 0)).setCell (p := ⟨w.heap.size + 1, 1, none⟩) (by show w.heap.size ≤ w.heap.size + 1; omega) (.int .i64 0)).setCell (p := ⟨w.heap.size + 1, 2, none⟩) (by show w.heap.size ≤ w.heap.size + 1; omega) (.int .i64 0)).setCell (p := ⟨w.heap.size + 1, 3, none⟩) (by show w.heap.size ≤ w.heap.size + 1; omega) (.int .i64 0)).setCell (p := ⟨w.heap.size + 1, 4, none⟩) (by show w.heap.size ≤ w.heap.size + 1; omega) (.string ⟨#[]⟩)).setCell (p := ⟨w.heap.size + 1, 5, none⟩) (by show w.heap.size ≤ w.heap.size + 1; omega) (.bool false))
      go_wp2_with fail
      refine bodyPost_ret (read_results (v := ver0) RZ rfl rfl) rfl ⟨?_, hbZ⟩
      rw [RV.out]
    | some v =>
      obtain ⟨vw, vc, vs, vq, vd, vg⟩ := v
      have sn : someB (some (⟨vw, vc, vs, vq, vd, vg⟩ : Ver)) = true := rfl
      rw [show verL ((some (⟨vw, vc, vs, vq, vd, vg⟩ : Ver)).getD ver0) = [.int .i64 vw, .int .i64 vc, .int .i64 vs, .int .i64 vq, .string vd, .bool vg] from rfl]
      replace RR := (RR.later hb2).boxed (.cells #[.int .i64 vw, .int .i64 vc, .int .i64 vs, .int .i64 vq, .string vd, .bool vg] 71)
      have RB := RowL.new (w := w2) (T := 71) [.int .i64 vw, .int .i64 vc, .int .i64 vs, .int .i64 vq, .string vd, .bool vg] rfl
      replace hb := boxed (behind hb hb2) (.cells #[.int .i64 vw, .int .i64 vc, .int .i64 vs, .int .i64 vq, .string vd, .bool vg] 71)
      clear hb2
      have b0 := RB.cell 0 _ rfl
      have b1 := RB.cell 1 _ rfl
      have b2 := RB.cell 2 _ rfl
      have b3 := RB.cell 3 _ rfl
      have b4 := RB.cell 4 _ rfl
      have b5 := RB.cell 5 _ rfl
      cases vg
      · have RV : Hid (readV key a0 a1 a2 a3 l = (⟨vw, vc, vs, vq, vd, false⟩, 0)) := RV1.out
        have r0 := RR.cell 0 _ rfl
        have p0 := RR.free 0 (by simp [verL])
        have r1 := RR.cell 1 _ rfl
        have p1 := RR.free 1 (by simp [verL])
        have r2 := RR.cell 2 _ rfl
        have p2 := RR.free 2 (by simp [verL])
        have r3 := RR.cell 3 _ rfl
        have p3 := RR.free 3 (by simp [verL])
        have r4 := RR.cell 4 _ rfl
        have p4 := RR.free 4 (by simp [verL])
        have r5 := RR.cell 5 _ rfl
        have p5 := RR.free 5 (by simp [verL])
        have RZ := ((((((RR.set 0 (.int .i64 vw) (by simp [verL])).set 1 (.int .i64 vc) (by simp [verL])).set 2 (.int .i64 vs) (by simp [verL])).set 3 (.int .i64 vq) (by simp [verL])).set 4 (.string vd) (by simp [verL])).set 5 (.bool false) (by simp [verL]))
        have hbZ := ((((((hb.setCell (p := ⟨w.heap.size + 1, 0, none⟩) (by show w.heap.size ≤ w.heap.size + 1; omega) (.int .i64 vw)).setCell (p := ⟨w.heap.size + 1, 1, none⟩) (by show w.heap.size ≤ w.heap.size + 1; omega) (.int .i64 vc)).setCell (p := ⟨w.heap.size + 1, 2, none⟩) (by show w.heap.size ≤ w.heap.size + 1; omega) (.int .i64 vs)).setCell (p := ⟨w.heap.size + 1, 3, none⟩) (by show w.heap.size ≤ w.heap.size + 1; omega) (.int .i64 vq)).setCell (p := ⟨w.heap.size + 1, 4, none⟩) (by show w.heap.size ≤ w.heap.size + 1; omega) (.string vd)).setCell (p := ⟨w.heap.size + 1, 5, none⟩) (by show w.heap.size ≤ w.heap.size + 1; omega) (.bool false))
        go_wp2_with fail
        refine bodyPost_ret (read_results (v := ⟨vw, vc, vs, vq, vd, false⟩) RZ rfl rfl) rfl ⟨?_, hbZ⟩
        rw [RV.out]
      · have RV : Hid (readV key a0 a1 a2 a3 l = (ver0, 8)) := RV1.out
        have r0 := RR.cell 0 _ rfl
        have p0 := RR.free 0 (by simp [verL])
        have r1 := RR.cell 1 _ rfl
        have p1 := RR.free 1 (by simp [verL])
        have r2 := RR.cell 2 _ rfl
        have p2 := RR.free 2 (by simp [verL])
        have r3 := RR.cell 3 _ rfl
        have p3 := RR.free 3 (by simp [verL])
        have r4 := RR.cell 4 _ rfl
        have p4 := RR.free 4 (by simp [verL])
        have r5 := RR.cell 5 _ rfl
        have p5 := RR.free 5 (by simp [verL])
        have RZ := ((((((RR.set 0 (.int .i64 0) (by simp [verL])).set 1 (.int .i64 0) (by simp [verL])).set 2 (.int .i64 0) (by simp [verL])).set 3 (.int .i64 0) (by simp [verL])).set 4 (.string ⟨#[]⟩) (by simp [verL])).set 5 (.bool false) (by simp [verL]))
        have hbZ := ((((((hb.setCell (p := ⟨w.heap.size + 1, 0, none⟩) (by show w.heap.size ≤ w.heap.size + 1; omega) (.int .i64 0)).setCell (p := ⟨w.heap.size + 1, 1, none⟩) (by show w.heap.size ≤ w.heap.size + 1; omega) (.int .i64 0)).setCell (p := ⟨w.heap.size + 1, 2, none⟩) (by show w.heap.size ≤ w.heap.size + 1; omega) (.int .i64 0)).setCell (p := ⟨w.heap.size + 1, 3, none⟩) (by show w.heap.size ≤ w.heap.size + 1; omega) (.int .i64 0)).setCell (p := ⟨w.heap.size + 1, 4, none⟩) (by show w.heap.size ≤ w.heap.size + 1; omega) (.string ⟨#[]⟩)).setCell (p := ⟨w.heap.size + 1, 5, none⟩) (by show w.heap.size ≤ w.heap.size + 1; omega) (.bool false))
        go_wp2_with fail
        refine bodyPost_ret (read_results (v := ver0) RZ rfl rfl) rfl ⟨?_, hbZ⟩
        rw [RV.out]

end Go.Proofs.YtknejedgddlabaaDoor

namespace Go.Proofs.YtknejedgddlabaaDoor
open Go.RowKit

/-- of the same key, stamp and site -/
def twinB (key : Int) (v : Ver) (h : Hd) : Bool := decide (h.key = key) && (decide (h.v.wall = v.wall) && decide (h.v.count = v.count)) && decide (h.v.site = v.site)
/-- the error of a Put -/
def putE (l : List Hd) (key : Int) (v : Ver) : Int := if inB key 0 7 = true then (if okVer v = true then (if l.any (twinB key v) = true then 9 else 0) else 1) else 2
/-- what is held behind it -/
def putL (l : List Hd) (key : Int) (v : Ver) : List Hd := if putE l key v = 0 then l ++ [⟨key, v⟩] else l

/-- only blocks of F, and new ones, were written -/
structure Touch (F : Nat → Prop) (w w' : World) : Prop where
  os : w'.os = w.os
  tape : w'.tape = w.tape
  output : w'.output = w.output
  size : w.heap.size ≤ w'.heap.size
  block : ∀ k, k < w.heap.size → ¬ F k → w'.heap[k]? = w.heap[k]?
theorem Touch.ofBelow {F : Nat → Prop} {w w' : World} (h : Below w.heap.size w w') : Touch F w w' := ⟨h.os, h.tape, h.output, h.size, fun k hk _ => h.block k hk⟩
theorem Touch.trans {F : Nat → Prop} {a b c : World} (h : Touch F a b) (k : Touch F b c) : Touch F a c :=
  ⟨k.os.trans h.os, k.tape.trans h.tape, k.output.trans h.output, Nat.le_trans h.size k.size, fun i hi hf => (k.block i (Nat.lt_of_lt_of_le hi h.size) hf).trans (h.block i hi hf)⟩
theorem Touch.grown {F : Nat → Prop} {w w' : World} {r : Option Nat} (h : w.grownBy w' r) (hr : ∀ k, r = some k → F k) : Touch F w w' :=
  ⟨h.os, h.tape, h.output, h.size, fun k hk hf => h.block k hk (fun e => hf (hr k e.symm))⟩
theorem Touch.setCell {F : Nat → Prop} (w : World) (p : Addr) (u : Value) (hp : F p.block) : Touch F w (w.setCell p u) :=
  ⟨rfl, rfl, rfl, by simp [World.setCell], fun k _ hf => Below.heap_setCell w p u k (fun e => hf (by rw [e]; exact hp))⟩

theorem onlyCell (g o : Nat) (w : World) (v : Value) : Only g w (w.setCell ⟨g, o, none⟩ v) := ⟨rfl, rfl, rfl, by simp [World.setCell], fun k _ hk => Below.heap_setCell w ⟨g, o, none⟩ v k (fun e => hk (by rw [e]))⟩

/-- a store of the document: its box, and the versions that it holds -/
structure RefSt (w : World) (sb : Nat) (v : Value) (l : List Hd) : Prop where
  box : RowL w sb [v]
  own : w.ownsRow 0 136 7 v l.length (hdsL l)
  apart : v.ownBlock ≠ some sb
  ok : ∀ h ∈ l, okVer h.v = true
def footR (sb : Nat) (v : Value) (k : Nat) : Prop := k = sb ∨ v.ownBlock = some k

/-- what Put leaves -/
def PutPost (w : World) (sb : Nat) (v : Value) (l' : List Hd) (w' : World) : Prop :=
  ∃ v', RefSt w' sb v' l' ∧ (∀ k, v'.ownBlock = some k → v.ownBlock = some k ∨ w.heap.size ≤ k) ∧ Touch (footR sb v) w w'

theorem own_below7 {w w' : World} {B : Nat} {T : TypeId} {v : Value} {n : Nat} {xs : List Value} (h : w.ownsRow B T 7 v n xs) (hb : Below w.heap.size w w') : w'.ownsRow B T 7 v n xs :=
  h.kept (row := none) ⟨hb.os, hb.tape, hb.output, hb.size, fun k hk _ => hb.block k hk⟩ (by cases v.ownBlock <;> simp)
theorem RefSt.later {w w' : World} {sb : Nat} {v : Value} {l : List Hd} (h : RefSt w sb v l) (hb : Below w.heap.size w w') : RefSt w' sb v l := ⟨h.box.later hb, own_below7 h.own hb, h.apart, h.ok⟩
theorem PutPost.same {w w' : World} {sb : Nat} {v : Value} {l : List Hd} (h : RefSt w sb v l) (hb : Below w.heap.size w w') : PutPost w sb v l w' :=
  ⟨v, h.later hb, fun _ hk => .inl hk, Touch.ofBelow hb⟩

theorem heldInfo : (Tryd.prog.info? 136).map (fun i => (i.zero, i.size, i.bytes)) = some (some (.agg #[.int .i64 0, .int .i64 0, .int .i64 0, .int .i64 0, .int .i64 0, .string ⟨#[]⟩, .bool false]), 7, 64) := by kernel_rfl

set_option maxHeartbeats 4000000 in
theorem refPut_range {sb : Nat} {sv : Value} {l : List Hd} {key : Int} (h : inB key 0 7 = false) (v : Ver) (w : World) (hS : RefSt w sb sv l) :
    Calls Tryd.prog 32 #[.pointer (some ⟨sb, 0, none⟩), .int .i64 key, .agg #[.int .i64 v.wall, .int .i64 v.count, .int .i64 v.site, .int .i64 v.seq, .string v.data, .bool v.gone]] w fun e w' => e = .returned (.int .i64 (putE l key v)) ∧ PutPost w sb sv (putL l key v) w' := by
  have e : putE l key v = 2 := by unfold putE; rw [h]; rfl
  have e2 : putL l key v = l := by unfold putL; rw [e]; rfl
  rw [e, e2]
  have H : Hid (inB key 0 7 = false) := h
  clear h e e2
  go_enter Tryd.func32, Tryd.ntmps32
  go_wp2_with fail
  refine (inB_is H.out _).mono ?_
  rintro e w1 ⟨rfl, hb1⟩
  go_wp2_with fail
  go_ret
  exact ⟨rfl, PutPost.same hS (behind (boxed (Below.refl _ _) _) hb1)⟩

set_option maxHeartbeats 8000000 in
theorem refPut_arg {sb : Nat} {sv : Value} {l : List Hd} {key : Int} (h : inB key 0 7 = true) (v : Ver) (hv : okVer v = false) (w : World) (hS : RefSt w sb sv l) :
    Calls Tryd.prog 32 #[.pointer (some ⟨sb, 0, none⟩), .int .i64 key, .agg #[.int .i64 v.wall, .int .i64 v.count, .int .i64 v.site, .int .i64 v.seq, .string v.data, .bool v.gone]] w fun e w' => e = .returned (.int .i64 (putE l key v)) ∧ PutPost w sb sv (putL l key v) w' := by
  have e : putE l key v = 1 := by unfold putE; rw [h, hv]; rfl
  have e2 : putL l key v = l := by unfold putL; rw [e]; rfl
  rw [e, e2]
  have H : Hid (inB key 0 7 = true) := h
  clear h e e2
  obtain ⟨wl, ct, st, sq, dt, gn⟩ := v
  have R := RowL.new (w := w) (T := 71) [.int .i64 wl, .int .i64 ct, .int .i64 st, .int .i64 sq, .string dt, .bool gn] rfl
  have hb := boxed (Below.refl _ w) (.cells #[.int .i64 wl, .int .i64 ct, .int .i64 st, .int .i64 sq, .string dt, .bool gn] 71)
  go_enter Tryd.func32, Tryd.ntmps32
  go_wp2_with fail
  refine (inB_is H.out _).mono ?_
  rintro e w1 ⟨rfl, hb1⟩
  replace R := R.later hb1
  replace hb := behind hb hb1
  clear hb1
  have c0 := R.cell 0 _ rfl
  have c1 := R.cell 1 _ rfl
  cases p1 : (timeB wl && timeB ct)
  · have P1 : Hid ((timeB wl && timeB ct) = false) := p1
    clear p1
    go_wp2_with fail
    refine (refRight_is P1.out _).mono ?_
    rintro e w2 ⟨rfl, hb2⟩
    replace hb := behind hb hb2
    go_wp2_with fail
    go_ret
    exact ⟨rfl, PutPost.same hS hb⟩
  · have P1 : Hid ((timeB wl && timeB ct) = true) := p1
    go_wp2_with fail
    refine (refRight_is P1.out _).mono ?_
    rintro e w2 ⟨rfl, hb2⟩
    replace R := R.later hb2
    replace hb := behind hb hb2
    clear hb2 c0 c1
    have c2 := R.cell 2 _ rfl
    cases p2 : inB st 0 3
    · have P2 : Hid (inB st 0 3 = false) := p2
      clear p1 p2
      go_wp2_with fail
      refine (inB_is P2.out _).mono ?_
      rintro e w3 ⟨rfl, hb3⟩
      replace hb := behind hb hb3
      go_wp2_with fail
      go_ret
      exact ⟨rfl, PutPost.same hS hb⟩
    · have P2 : Hid (inB st 0 3 = true) := p2
      go_wp2_with fail
      refine (inB_is P2.out _).mono ?_
      rintro e w3 ⟨rfl, hb3⟩
      replace R := R.later hb3
      replace hb := behind hb hb3
      clear hb3 c2
      have c3 := R.cell 3 _ rfl
      cases p3 : inB sq 1 1099511627776
      · have P3 : Hid (inB sq 1 1099511627776 = false) := p3
        clear p1 p2 p3
        go_wp2_with fail
        refine (inB_is P3.out _).mono ?_
        rintro e w4 ⟨rfl, hb4⟩
        replace hb := behind hb hb4
        go_wp2_with fail
        go_ret
        exact ⟨rfl, PutPost.same hS hb⟩
      · have P3 : Hid (inB sq 1 1099511627776 = true) := p3
        go_wp2_with fail
        refine (inB_is P3.out _).mono ?_
        rintro e w4 ⟨rfl, hb4⟩
        replace R := R.later hb4
        replace hb := behind hb hb4
        clear hb4 c3
        have c4 := R.cell 4 _ rfl
        have c5 := R.cell 5 _ rfl
        by_cases p4 : 12 < (dt.size : Int)
        · clear p1 p2 p3
          go_wp2_with fail
          go_ret
          exact ⟨rfl, PutPost.same hS hb⟩
        · have d4 : decide ((dt.size : Int) ≤ 12) = true := decide_eq_true (by omega)
          cases gn
          · simp only [okVer, p1, p2, p3, d4, Bool.and_self, Bool.false_and, Bool.not_false] at hv
            cases hv
          · cases he : dt.toList.isEmpty
            · clear p1 p2 p3
              go_wp2_with fail
              go_ret
              exact ⟨rfl, PutPost.same hS hb⟩
            · simp only [okVer, p1, p2, p3, d4, he, Bool.and_self, Bool.not_true, Bool.and_false, Bool.not_false] at hv
              cases hv

end Go.Proofs.YtknejedgddlabaaDoor
