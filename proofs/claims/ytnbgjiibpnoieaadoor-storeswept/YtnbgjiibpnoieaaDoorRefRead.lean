/-
  What the document's own Read of a store is, as the model runs it (copseref.Store.Read).
-/
import Derived.Test.YtnbgjiibpnoieaaDoorRefLast
namespace Go.Proofs.YtnbgjiibpnoieaaDoor
open Go.RowKit

/-- what is read where that is the last one -/
def readO : Option Ver → Ver × Int
  | none => (ver0, 8)
  | some v => if v.gone then (ver0, 8) else (v, 0)
/-- what is read of a key at a vector: the version, and the error -/
def readV (key a0 a1 a2 a3 : Int) (l : List Hd) : Ver × Int := if inB key 0 7 = true then readO (lastV key a0 a1 a2 a3 l) else (ver0, 2)

theorem read_results {tmps : Array Value} {w : World} {b : Nat} {v : Ver} {ev : Int} (h : RowL w b (verL v)) (h2 : tmps[6]? = some (.pointer (some ⟨b, 0, none⟩))) (h3 : tmps[7]? = some (.int .i64 ev)) :
    (results Tryd.f34 tmps).run Tryd.prog w = .ok (.tuple #[.agg (verL v).toArray, .int .i64 ev]) w := by
  have z0 := h.cell 0 _ rfl
  have z1 := h.cell 1 _ rfl
  have z2 := h.cell 2 _ rfl
  have z3 := h.cell 3 _ rfl
  have z4 := h.cell 4 _ rfl
  have z5 := h.cell 5 _ rfl
  simp [results, Tryd.results34, go_sem, h2, h3, z0, z1, z2, z3, z4, z5, verL]

set_option maxHeartbeats 4000000 in
theorem refRead_any {sb : Nat} {a : Option Addr} {cap : Nat} {l : List Hd} (key a0 a1 a2 a3 : Int) (w : World) (hS : w.cell? ⟨sb, 0, none⟩ = some (.slice a l.length cap)) (hC : HdIn w a cap l) (hok : ∀ h ∈ l, okVer h.v = true) (hl : l.length ≤ 1000000) :
    Calls Tryd.prog 34 #[.pointer (some ⟨sb, 0, none⟩), .int .i64 key, .agg #[.int .i64 a0, .int .i64 a1, .int .i64 a2, .int .i64 a3]] w fun e w' =>
      e = .returned (.tuple #[.agg (verL (readV key a0 a1 a2 a3 l).1).toArray, .int .i64 (readV key a0 a1 a2 a3 l).2]) ∧ Below w.heap.size w w' := by
  have HOK : Hid (∀ h ∈ l, okVer h.v = true) := hok
  clear hok
  have RA := (Row4.new w 37 a0 a1 a2 a3).boxed (.cells #[.int .i64 0, .int .i64 0, .int .i64 0, .int .i64 0, .string ⟨#[]⟩, .bool false] 71)
  have RR : RowL ((w.alloc (.cells #[.int .i64 a0, .int .i64 a1, .int .i64 a2, .int .i64 a3] 37)).alloc (.cells #[.int .i64 0, .int .i64 0, .int .i64 0, .int .i64 0, .string ⟨#[]⟩, .bool false] 71)) (w.heap.size + 1) (verL ver0) := RowL.new (w := w.alloc (.cells #[.int .i64 a0, .int .i64 a1, .int .i64 a2, .int .i64 a3] 37)) (T := 71) (n := w.heap.size + 1) [.int .i64 0, .int .i64 0, .int .i64 0, .int .i64 0, .string ⟨#[]⟩, .bool false] (by simp)
  have hb := boxed (boxed (Below.refl _ w) (.cells #[.int .i64 a0, .int .i64 a1, .int .i64 a2, .int .i64 a3] 37)) (.cells #[.int .i64 0, .int .i64 0, .int .i64 0, .int .i64 0, .string ⟨#[]⟩, .bool false] 71)
  have s0 := cell_later hb hS
  have hC0 := hC.later hb
  clear hS hC
  cases hk : inB key 0 7
  · have RV : Hid (readV key a0 a1 a2 a3 l = (ver0, 2)) := by show readV key a0 a1 a2 a3 l = (ver0, 2); unfold readV; rw [hk]; rfl
    have HK : Hid (inB key 0 7 = false) := hk
    clear hk
    go_enter Tryd.func34, Tryd.ntmps34
    go_wp2_with fail
    refine (inB_is HK.out _).mono ?_
    rintro e w1 ⟨rfl, hb1⟩
    replace RR := RR.later hb1
    replace hb := behind hb hb1
    clear hb1 RA s0 hC0
    have r0 := RR.cell 0 _ rfl
    have p0 := RR.free 0 (by simp [verL])
    have r1 := RR.cell 1 _ rfl
    have p1 := RR.free 1 (by simp [verL])
    have r2 := RR.cell 2 _ rfl
    have p2 := RR.free 2 (by simp [verL])
    have r3 := RR.cell 3 _ rfl
    have p3 := RR.free 3 (by simp [verL])
    have r4 := RR.cell 4 _ rfl
    have p4 := RR.free 4 (by simp [verL])
    have r5 := RR.cell 5 _ rfl
    have p5 := RR.free 5 (by simp [verL])
    have RZ := ((((((RR.set 0 (.int .i64 0) (by simp [verL])).set 1 (.int .i64 0) (by simp [verL])).set 2 (.int .i64 0) (by simp [verL])).set 3 (.int .i64 0) (by simp [verL])).set 4 (.string ⟨#[]⟩) (by simp [verL])).set 5 (.bool false) (by simp [verL]))
    have hbZ := ((((((hb.setCell (p := ⟨w.heap.size + 1, 0, none⟩) (by show w.heap.size ≤ w.heap.size + 1; omega) (.int .i64 0)).setCell (p := ⟨w.heap.size + 1, 1, none⟩) (by show w.heap.size ≤ w.heap.size + 1; omega) (.int .i64 0)).setCell (p := ⟨w.heap.size + 1, 2, none⟩) (by show w.heap.size ≤ w.heap.size + 1; omega) (.int .i64 0)).setCell (p := ⟨w.heap.size + 1, 3, none⟩) (by show w.heap.size ≤ w.heap.size + 1; omega) (.int .i64 0)).setCell (p := ⟨w.heap.size + 1, 4, none⟩) (by show w.heap.size ≤ w.heap.size + 1; omega) (.string ⟨#[]⟩)).setCell (p := ⟨w.heap.size + 1, 5, none⟩) (by show w.heap.size ≤ w.heap.size + 1; omega) (.bool false))
    go_wp2_with fail
    refine bodyPost_ret (read_results (v := ver0) RZ rfl rfl) rfl ⟨?_, hbZ⟩
    rw [RV.out]
  · have HK : Hid (inB key 0 7 = true) := hk
    have RV0 : Hid (readV key a0 a1 a2 a3 l = readO (lastV key a0 a1 a2 a3 l)) := by show readV key a0 a1 a2 a3 l = _; unfold readV; rw [hk]; rfl
    clear hk
    go_enter Tryd.func34, Tryd.ntmps34
    go_wp2_with fail
    refine (inB_is HK.out _).mono ?_
    rintro e w1 ⟨rfl, hb1⟩
    replace RR := RR.later hb1
    replace RA := RA.later hb1
    replace hb := behind hb hb1
    replace s0 := cell_later hb1 s0
    replace hC0 := hC0.later hb1
    clear hb1
    have c0 := RA.c0
    have c1 := RA.c1
    have c2 := RA.c2
    have c3 := RA.c3
    go_wp2_with fail
    refine (refLast_any key a0 a1 a2 a3 _ s0 hC0 HOK.out hl).mono ?_
    rintro e w2 ⟨rfl, hb2⟩
    clear c0 c1 c2 c3 RA s0 hC0
    obtain ⟨best, hbest⟩ : ∃ best, lastV key a0 a1 a2 a3 l = best := ⟨_, rfl⟩
    have RV1 : Hid (readV key a0 a1 a2 a3 l = readO best) := by show readV key a0 a1 a2 a3 l = _; rw [RV0.out, hbest]
    rw [hbest, bestL_eq]
    clear hbest RV0
    cases best with
    | none =>
      have RV : Hid (readV key a0 a1 a2 a3 l = (ver0, 8)) := RV1.out
      have sn : someB none = false := rfl
      show _
      rw [show verL ((none : Option Ver).getD ver0) = [.int .i64 0, .int .i64 0, .int .i64 0, .int .i64 0, .string ⟨#[]⟩, .bool false] from rfl]
      replace RR := (RR.later hb2).boxed (.cells #[.int .i64 0, .int .i64 0, .int .i64 0, .int .i64 0, .string ⟨#[]⟩, .bool false] 71)
      replace hb := boxed (behind hb hb2) (.cells #[.int .i64 0, .int .i64 0, .int .i64 0, .int .i64 0, .string ⟨#[]⟩, .bool false] 71)
      clear hb2
      have r0 := RR.cell 0 _ rfl
      have p0 := RR.free 0 (by simp [verL])
      have r1 := RR.cell 1 _ rfl
      have p1 := RR.free 1 (by simp [verL])
      have r2 := RR.cell 2 _ rfl
      have p2 := RR.free 2 (by simp [verL])
      have r3 := RR.cell 3 _ rfl
      have p3 := RR.free 3 (by simp [verL])
      have r4 := RR.cell 4 _ rfl
      have p4 := RR.free 4 (by simp [verL])
      have r5 := RR.cell 5 _ rfl
      have p5 := RR.free 5 (by simp [verL])
      have RZ := ((((((RR.set 0 (.int .i64 0) (by simp [verL])).set 1 (.int .i64 0) (by simp [verL])).set 2 (.int .i64 0) (by simp [verL])).set 3 (.int .i64 0) (by simp [verL])).set 4 (.string ⟨#[]⟩) (by simp [verL])).set 5 (.bool false) (by simp [verL]))
      have hbZ := ((((((hb.setCell (p := ⟨w.heap.size + 1, 0, none⟩) (by show w.heap.size ≤ w.heap.size + 1; omega) (.int .i64 0)).setCell (p := ⟨w.heap.size + 1, 1, none⟩) (by show w.heap.size ≤ w.heap.size + 1; omega) (.int .i64 0)).setCell (p := ⟨w.heap.size + 1, 2, none⟩) (by show w.heap.size ≤ w.heap.size + 1; omega) (.int .i64 0)).setCell (p := ⟨w.heap.size + 1, 3, none⟩) (by show w.heap.size ≤ w.heap.size + 1; omega) (.int .i64 0)).setCell (p := ⟨w.heap.size + 1, 4, none⟩) (by show w.heap.size ≤ w.heap.size + 1; omega) (.string ⟨#[]⟩)).setCell (p := ⟨w.heap.size + 1, 5, none⟩) (by show w.heap.size ≤ w.heap.size + 1; omega) (.bool false))
      go_wp2_with fail
      refine bodyPost_ret (read_results (v := ver0) RZ rfl rfl) rfl ⟨?_, hbZ⟩
      rw [RV.out]
    | some v =>
      obtain ⟨vw, vc, vs, vq, vd, vg⟩ := v
      have sn : someB (some (⟨vw, vc, vs, vq, vd, vg⟩ : Ver)) = true := rfl
      rw [show verL ((some (⟨vw, vc, vs, vq, vd, vg⟩ : Ver)).getD ver0) = [.int .i64 vw, .int .i64 vc, .int .i64 vs, .int .i64 vq, .string vd, .bool vg] from rfl]
      replace RR := (RR.later hb2).boxed (.cells #[.int .i64 vw, .int .i64 vc, .int .i64 vs, .int .i64 vq, .string vd, .bool vg] 71)
      have RB := RowL.new (w := w2) (T := 71) [.int .i64 vw, .int .i64 vc, .int .i64 vs, .int .i64 vq, .string vd, .bool vg] rfl
      replace hb := boxed (behind hb hb2) (.cells #[.int .i64 vw, .int .i64 vc, .int .i64 vs, .int .i64 vq, .string vd, .bool vg] 71)
      clear hb2
      have b0 := RB.cell 0 _ rfl
      have b1 := RB.cell 1 _ rfl
      have b2 := RB.cell 2 _ rfl
      have b3 := RB.cell 3 _ rfl
      have b4 := RB.cell 4 _ rfl
      have b5 := RB.cell 5 _ rfl
      cases vg
      · have RV : Hid (readV key a0 a1 a2 a3 l = (⟨vw, vc, vs, vq, vd, false⟩, 0)) := RV1.out
        have r0 := RR.cell 0 _ rfl
        have p0 := RR.free 0 (by simp [verL])
        have r1 := RR.cell 1 _ rfl
        have p1 := RR.free 1 (by simp [verL])
        have r2 := RR.cell 2 _ rfl
        have p2 := RR.free 2 (by simp [verL])
        have r3 := RR.cell 3 _ rfl
        have p3 := RR.free 3 (by simp [verL])
        have r4 := RR.cell 4 _ rfl
        have p4 := RR.free 4 (by simp [verL])
        have r5 := RR.cell 5 _ rfl
        have p5 := RR.free 5 (by simp [verL])
        have RZ := ((((((RR.set 0 (.int .i64 vw) (by simp [verL])).set 1 (.int .i64 vc) (by simp [verL])).set 2 (.int .i64 vs) (by simp [verL])).set 3 (.int .i64 vq) (by simp [verL])).set 4 (.string vd) (by simp [verL])).set 5 (.bool false) (by simp [verL]))
        have hbZ := ((((((hb.setCell (p := ⟨w.heap.size + 1, 0, none⟩) (by show w.heap.size ≤ w.heap.size + 1; omega) (.int .i64 vw)).setCell (p := ⟨w.heap.size + 1, 1, none⟩) (by show w.heap.size ≤ w.heap.size + 1; omega) (.int .i64 vc)).setCell (p := ⟨w.heap.size + 1, 2, none⟩) (by show w.heap.size ≤ w.heap.size + 1; omega) (.int .i64 vs)).setCell (p := ⟨w.heap.size + 1, 3, none⟩) (by show w.heap.size ≤ w.heap.size + 1; omega) (.int .i64 vq)).setCell (p := ⟨w.heap.size + 1, 4, none⟩) (by show w.heap.size ≤ w.heap.size + 1; omega) (.string vd)).setCell (p := ⟨w.heap.size + 1, 5, none⟩) (by show w.heap.size ≤ w.heap.size + 1; omega) (.bool false))
        go_wp2_with fail
        refine bodyPost_ret (read_results (v := ⟨vw, vc, vs, vq, vd, false⟩) RZ rfl rfl) rfl ⟨?_, hbZ⟩
        rw [RV.out]
      · have RV : Hid (readV key a0 a1 a2 a3 l = (ver0, 8)) := RV1.out
        have r0 := RR.cell 0 _ rfl
        have p0 := RR.free 0 (by simp [verL])
        have r1 := RR.cell 1 _ rfl
        have p1 := RR.free 1 (by simp [verL])
        have r2 := RR.cell 2 _ rfl
        have p2 := RR.free 2 (by simp [verL])
        have r3 := RR.cell 3 _ rfl
        have p3 := RR.free 3 (by simp [verL])
        have r4 := RR.cell 4 _ rfl
        have p4 := RR.free 4 (by simp [verL])
        have r5 := RR.cell 5 _ rfl
        have p5 := RR.free 5 (by simp [verL])
        have RZ := ((((((RR.set 0 (.int .i64 0) (by simp [verL])).set 1 (.int .i64 0) (by simp [verL])).set 2 (.int .i64 0) (by simp [verL])).set 3 (.int .i64 0) (by simp [verL])).set 4 (.string ⟨#[]⟩) (by simp [verL])).set 5 (.bool false) (by simp [verL]))
        have hbZ := ((((((hb.setCell (p := ⟨w.heap.size + 1, 0, none⟩) (by show w.heap.size ≤ w.heap.size + 1; omega) (.int .i64 0)).setCell (p := ⟨w.heap.size + 1, 1, none⟩) (by show w.heap.size ≤ w.heap.size + 1; omega) (.int .i64 0)).setCell (p := ⟨w.heap.size + 1, 2, none⟩) (by show w.heap.size ≤ w.heap.size + 1; omega) (.int .i64 0)).setCell (p := ⟨w.heap.size + 1, 3, none⟩) (by show w.heap.size ≤ w.heap.size + 1; omega) (.int .i64 0)).setCell (p := ⟨w.heap.size + 1, 4, none⟩) (by show w.heap.size ≤ w.heap.size + 1; omega) (.string ⟨#[]⟩)).setCell (p := ⟨w.heap.size + 1, 5, none⟩) (by show w.heap.size ≤ w.heap.size + 1; omega) (.bool false))
        go_wp2_with fail
        refine bodyPost_ret (read_results (v := ver0) RZ rfl rfl) rfl ⟨?_, hbZ⟩
        rw [RV.out]

end Go.Proofs.YtnbgjiibpnoieaaDoor
