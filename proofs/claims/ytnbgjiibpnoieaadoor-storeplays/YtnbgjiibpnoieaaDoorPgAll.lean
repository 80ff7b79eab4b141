/-
  What store.All does, as the model runs it.
-/
import Derived.Test.YtnbgjiibpnoieaaDoorPgRead
import Derived.Laws.OwnMore
namespace Go.Proofs.YtnbgjiibpnoieaaDoor
open Go.RowKit

/-- the first k told, the others still empty -/
def allC (a0 a1 a2 a3 : Int) (l : List Hd) (k : Nat) : List Value := toldC a0 a1 a2 a3 l k ++ List.replicate (8 - k) (.string ⟨#[]⟩)
theorem toldC_length (a0 a1 a2 a3 : Int) (l : List Hd) (k : Nat) : (toldC a0 a1 a2 a3 l k).length = k := by simp [toldC]
theorem allC_set {a0 a1 a2 a3 : Int} {l : List Hd} {k : Nat} (hk : k < 8) : (allC a0 a1 a2 a3 l k).set k (.string (toldV a0 a1 a2 a3 l k)) = allC a0 a1 a2 a3 l (k + 1) := by
  unfold allC
  rw [List.set_append_right _ _ (by rw [toldC_length]; omega), toldC_length, Nat.sub_self, toldC_succ, show 8 - k = 8 - (k + 1) + 1 by omega, List.replicate_succ, List.set_cons_zero, List.append_assoc]
  rfl
theorem allC_keep {a0 a1 a2 a3 : Int} {l : List Hd} {k : Nat} (hk : k < 8) (h : toldV a0 a1 a2 a3 l k = ⟨#[]⟩) : allC a0 a1 a2 a3 l k = allC a0 a1 a2 a3 l (k + 1) := by
  unfold allC
  rw [toldC_succ, h, show 8 - k = 8 - (k + 1) + 1 by omega, List.replicate_succ, List.append_assoc]
  rfl

set_option maxRecDepth 100000 in
set_option maxHeartbeats 8000000 in
theorem pgAll_any {b : Nat} {F : Nat → Prop} {l : List Hd} (a0 a1 a2 a3 : Int) (w : World) (hS : StP w b F l) (hl : l.length ≤ 1000) (ha : Apart l) (ho : ∀ h ∈ l, okVer h.v = true) :
    Calls Tryd.prog 38 #[.pointer (some ⟨b, 0, none⟩), .agg #[.int .i64 a0, .int .i64 a1, .int .i64 a2, .int .i64 a3]] w fun e w' => ∃ v, e = .returned v ∧ w'.ownsRow w.heap.size 9 1 v 8 (toldC a0 a1 a2 a3 l 8) ∧ Below w.heap.size w w' := by
  have RA := RowL.new (w := w) (T := 37) [.int .i64 a0, .int .i64 a1, .int .i64 a2, .int .i64 a3] rfl
  have hb := boxed (Below.refl _ w) (.cells #[.int .i64 a0, .int .i64 a1, .int .i64 a2, .int .i64 a3] 37)
  have HS : Hid (StP w b F l) := hS
  have HA : Hid (Apart l) := ha
  have HO : Hid (∀ h ∈ l, okVer h.v = true) := ho
  clear hS ha ho
  obtain ⟨i0, hi, hz0, hz1, hz2⟩ := info_parts strInfo
  obtain ⟨W2, hmk, own0, gr0⟩ := run_make_full (P := Tryd.prog) (w.alloc (.cells #[.int .i64 a0, .int .i64 a1, .int .i64 a2, .int .i64 a3] 37)) w.heap.size 83 9 i0 (.string ⟨#[]⟩) 1 Tryd.underlying83 hi hz0 hz1 .i64 .i64 8 (by rw [hz2]; decide) (by simp [maxLen]) (by simp)
  have hmk2 : (Instr.makeSlice 83 (.int .i64 8) (.int .i64 8)).run Tryd.prog (w.alloc (.cells #[.int .i64 a0, .int .i64 a1, .int .i64 a2, .int .i64 a3] 37)) = .ok (.slice (some ⟨w.heap.size + 1, 0, none⟩) 8 8) W2 := by
    rw [World.size_alloc] at hmk
    exact hmk
  have ownA : W2.ownsRow w.heap.size 9 1 (.slice (some ⟨w.heap.size + 1, 0, none⟩) 8 8) 8 (allC a0 a1 a2 a3 l 0) := by
    rw [World.size_alloc, show (Value.string ⟨#[]⟩).cells = #[Value.string ⟨#[]⟩] from rfl, toList_madeCells_one] at own0
    exact own0
  have RA2 := RA.grown gr0 (by simp)
  have hb2 : Below w.heap.size w W2 := hb.grown gr0 hb.size (fun k e => by cases e)
  clear hmk own0 RA hb gr0 hi hz0 hz1 hz2
  go_enter Tryd.func38, Tryd.ntmps38
  go_wp2_with fail
  clear hmk2
  go_loopw [12] (fun iv wr => ∃ (k : Nat) (z : Int), k ≤ 8 ∧ z = k ∧ iv = .int .i64 z ∧ wr.ownsRow w.heap.size 9 1 (.slice (some ⟨w.heap.size + 1, 0, none⟩) 8 8) 8 (allC a0 a1 a2 a3 l k) ∧ RowL wr w.heap.size [.int .i64 a0, .int .i64 a1, .int .i64 a2, .int .i64 a3] ∧ Below w.heap.size w wr) (fun i _ => 8 - (intOf i).toNat)
  case atStart => exact ⟨0, 0, by omega, rfl, rfl, ownA, RA2, hb2⟩
  case round =>
    clear ownA RA2 hb2
    obtain ⟨k, z, hk, hz, rfl, ownk, RA, hb⟩ := hrel
    have HZ : Hid (z = k) := hz
    by_cases hlt : k < 8
    · have h1 : z < 8 := by omega
      have h3 : 0 ≤ z := by omega
      have h2 : z.toNat = k := by omega
      have S4 := HS.out.kept (fun j hj => hb.block j (HS.out.lt j hj)) hb.size
      have c0 := RA.cell 0 _ rfl
      have c1 := RA.cell 1 _ rfl
      have c2 := RA.cell 2 _ rfl
      have c3 := RA.cell 3 _ rfl
      clear hz
      go_wp2_with fail
      refine (pgRead_any z a0 a1 a2 a3 _ S4 hl HA.out HO.out).mono ?_
      rintro e w2 ⟨rfl, hb2⟩
      clear c0 c1 c2 c3 S4
      have hsize := readV_size (key := z) (a0 := a0) (a1 := a1) (a2 := a2) (a3 := a3) HO.out
      have TK0 : Hid (toldV a0 a1 a2 a3 l k = if (readV z a0 a1 a2 a3 l).2 = 0 then (⟨#[61]⟩ : ByteArray) ++ (readV z a0 a1 a2 a3 l).1.data else ⟨#[]⟩) := by
        show toldV a0 a1 a2 a3 l k = _
        rw [HZ.out]
        rfl
      obtain ⟨⟨rv, re⟩, hrd⟩ : ∃ x, readV z a0 a1 a2 a3 l = x := ⟨_, rfl⟩
      rw [hrd] at TK0 hsize ⊢
      simp only at TK0 hsize ⊢
      clear hrd
      obtain ⟨bw, bc, bs, bq, bd, bg⟩ := rv
      simp only at TK0 hsize
      rw [show verL ⟨bw, bc, bs, bq, bd, bg⟩ = [.int .i64 bw, .int .i64 bc, .int .i64 bs, .int .i64 bq, .string bd, .bool bg] from rfl]
      replace RA := (RA.later hb2).boxed (.cells #[.int .i64 bw, .int .i64 bc, .int .i64 bs, .int .i64 bq, .string bd, .bool bg] 71)
      have ownk1 : w2.ownsRow w.heap.size 9 1 (.slice (some ⟨w.heap.size + 1, 0, none⟩) 8 8) 8 (allC a0 a1 a2 a3 l k) := ownk.kept (row := none) ⟨hb2.os, hb2.tape, hb2.output, hb2.size, fun j hj _ => hb2.block j hj⟩ (by simp [Value.ownBlock])
      replace ownk := ownk1.alloc (.cells #[.int .i64 bw, .int .i64 bc, .int .i64 bs, .int .i64 bq, .string bd, .bool bg] 71)
      replace hb := boxed (behind hb hb2) (.cells #[.int .i64 bw, .int .i64 bc, .int .i64 bs, .int .i64 bq, .string bd, .bool bg] 71)
      have RB := RowL.new (w := w2) (T := 71) [.int .i64 bw, .int .i64 bc, .int .i64 bs, .int .i64 bq, .string bd, .bool bg] rfl
      clear hb2 ownk1
      have d3 := RB.cell 4 _ rfl
      clear RB
      by_cases he0 : re = 0
      · subst he0
        have TK : Hid (toldV a0 a1 a2 a3 l k = (⟨#[61]⟩ : ByteArray) ++ bd) := by show toldV a0 a1 a2 a3 l k = _; rw [TK0.out, if_pos rfl]
        have ad := fun w => addS (P := Tryd.prog) (⟨#[61]⟩ : ByteArray) bd (by have z : (⟨#[61]⟩ : ByteArray).size = 1 := rfl; omega) w
        have ev : errV 0 = .nilIface := rfl
        rw [ev]
        have cc := ownk.cellAt k (by omega)
        have cx : ∃ u, (allC a0 a1 a2 a3 l k)[k]? = some u := ⟨_, List.getElem?_eq_getElem (by simp [allC, toldC_length]; omega)⟩
        obtain ⟨ux, hux⟩ := cx
        rw [hux] at cc
        have ff := ownk.frozenAt k
        have ST := ownk.stored k (.string ((⟨#[61]⟩ : ByteArray) ++ bd))
        have hbl := RA.lt
        have RA9 := RA.grown ST.2 (by simp)
        have hb9 := hb.grown ST.2 (by have := hb.size; omega) (fun j e => by cases e; omega)
        have own9 : ((w2.alloc (.cells #[.int .i64 bw, .int .i64 bc, .int .i64 bs, .int .i64 bq, .string bd, .bool bg] 71)).setCell ⟨w.heap.size + 1, k, none⟩ (.string ((⟨#[61]⟩ : ByteArray) ++ bd))).ownsRow w.heap.size 9 1 (.slice (some ⟨w.heap.size + 1, 0, none⟩) 8 8) 8 (allC a0 a1 a2 a3 l (k + 1)) := by
          rw [← allC_set hlt, TK.out]
          exact ST.1
        clear TK0 hux ST ownk
        go_wp2_with fail
        go_roundw
        case rel => exact ⟨k + 1, z + 1, by omega, by have := HZ.out; omega, by go_num, own9, RA9, hb9⟩
        case measure => simp [intOf]; have := HZ.out; omega
      · have ev : errV re = .iface 24 (.int .i64 re) := by unfold errV; rw [if_neg he0]
        rw [ev]
        have TK : Hid (toldV a0 a1 a2 a3 l k = ⟨#[]⟩) := by show toldV a0 a1 a2 a3 l k = _; rw [TK0.out, if_neg he0]
        have own9 : (w2.alloc (.cells #[.int .i64 bw, .int .i64 bc, .int .i64 bs, .int .i64 bq, .string bd, .bool bg] 71)).ownsRow w.heap.size 9 1 (.slice (some ⟨w.heap.size + 1, 0, none⟩) 8 8) 8 (allC a0 a1 a2 a3 l (k + 1)) := by
          rw [← allC_keep hlt TK.out]
          exact ownk
        clear TK0 ownk ev
        go_wp2_with fail
        go_roundw
        case rel => exact ⟨k + 1, z + 1, by omega, by have := HZ.out; omega, by go_num, own9, RA, hb⟩
        case measure => simp [intOf]; have := HZ.out; omega
    · obtain rfl : k = 8 := by omega
      have h1 : ¬ z < 8 := by omega
      clear hz
      have own9 : wr.ownsRow w.heap.size 9 1 (.slice (some ⟨w.heap.size + 1, 0, none⟩) 8 8) 8 (toldC a0 a1 a2 a3 l 8) := by
        have e : allC a0 a1 a2 a3 l 8 = toldC a0 a1 a2 a3 l 8 := by unfold allC; simp
        rw [← e]
        exact ownk
      clear ownk
      go_wp2_with fail
      go_ret
      exact ⟨_, rfl, own9, hb⟩

end Go.Proofs.YtnbgjiibpnoieaaDoor
