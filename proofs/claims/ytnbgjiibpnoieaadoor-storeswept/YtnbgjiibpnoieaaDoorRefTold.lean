/-
  What the document's own Told of a store is, as the model runs it (copseref.Store.Told).
-/
import Derived.Test.YtnbgjiibpnoieaaDoorRefSweep
import Derived.Test.YtnbgjiibpnoieaaDoorBytes
namespace Go.Proofs.YtnbgjiibpnoieaaDoor
open Go.RowKit

theorem stepV_cases (key a0 a1 a2 a3 : Int) (best : Option Ver) (h : Hd) : stepV key a0 a1 a2 a3 best h = best ∨ (stepV key a0 a1 a2 a3 best h = some h.v ∧ h.key = key ∧ hasV a0 a1 a2 a3 h.v = true) := by
  by_cases hc : h.key = key ∧ hasV a0 a1 a2 a3 h.v = true ∧ (match best with | none => true | some b => beforeV b h.v) = true
  · exact .inr ⟨stepV_some hc, hc.1, hc.2.1⟩
  · exact .inl (stepV_none hc)
theorem foldl_step (key a0 a1 a2 a3 : Int) (v : Ver) : ∀ (l : List Hd) (best : Option Ver), l.foldl (stepV key a0 a1 a2 a3) best = some v → best = some v ∨ ∃ h ∈ l, h.v = v ∧ h.key = key ∧ hasV a0 a1 a2 a3 v = true
  | [], best, h => .inl h
  | x :: l, best, h => by
    rcases foldl_step key a0 a1 a2 a3 v l _ h with e | ⟨y, hy, e⟩
    · rcases stepV_cases key a0 a1 a2 a3 best x with hc | ⟨hc, h1, h2⟩
      · rw [hc] at e
        exact .inl e
      · rw [hc] at e
        injection e with e
        subst e
        exact .inr ⟨x, by simp, rfl, h1, h2⟩
    · exact .inr ⟨y, by simp [hy], e⟩
/-- the last one is one of those that are held -/
theorem lastV_mem {key a0 a1 a2 a3 : Int} {l : List Hd} {v : Ver} (h : lastV key a0 a1 a2 a3 l = some v) : ∃ x ∈ l, x.v = v ∧ x.key = key ∧ hasV a0 a1 a2 a3 v = true := by
  rcases foldl_step key a0 a1 a2 a3 v l none h with e | e
  · cases e
  · exact e
theorem okVer_size {v : Ver} (h : okVer v = true) : v.data.size ≤ 12 := by
  simp only [okVer, Bool.and_eq_true, decide_eq_true_eq] at h
  have := h.1.2
  omega
theorem readV_size {key a0 a1 a2 a3 : Int} {l : List Hd} (hok : ∀ h ∈ l, okVer h.v = true) : (readV key a0 a1 a2 a3 l).1.data.size ≤ 12 := by
  have z : ver0.data.size ≤ 12 := by decide
  unfold readV
  split
  · cases e : lastV key a0 a1 a2 a3 l with
    | none => exact z
    | some v =>
      obtain ⟨x, hx, e2, _⟩ := lastV_mem e
      show (if v.gone = true then (ver0, (8 : Int)) else (v, 0)).1.data.size ≤ 12
      split
      · exact z
      · rw [← e2]; exact okVer_size (hok x hx)
  · exact z

/-- what is told of a key -/
def toldV (a0 a1 a2 a3 : Int) (l : List Hd) (key : Int) : ByteArray := if (readV key a0 a1 a2 a3 l).2 = 0 then (⟨#[61]⟩ : ByteArray) ++ (readV key a0 a1 a2 a3 l).1.data else ⟨#[]⟩
/-- .. of the first k keys, as cells -/
def toldC (a0 a1 a2 a3 : Int) (l : List Hd) (k : Nat) : List Value := (List.range k).map fun (i : Nat) => Value.string (toldV a0 a1 a2 a3 l i)
theorem toldC_succ (a0 a1 a2 a3 : Int) (l : List Hd) (k : Nat) : toldC a0 a1 a2 a3 l (k + 1) = toldC a0 a1 a2 a3 l k ++ [.string (toldV a0 a1 a2 a3 l k)] := by
  unfold toldC
  rw [List.range_succ, List.map_append]
  rfl

theorem strInfo : (Tryd.prog.info? 9).map (fun i => (i.zero, i.size, i.bytes)) = some (some (.string ⟨#[]⟩), 1, 16) := by kernel_rfl

set_option maxHeartbeats 8000000 in
theorem refTold_any {sb : Nat} {sv : Value} {l : List Hd} (a0 a1 a2 a3 : Int) (w : World) (hS : RefSt w sb sv l) (hl : l.length ≤ 1000) :
    Calls Tryd.prog 39 #[.pointer (some ⟨sb, 0, none⟩), .agg #[.int .i64 a0, .int .i64 a1, .int .i64 a2, .int .i64 a3]] w fun e w' => ∃ v, e = .returned v ∧ w'.ownsRow (w.heap.size + 1) 9 1 v 8 (toldC a0 a1 a2 a3 l 8) ∧ Below w.heap.size w w' := by
  obtain ⟨a, cap, rfl, hH⟩ := hdIn_own hS.own
  have RA := Row4.new w 37 a0 a1 a2 a3
  have hb := boxed (Below.refl _ w) (.cells #[.int .i64 a0, .int .i64 a1, .int .i64 a2, .int .i64 a3] 37)
  go_enter Tryd.func39, Tryd.ntmps39
  go_wp2_with fail
  obtain ⟨W, hWW⟩ : ∃ W, w.alloc (.cells #[.int .i64 a0, .int .i64 a1, .int .i64 a2, .int .i64 a3] 37) = W := ⟨_, rfl⟩
  rw [hWW] at RA hb ⊢
  clear hWW
  go_loopw [5, 9] (fun sl iv wr => ∃ (k : Nat) (z : Int) (lv : Value), lv = sl ∧ k ≤ 8 ∧ z = k ∧ iv = .int .i64 z ∧ wr.ownsRow (w.heap.size + 1) 9 1 lv k (toldC a0 a1 a2 a3 l k) ∧ Row4 wr w.heap.size a0 a1 a2 a3 ∧ Below w.heap.size w wr) (fun _ i _ => 8 - (intOf i).toNat)
  case atStart => exact ⟨0, 0, _, rfl, by omega, rfl, rfl, World.ownsRow_nil _ _ _ _, RA, hb⟩
  case round =>
    clear RA hb
    obtain ⟨k, z, lv, hsl, hk, hz, rfl, ownk, RA, hb⟩ := hrel
    subst hsl
    have HZ : Hid (z = k) := hz
    by_cases hlt : k < 8
    · have h1 : z < 8 := by omega
      have h3 : 0 ≤ z := by omega
      have S4 := hS.later hb
      have hH4 := hH.later hb
      have c0 := RA.c0
      have c1 := RA.c1
      have c2 := RA.c2
      have c3 := RA.c3
      clear hz
      go_wp2_with fail
      refine (refRead_any z a0 a1 a2 a3 _ (S4.box.cell 0 _ rfl) hH4 hS.ok (by omega)).mono ?_
      rintro e w2 ⟨rfl, hb2⟩
      clear c0 c1 c2 c3 S4 hH4
      have hsize := readV_size (key := z) (a0 := a0) (a1 := a1) (a2 := a2) (a3 := a3) hS.ok
      have TK0 : Hid (toldV a0 a1 a2 a3 l k = if (readV z a0 a1 a2 a3 l).2 = 0 then (⟨#[61]⟩ : ByteArray) ++ (readV z a0 a1 a2 a3 l).1.data else ⟨#[]⟩) := by
        show toldV a0 a1 a2 a3 l k = _
        rw [HZ.out]
        rfl
      obtain ⟨⟨rv, re⟩, hrd⟩ : ∃ x, readV z a0 a1 a2 a3 l = x := ⟨_, rfl⟩
      rw [hrd] at TK0 hsize ⊢
      simp only at TK0 hsize ⊢
      clear hrd
      obtain ⟨bw, bc, bs, bq, bd, bg⟩ := rv
      simp only at TK0 hsize
      rw [show verL ⟨bw, bc, bs, bq, bd, bg⟩ = [.int .i64 bw, .int .i64 bc, .int .i64 bs, .int .i64 bq, .string bd, .bool bg] from rfl]
      replace RA := (RA.later hb2).boxed (.cells #[.int .i64 bw, .int .i64 bc, .int .i64 bs, .int .i64 bq, .string bd, .bool bg] 71)
      have ownk1 : w2.ownsRow (w.heap.size + 1) 9 1 lv k (toldC a0 a1 a2 a3 l k) := ownk.kept (row := none) ⟨hb2.os, hb2.tape, hb2.output, hb2.size, fun j hj _ => hb2.block j hj⟩ (by cases lv.ownBlock <;> simp)
      replace ownk := ownk1.alloc (.cells #[.int .i64 bw, .int .i64 bc, .int .i64 bs, .int .i64 bq, .string bd, .bool bg] 71)
      replace hb := boxed (behind hb hb2) (.cells #[.int .i64 bw, .int .i64 bc, .int .i64 bs, .int .i64 bq, .string bd, .bool bg] 71)
      have RB := RowL.new (w := w2) (T := 71) [.int .i64 bw, .int .i64 bc, .int .i64 bs, .int .i64 bq, .string bd, .bool bg] rfl
      clear hb2 ownk1
      have d3 := RB.cell 4 _ rfl
      obtain ⟨i0, hi, hz0, hz1, hz2⟩ := info_parts strInfo
      have hsz : w.heap.size + 1 ≤ w2.heap.size + 1 := by have h := RA.lt; rw [World.size_alloc] at h; omega
      by_cases he0 : re = 0
      · have ee : (re == 0) = true := by simp [he0]
        have TK : Hid (toldV a0 a1 a2 a3 l k = (⟨#[61]⟩ : ByteArray) ++ bd) := by show toldV a0 a1 a2 a3 l k = _; rw [TK0.out, if_pos he0]
        have ad := fun w => addS (P := Tryd.prog) (⟨#[61]⟩ : ByteArray) bd (by have z : (⟨#[61]⟩ : ByteArray).size = 1 := rfl; omega) w
        clear he0 TK0
        have nw : ((w2.alloc (.cells #[.int .i64 bw, .int .i64 bc, .int .i64 bs, .int .i64 bq, .string bd, .bool bg] 71)).alloc (.cells #[.string ((⟨#[61]⟩ : ByteArray) ++ bd)] 9)).heap[w2.heap.size + 1]? = some (.cells #[.string ((⟨#[61]⟩ : ByteArray) ++ bd)] 9) := by have h := heap_alloc_new (w2.alloc (.cells #[.int .i64 bw, .int .i64 bc, .int .i64 bs, .int .i64 bq, .string bd, .bool bg] 71)) (.cells #[.string ((⟨#[61]⟩ : ByteArray) ++ bd)] 9); rw [World.size_alloc] at h; exact h
        go_wp2_with (at_builtin; refine wpList_append_lies _ rfl (.tmp 21) (.tmp 25) 83 rfl (w.heap.size + 1) 9 i0 (.string ⟨#[]⟩) 1 16 Tryd.underlying83 hi hz0 hz1 hz2 rfl (by decide) lv k (toldC a0 a1 a2 a3 l k) rfl (ownk.alloc _) ⟨w2.heap.size + 1, 0, none⟩ 1 1 [.string ((⟨#[61]⟩ : ByteArray) ++ bd)] rfl rfl (World.news_of_block nw) (by intro u hu; simp at hu; rw [hu]; rfl) (by decide) (by simp only [maxLen]; omega) (by omega) (by simp; omega) _ rfl ?_; intro g cap9 wE ownE grE egE ltE)
        have rowsg : ∀ j, lv.ownBlock = some j → w.heap.size + 1 ≤ j := fun j hj => (ownk.lt j hj).1
        have RAE := (RA.boxed (.cells #[.string ((⟨#[61]⟩ : ByteArray) ++ bd)] 9)).grown4 grE (fun e => by have := rowsg _ e.symm; omega)
        have hbE := (boxed hb (.cells #[.string ((⟨#[61]⟩ : ByteArray) ++ bd)] 9)).grown grE (by have := hb.size; simp; omega) (fun j hj => by have := rowsg j hj; omega)
        go_roundw
        case rel => exact ⟨k + 1, z + 1, _, rfl, by omega, by have := HZ.out; omega, by go_num, by rw [toldC_succ, TK.out]; exact ownE, RAE, hbE⟩
        case measure => simp [intOf]; omega
      · have ee : (re == 0) = false := beq_eq_false_iff_ne.2 he0
        have TK : Hid (toldV a0 a1 a2 a3 l k = ⟨#[]⟩) := by show toldV a0 a1 a2 a3 l k = _; rw [TK0.out, if_neg he0]
        clear he0 TK0
        have nw : ((w2.alloc (.cells #[.int .i64 bw, .int .i64 bc, .int .i64 bs, .int .i64 bq, .string bd, .bool bg] 71)).alloc (.cells #[.string ⟨#[]⟩] 9)).heap[w2.heap.size + 1]? = some (.cells #[.string ⟨#[]⟩] 9) := by have h := heap_alloc_new (w2.alloc (.cells #[.int .i64 bw, .int .i64 bc, .int .i64 bs, .int .i64 bq, .string bd, .bool bg] 71)) (.cells #[.string ⟨#[]⟩] 9); rw [World.size_alloc] at h; exact h
        go_wp2_with (at_builtin; refine wpList_append_lies _ rfl (.tmp 27) (.tmp 28) 83 rfl (w.heap.size + 1) 9 i0 (.string ⟨#[]⟩) 1 16 Tryd.underlying83 hi hz0 hz1 hz2 rfl (by decide) lv k (toldC a0 a1 a2 a3 l k) rfl (ownk.alloc _) ⟨w2.heap.size + 1, 0, none⟩ 1 1 [.string ⟨#[]⟩] rfl rfl (World.news_of_block nw) (by intro u hu; simp at hu; rw [hu]; rfl) (by decide) (by simp only [maxLen]; omega) (by omega) (by simp; omega) _ rfl ?_; intro g cap9 wE ownE grE egE ltE)
        have rowsg : ∀ j, lv.ownBlock = some j → w.heap.size + 1 ≤ j := fun j hj => (ownk.lt j hj).1
        have RAE := (RA.boxed (.cells #[.string ⟨#[]⟩] 9)).grown4 grE (fun e => by have := rowsg _ e.symm; omega)
        have hbE := (boxed hb (.cells #[.string ⟨#[]⟩] 9)).grown grE (by have := hb.size; simp; omega) (fun j hj => by have := rowsg j hj; omega)
        go_roundw
        case rel => exact ⟨k + 1, z + 1, _, rfl, by omega, by have := HZ.out; omega, by go_num, by rw [toldC_succ, TK.out]; exact ownE, RAE, hbE⟩
        case measure => simp [intOf]; omega
    · obtain rfl : k = 8 := by omega
      go_wp2_with fail
      go_ret
      exact ⟨lv, rfl, ownk, hb⟩

end Go.Proofs.YtnbgjiibpnoieaaDoor
