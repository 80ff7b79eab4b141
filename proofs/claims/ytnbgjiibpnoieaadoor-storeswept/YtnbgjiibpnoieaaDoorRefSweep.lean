/-
  What the document's own Sweep of a store is, as the model runs it (copseref.Store.Sweep).
-/
import Derived.Test.YtnbgjiibpnoieaaDoorRefPut
import Derived.Laws.StructEq
import Derived.Lib.SmallJoins
namespace Go.Proofs.YtnbgjiibpnoieaaDoor
open Go.RowKit

/-- two versions are the same -/
def eqV (a b : Ver) : Bool := (a.wall == b.wall && a.count == b.count) && a.site == b.site && a.seq == b.seq && a.data.toList == b.data.toList && a.gone == b.gone

theorem eqStamp9 (a b c d : Int) (w : World) : (Op.equalIn 9999 23 (.agg #[.int .i64 a, .int .i64 b]) (.agg #[.int .i64 c, .int .i64 d])).run Tryd.prog w = .ok (a == c && b == d) w := by
  have u3 := Tryd.underlying3
  have a3 := Tryd.isAgg3
  have z3 := Tryd.sizeOf3
  have hS : Tryd.prog.underlying 23 = some (.struct (Tryd.prog.fieldsOf 23)) := by kernel_rfl
  have hp : Tryd.prog.stoodInHeld 23 = false := by kernel_rfl
  rw [show (9999 : Nat) = 9998 + 1 from rfl, run_equalIn_agg w 9998 23 _ _ hS hp]
  simp only [Program.fieldsOf, Tryd.underlying23]
  go_simp
  by_cases h1 : a = c <;> by_cases h2 : b = d <;> simp [h1, h2]

theorem eqVerB (a b : Ver) (w : World) : (binOp .eql 71 (.agg #[.int .i64 a.wall, .int .i64 a.count, .int .i64 a.site, .int .i64 a.seq, .string a.data, .bool a.gone]) (.agg #[.int .i64 b.wall, .int .i64 b.count, .int .i64 b.site, .int .i64 b.seq, .string b.data, .bool b.gone])).run Tryd.prog w = .ok (.bool (eqV a b)) w := by
  have u3 := Tryd.underlying3
  have a3 := Tryd.isAgg3
  have z3 := Tryd.sizeOf3
  have u4 := Tryd.underlying4
  have a4 := Tryd.isAgg4
  have z4 := Tryd.sizeOf4
  have u9 := Tryd.underlying9
  have a9 := Tryd.isAgg9
  have z9 := Tryd.sizeOf9
  have hS : Tryd.prog.underlying 71 = some (.struct (Tryd.prog.fieldsOf 71)) := by kernel_rfl
  have hp : Tryd.prog.stoodInHeld 71 = false := by kernel_rfl
  have s9 := eqStamp9
  have aS := Tryd.isAgg23
  have zS := Tryd.sizeOf23
  rw [run_eql_struct]
  rw [show (10000 : Nat) = 9999 + 1 from rfl, run_equalIn_agg w 9999 71 _ _ hS hp]
  simp only [Program.fieldsOf, Tryd.underlying71]
  go_simp
  by_cases h1 : a.wall = b.wall <;> by_cases h2 : a.count = b.count <;> by_cases h3 : a.site = b.site <;> by_cases h4 : a.seq = b.seq <;> by_cases h5 : a.data.toList = b.data.toList <;> by_cases h6 : a.gone = b.gone <;> simp [eqV, h1, h2, h3, h4, h5, h6]

/-- what stays behind a sweep -/
def keepV (a0 a1 a2 a3 : Int) (l : List Hd) (h : Hd) : Bool := !(someB (lastV h.key a0 a1 a2 a3 l)) || eqV ((lastV h.key a0 a1 a2 a3 l).getD ver0) h.v || !(hasV a0 a1 a2 a3 h.v)
def sweepL (a0 a1 a2 a3 : Int) (l : List Hd) : List Hd := l.filter (keepV a0 a1 a2 a3 l)
theorem take_hd {l : List Hd} {k : Nat} (hk : k < l.length) : l.take (k + 1) = l.take k ++ [hdAt l k] := by
  rw [List.take_succ_eq_append_getElem hk]
  simp [hdAt, List.getD, List.getElem?_eq_getElem hk]
theorem kept_length {l kept : List Hd} {k : Nat} {p : Hd → Bool} (h : (l.take k).filter p = kept) : kept.length ≤ l.length := by
  rw [← h]
  exact Nat.le_trans (List.length_filter_le _ _) (by rw [List.length_take]; omega)
theorem Row4.grown4 {w w' : World} {r : Option Nat} {b : Nat} {a0 a1 a2 a3 : Int} (h : Row4 w b a0 a1 a2 a3) (hg : w.grownBy w' r) (hne : some b ≠ r) : Row4 w' b a0 a1 a2 a3 := by
  have e := hg.block b h.lt hne
  constructor
  · rw [World.cell?_of_block (w := w) e]; exact h.c0
  · rw [World.cell?_of_block (w := w) e]; exact h.c1
  · rw [World.cell?_of_block (w := w) e]; exact h.c2
  · rw [World.cell?_of_block (w := w) e]; exact h.c3
  · rw [World.frozen?_of_block (w := w) e]; exact h.f0
  · rw [World.frozen?_of_block (w := w) e]; exact h.f1
  · rw [World.frozen?_of_block (w := w) e]; exact h.f2
  · rw [World.frozen?_of_block (w := w) e]; exact h.f3

set_option maxHeartbeats 8000000 in
theorem refSweep_any {sb : Nat} {sv : Value} {l : List Hd} (a0 a1 a2 a3 : Int) (w : World) (hS : RefSt w sb sv l) (hl : l.length ≤ 1000) :
    Calls Tryd.prog 33 #[.pointer (some ⟨sb, 0, none⟩), .agg #[.int .i64 a0, .int .i64 a1, .int .i64 a2, .int .i64 a3]] w fun e w' => e = .returned (.tuple #[]) ∧ PutPost w sb sv (sweepL a0 a1 a2 a3 l) w' := by
  have hne := Later.one
  obtain ⟨a, cap, rfl, hH⟩ := hdIn_own hS.own
  have RA := Row4.new w 37 a0 a1 a2 a3
  have hb := boxed (Below.refl _ w) (.cells #[.int .i64 a0, .int .i64 a1, .int .i64 a2, .int .i64 a3] 37)
  have S1 := hS.later hb
  have s0 : (w.alloc (.cells #[.int .i64 a0, .int .i64 a1, .int .i64 a2, .int .i64 a3] 37)).cell? ⟨sb, 0, none⟩ = some (.slice a l.length cap) := S1.box.cell 0 _ rfl
  have hsb : sb < w.heap.size := hS.box.lt
  go_enter Tryd.func33, Tryd.ntmps33
  go_wp2_with fail
  clear s0 S1
  obtain ⟨W, hWW⟩ : ∃ W, w.alloc (.cells #[.int .i64 a0, .int .i64 a1, .int .i64 a2, .int .i64 a3] 37) = W := ⟨_, rfl⟩
  rw [hWW] at RA hb ⊢
  clear hWW
  go_loopw [4, 14] (fun sl iv wr => ∃ (k : Nat) (z : Int) (kept : List Hd) (lv : Value), lv = sl ∧ k ≤ l.length ∧ z = k ∧ iv = .int .i64 z ∧ (l.take k).filter (keepV a0 a1 a2 a3 l) = kept ∧ wr.ownsRow (w.heap.size + 1) 122 7 lv kept.length (hdsL kept) ∧ Row4 wr w.heap.size a0 a1 a2 a3 ∧ Below w.heap.size w wr) (fun _ i _ => l.length - (intOf i).toNat)
  case atStart => exact ⟨0, 0, [], _, rfl, by omega, rfl, rfl, rfl, World.ownsRow_nil _ _ _ _, RA, hb⟩
  case round =>
    clear RA hb
    obtain ⟨k, z, kept, lv, hsl, hk, hz, rfl, hkp, ownk, RA, hb⟩ := hrel
    subst hsl
    have HKP : Hid ((l.take k).filter (keepV a0 a1 a2 a3 l) = kept) := hkp
    have HZ : Hid (z = k) := hz
    clear hkp
    by_cases hlt : k < l.length
    · have h1 : z < (l.length : Int) := by omega
      have h2 : z.toNat = k := by omega
      have h3 : 0 ≤ z := by omega
      clear hz
      have S4 := hS.later hb
      have hH4 := hH.later hb
      obtain ⟨b, off, rfl, hcc⟩ : ∃ b off, a = some ⟨b, off, none⟩ ∧ ∀ i r u, i < l.length → (hdL (hdAt l i))[r]? = some u → wr.cell? ⟨b, off + (i * 7 + r), none⟩ = some u := by
        rcases hH4.held with h0 | h0
        · rw [h0] at hlt; simp at hlt
        · exact h0
      obtain ⟨⟨hk_, ⟨hw, hc, hs, hq, hd, hg⟩⟩, hx⟩ : ∃ x, hdAt l k = x := ⟨_, rfl⟩
      have x0 : wr.cell? ⟨b, off + k * 7, none⟩ = some (.int .i64 hk_) := hcc k 0 _ hlt (by rw [hx]; rfl)
      have x1 : wr.cell? ⟨b, off + k * 7 + 1, none⟩ = some (.int .i64 hw) := hcc k 1 _ hlt (by rw [hx]; rfl)
      have x2 : wr.cell? ⟨b, off + k * 7 + 2, none⟩ = some (.int .i64 hc) := hcc k 2 _ hlt (by rw [hx]; rfl)
      have x3 : wr.cell? ⟨b, off + k * 7 + 3, none⟩ = some (.int .i64 hs) := hcc k 3 _ hlt (by rw [hx]; rfl)
      have x4 : wr.cell? ⟨b, off + k * 7 + 4, none⟩ = some (.int .i64 hq) := hcc k 4 _ hlt (by rw [hx]; rfl)
      have x5 : wr.cell? ⟨b, off + k * 7 + 5, none⟩ = some (.string hd) := hcc k 5 _ hlt (by rw [hx]; rfl)
      have x6 : wr.cell? ⟨b, off + k * 7 + 6, none⟩ = some (.bool hg) := hcc k 6 _ hlt (by rw [hx]; rfl)
      have hsite := okVer_site (hS.ok (hdAt l k) (by simp only [hdAt, List.getD, List.getElem?_eq_getElem hlt, Option.getD_some]; exact List.getElem_mem hlt))
      rw [hx] at hsite
      simp only at hsite
      obtain ⟨t0, t1⟩ := hsite
      have t2 : hs < 4 := by omega
      have HX : Hid (hdAt l k = ⟨hk_, ⟨hw, hc, hs, hq, hd, hg⟩⟩) := hx
      clear hx hcc
      replace S4 := S4.later (boxed (Below.refl _ wr) (.cells #[.int .i64 hk_, .int .i64 hw, .int .i64 hc, .int .i64 hs, .int .i64 hq, .string hd, .bool hg] 122))
      replace hH4 := hH4.later (boxed (Below.refl _ wr) (.cells #[.int .i64 hk_, .int .i64 hw, .int .i64 hc, .int .i64 hs, .int .i64 hq, .string hd, .bool hg] 122))
      replace RA := RA.boxed (.cells #[.int .i64 hk_, .int .i64 hw, .int .i64 hc, .int .i64 hs, .int .i64 hq, .string hd, .bool hg] 122)
      replace ownk := ownk.alloc (.cells #[.int .i64 hk_, .int .i64 hw, .int .i64 hc, .int .i64 hs, .int .i64 hq, .string hd, .bool hg] 122)
      replace hb := boxed hb (.cells #[.int .i64 hk_, .int .i64 hw, .int .i64 hc, .int .i64 hs, .int .i64 hq, .string hd, .bool hg] 122)
      have RY := RowL.new (w := wr) (T := 122) [.int .i64 hk_, .int .i64 hw, .int .i64 hc, .int .i64 hs, .int .i64 hq, .string hd, .bool hg] rfl
      have c0 := RA.c0
      have c1 := RA.c1
      have c2 := RA.c2
      have c3 := RA.c3
      have y0 := RY.cell 0 _ rfl
      go_wp2_with fail
      clear x0 x1 x2 x3 x4 x5 x6
      refine (refLast_any hk_ a0 a1 a2 a3 _ (S4.box.cell 0 _ rfl) hH4 hS.ok (by omega)).mono ?_
      rintro e w2 ⟨rfl, hb2⟩
      clear c0 c1 c2 c3 y0 S4 hH4
      obtain ⟨best, hbest⟩ : ∃ best, lastV hk_ a0 a1 a2 a3 l = best := ⟨_, rfl⟩
      have KE : Hid (keepV a0 a1 a2 a3 l (hdAt l k) = (!(someB best) || eqV (best.getD ver0) ⟨hw, hc, hs, hq, hd, hg⟩ || !(hasV a0 a1 a2 a3 ⟨hw, hc, hs, hq, hd, hg⟩))) := by
        show keepV a0 a1 a2 a3 l (hdAt l k) = _
        rw [HX.out, ← hbest]
        rfl
      rw [hbest, bestL_eq]
      clear hbest
      obtain ⟨sbv, hsbv⟩ : ∃ s, someB best = s := ⟨_, rfl⟩
      obtain ⟨bv, hbv⟩ : ∃ v, best.getD ver0 = v := ⟨_, rfl⟩
      rw [hsbv, hbv] at KE ⊢
      clear hsbv hbv
      obtain ⟨bw, bc, bs, bq, bd, bg⟩ := bv
      rw [show verL ⟨bw, bc, bs, bq, bd, bg⟩ = [.int .i64 bw, .int .i64 bc, .int .i64 bs, .int .i64 bq, .string bd, .bool bg] from rfl]
      replace RA := (RA.later hb2).boxed (.cells #[.int .i64 bw, .int .i64 bc, .int .i64 bs, .int .i64 bq, .string bd, .bool bg] 71)
      replace RY := (RY.later hb2).boxed (.cells #[.int .i64 bw, .int .i64 bc, .int .i64 bs, .int .i64 bq, .string bd, .bool bg] 71)
      replace ownk := (own_below7 ownk hb2).alloc (.cells #[.int .i64 bw, .int .i64 bc, .int .i64 bs, .int .i64 bq, .string bd, .bool bg] 71)
      replace hb := boxed (behind hb hb2) (.cells #[.int .i64 bw, .int .i64 bc, .int .i64 bs, .int .i64 bq, .string bd, .bool bg] 71)
      have RB := RowL.new (w := w2) (T := 71) [.int .i64 bw, .int .i64 bc, .int .i64 bs, .int .i64 bq, .string bd, .bool bg] rfl
      clear hb2
      have hat := Later.cell (vec_at RA t0 t1)
      have w0 := Later.cell (RY.cell 0 _ rfl)
      have w1 := Later.cell (RY.cell 1 _ rfl)
      have w2' := Later.cell (RY.cell 2 _ rfl)
      have w3 := Later.cell (RY.cell 3 _ rfl)
      have w4 := Later.cell (RY.cell 4 _ rfl)
      have w5' := Later.cell (RY.cell 5 _ rfl)
      have w6 := Later.cell (RY.cell 6 _ rfl)
      have v0 := Later.cell (RB.cell 0 _ rfl)
      have v1 := Later.cell (RB.cell 1 _ rfl)
      have v2 := Later.cell (RB.cell 2 _ rfl)
      have v3 := Later.cell (RB.cell 3 _ rfl)
      have v4 := Later.cell (RB.cell 4 _ rfl)
      have v5 := Later.cell (RB.cell 5 _ rfl)
      cases sbv
      · go_wp2_with fail
        refine wp_region_later (by kernel_rfl) (by kernel_rfl) ?_
        repeat (go_big_quiet_step (fail))
        refine wpQuiet_nil ?_
        rintro w5 ⟨⟨_, hb5⟩, rfl⟩
        replace RA := RA.later hb5
        replace RY := RY.later hb5
        replace ownk := own_below7 ownk hb5
        replace hb := behind hb hb5
        clear hb5
        have KF : Hid ((l.take (k + 1)).filter (keepV a0 a1 a2 a3 l) = kept ++ [⟨hk_, ⟨hw, hc, hs, hq, hd, hg⟩⟩]) := by
          have e : keepV a0 a1 a2 a3 l (hdAt l k) = true := by rw [KE.out]; rfl
          show (l.take (k + 1)).filter (keepV a0 a1 a2 a3 l) = _
          rw [take_hd hlt, List.filter_append, HKP.out, ← HX.out]
          simp [e]
        have y0 := RY.cell 0 _ rfl
        have y1 := RY.cell 1 _ rfl
        have y2 := RY.cell 2 _ rfl
        have y3 := RY.cell 3 _ rfl
        have y4 := RY.cell 4 _ rfl
        have y5 := RY.cell 5 _ rfl
        have y6 := RY.cell 6 _ rfl
        obtain ⟨i0, hi, hz0, hz1, hz2⟩ := info_parts heldInfo
        have hk6 := kept_length HKP.out
        have hsz5 : w.heap.size + 1 ≤ w5.heap.size := by have := RA.lt; omega
        go_wp2_with (at_builtin; refine wpList_append_lies _ rfl (.tmp 45) (.tmp 47) 67 rfl (w.heap.size + 1) 122 i0 (.agg #[.int .i64 0, .int .i64 0, .int .i64 0, .int .i64 0, .int .i64 0, .string ⟨#[]⟩, .bool false]) 7 64 Tryd.underlying67 hi hz0 hz1 hz2 rfl (by decide) lv kept.length (hdsL kept) rfl (ownk.alloc _) ⟨w5.heap.size, 0, none⟩ 1 1 (hdL ⟨hk_, ⟨hw, hc, hs, hq, hd, hg⟩⟩) rfl rfl (World.news_of_block (heap_alloc_new w5 (.cells #[.int .i64 hk_, .int .i64 hw, .int .i64 hc, .int .i64 hs, .int .i64 hq, .string hd, .bool hg] 122))) (by intro u hu; simp [hdL] at hu; rcases hu with rfl | rfl | rfl | rfl | rfl | rfl | rfl <;> rfl) (by decide) (by simp only [maxLen]; omega) (by omega) (by simp; omega) _ rfl ?_; intro g cap9 wE ownE grE egE ltE)
        have rowsg : ∀ j, lv.ownBlock = some j → w.heap.size + 1 ≤ j := fun j hj => (ownk.lt j hj).1
        have RAE := (RA.boxed (.cells #[.int .i64 hk_, .int .i64 hw, .int .i64 hc, .int .i64 hs, .int .i64 hq, .string hd, .bool hg] 122)).grown4 grE (fun e => by have := rowsg _ e.symm; omega)
        have hbE := (boxed hb (.cells #[.int .i64 hk_, .int .i64 hw, .int .i64 hc, .int .i64 hs, .int .i64 hq, .string hd, .bool hg] 122)).grown grE (by have := hb.size; simp; omega) (fun j hj => by have := rowsg j hj; omega)
        go_roundw
        case rel => exact ⟨k + 1, z + 1, kept ++ [⟨hk_, ⟨hw, hc, hs, hq, hd, hg⟩⟩], _, rfl, by omega, by have := HZ.out; omega, by go_num, KF.out, by rw [hdsL_snoc, List.length_append]; exact ownE, RAE, hbE⟩
        case measure => simp [intOf]; omega
      · cases ev : eqV ⟨bw, bc, bs, bq, bd, bg⟩ ⟨hw, hc, hs, hq, hd, hg⟩
        · have eqv2 := fun w => (eqVerB ⟨bw, bc, bs, bq, bd, bg⟩ ⟨hw, hc, hs, hq, hd, hg⟩ w).trans (by rw [ev])
          cases hh : hasV a0 a1 a2 a3 ⟨hw, hc, hs, hq, hd, hg⟩
          · have dh : decide (depOf hs a0 a1 a2 a3 < hq) = true := decide_eq_true (by have := of_decide_eq_false (show decide (hq ≤ depOf hs a0 a1 a2 a3) = false from hh); omega)
            go_wp2_with fail
            refine wp_region_later (by kernel_rfl) (by kernel_rfl) ?_
            repeat (go_big_quiet_step (fail))
            refine wpQuiet_nil ?_
            rintro w5 ⟨⟨_, hb5⟩, rfl⟩
            replace RA := RA.later hb5
            replace RY := RY.later hb5
            replace ownk := own_below7 ownk hb5
            replace hb := behind hb hb5
            clear hb5
            have KF : Hid ((l.take (k + 1)).filter (keepV a0 a1 a2 a3 l) = kept ++ [⟨hk_, ⟨hw, hc, hs, hq, hd, hg⟩⟩]) := by
              have e : keepV a0 a1 a2 a3 l (hdAt l k) = true := by rw [KE.out]; rw [ev, hh]; rfl
              show (l.take (k + 1)).filter (keepV a0 a1 a2 a3 l) = _
              rw [take_hd hlt, List.filter_append, HKP.out, ← HX.out]
              simp [e]
            have y0 := RY.cell 0 _ rfl
            have y1 := RY.cell 1 _ rfl
            have y2 := RY.cell 2 _ rfl
            have y3 := RY.cell 3 _ rfl
            have y4 := RY.cell 4 _ rfl
            have y5 := RY.cell 5 _ rfl
            have y6 := RY.cell 6 _ rfl
            obtain ⟨i0, hi, hz0, hz1, hz2⟩ := info_parts heldInfo
            have hk6 := kept_length HKP.out
            have hsz5 : w.heap.size + 1 ≤ w5.heap.size := by have := RA.lt; omega
            go_wp2_with (at_builtin; refine wpList_append_lies _ rfl (.tmp 45) (.tmp 47) 67 rfl (w.heap.size + 1) 122 i0 (.agg #[.int .i64 0, .int .i64 0, .int .i64 0, .int .i64 0, .int .i64 0, .string ⟨#[]⟩, .bool false]) 7 64 Tryd.underlying67 hi hz0 hz1 hz2 rfl (by decide) lv kept.length (hdsL kept) rfl (ownk.alloc _) ⟨w5.heap.size, 0, none⟩ 1 1 (hdL ⟨hk_, ⟨hw, hc, hs, hq, hd, hg⟩⟩) rfl rfl (World.news_of_block (heap_alloc_new w5 (.cells #[.int .i64 hk_, .int .i64 hw, .int .i64 hc, .int .i64 hs, .int .i64 hq, .string hd, .bool hg] 122))) (by intro u hu; simp [hdL] at hu; rcases hu with rfl | rfl | rfl | rfl | rfl | rfl | rfl <;> rfl) (by decide) (by simp only [maxLen]; omega) (by omega) (by simp; omega) _ rfl ?_; intro g cap9 wE ownE grE egE ltE)
            have rowsg : ∀ j, lv.ownBlock = some j → w.heap.size + 1 ≤ j := fun j hj => (ownk.lt j hj).1
            have RAE := (RA.boxed (.cells #[.int .i64 hk_, .int .i64 hw, .int .i64 hc, .int .i64 hs, .int .i64 hq, .string hd, .bool hg] 122)).grown4 grE (fun e => by have := rowsg _ e.symm; omega)
            have hbE := (boxed hb (.cells #[.int .i64 hk_, .int .i64 hw, .int .i64 hc, .int .i64 hs, .int .i64 hq, .string hd, .bool hg] 122)).grown grE (by have := hb.size; simp; omega) (fun j hj => by have := rowsg j hj; omega)
            go_roundw
            case rel => exact ⟨k + 1, z + 1, kept ++ [⟨hk_, ⟨hw, hc, hs, hq, hd, hg⟩⟩], _, rfl, by omega, by have := HZ.out; omega, by go_num, KF.out, by rw [hdsL_snoc, List.length_append]; exact ownE, RAE, hbE⟩
            case measure => simp [intOf]; omega
          · have dh : decide (depOf hs a0 a1 a2 a3 < hq) = false := decide_eq_false (by have := of_decide_eq_true (show decide (hq ≤ depOf hs a0 a1 a2 a3) = true from hh); omega)
            go_wp2_with fail
            refine wp_region_later (by kernel_rfl) (by kernel_rfl) ?_
            repeat (go_big_quiet_step (fail))
            refine wpQuiet_nil ?_
            rintro w5 ⟨⟨_, hb5⟩, rfl⟩
            replace RA := RA.later hb5
            replace RY := RY.later hb5
            replace ownk := own_below7 ownk hb5
            replace hb := behind hb hb5
            clear hb5
            have KF : Hid ((l.take (k + 1)).filter (keepV a0 a1 a2 a3 l) = kept) := by
              have e : keepV a0 a1 a2 a3 l (hdAt l k) = false := by rw [KE.out]; rw [ev, hh]; rfl
              show (l.take (k + 1)).filter (keepV a0 a1 a2 a3 l) = kept
              rw [take_hd hlt, List.filter_append, HKP.out]
              simp [e]
            go_wp2_with fail
            go_roundw
            case rel => exact ⟨k + 1, z + 1, kept, _, rfl, by omega, by have := HZ.out; omega, by go_num, KF.out, ownk, RA, hb⟩
            case measure => simp [intOf]; omega
        · have eqv2 := fun w => (eqVerB ⟨bw, bc, bs, bq, bd, bg⟩ ⟨hw, hc, hs, hq, hd, hg⟩ w).trans (by rw [ev])
          go_wp2_with fail
          refine wp_region_later (by kernel_rfl) (by kernel_rfl) ?_
          repeat (go_big_quiet_step (fail))
          refine wpQuiet_nil ?_
          rintro w5 ⟨⟨_, hb5⟩, rfl⟩
          replace RA := RA.later hb5
          replace RY := RY.later hb5
          replace ownk := own_below7 ownk hb5
          replace hb := behind hb hb5
          clear hb5
          have KF : Hid ((l.take (k + 1)).filter (keepV a0 a1 a2 a3 l) = kept ++ [⟨hk_, ⟨hw, hc, hs, hq, hd, hg⟩⟩]) := by
            have e : keepV a0 a1 a2 a3 l (hdAt l k) = true := by rw [KE.out]; rw [ev]; rfl
            show (l.take (k + 1)).filter (keepV a0 a1 a2 a3 l) = _
            rw [take_hd hlt, List.filter_append, HKP.out, ← HX.out]
            simp [e]
          have y0 := RY.cell 0 _ rfl
          have y1 := RY.cell 1 _ rfl
          have y2 := RY.cell 2 _ rfl
          have y3 := RY.cell 3 _ rfl
          have y4 := RY.cell 4 _ rfl
          have y5 := RY.cell 5 _ rfl
          have y6 := RY.cell 6 _ rfl
          obtain ⟨i0, hi, hz0, hz1, hz2⟩ := info_parts heldInfo
          have hk6 := kept_length HKP.out
          have hsz5 : w.heap.size + 1 ≤ w5.heap.size := by have := RA.lt; omega
          go_wp2_with (at_builtin; refine wpList_append_lies _ rfl (.tmp 45) (.tmp 47) 67 rfl (w.heap.size + 1) 122 i0 (.agg #[.int .i64 0, .int .i64 0, .int .i64 0, .int .i64 0, .int .i64 0, .string ⟨#[]⟩, .bool false]) 7 64 Tryd.underlying67 hi hz0 hz1 hz2 rfl (by decide) lv kept.length (hdsL kept) rfl (ownk.alloc _) ⟨w5.heap.size, 0, none⟩ 1 1 (hdL ⟨hk_, ⟨hw, hc, hs, hq, hd, hg⟩⟩) rfl rfl (World.news_of_block (heap_alloc_new w5 (.cells #[.int .i64 hk_, .int .i64 hw, .int .i64 hc, .int .i64 hs, .int .i64 hq, .string hd, .bool hg] 122))) (by intro u hu; simp [hdL] at hu; rcases hu with rfl | rfl | rfl | rfl | rfl | rfl | rfl <;> rfl) (by decide) (by simp only [maxLen]; omega) (by omega) (by simp; omega) _ rfl ?_; intro g cap9 wE ownE grE egE ltE)
          have rowsg : ∀ j, lv.ownBlock = some j → w.heap.size + 1 ≤ j := fun j hj => (ownk.lt j hj).1
          have RAE := (RA.boxed (.cells #[.int .i64 hk_, .int .i64 hw, .int .i64 hc, .int .i64 hs, .int .i64 hq, .string hd, .bool hg] 122)).grown4 grE (fun e => by have := rowsg _ e.symm; omega)
          have hbE := (boxed hb (.cells #[.int .i64 hk_, .int .i64 hw, .int .i64 hc, .int .i64 hs, .int .i64 hq, .string hd, .bool hg] 122)).grown grE (by have := hb.size; simp; omega) (fun j hj => by have := rowsg j hj; omega)
          go_roundw
          case rel => exact ⟨k + 1, z + 1, kept ++ [⟨hk_, ⟨hw, hc, hs, hq, hd, hg⟩⟩], _, rfl, by omega, by have := HZ.out; omega, by go_num, KF.out, by rw [hdsL_snoc, List.length_append]; exact ownE, RAE, hbE⟩
          case measure => simp [intOf]; omega
    · have h4 : ¬ z < (l.length : Int) := by omega
      have e : k = l.length := by omega
      have KP : Hid (sweepL a0 a1 a2 a3 l = kept) := by
        show sweepL a0 a1 a2 a3 l = kept
        have := HKP.out
        rw [e, List.take_length] at this
        exact this
      clear hz e
      have S4 := hS.later hb
      have s0 : wr.cell? ⟨sb, 0, none⟩ = some (.slice a l.length cap) := S4.box.cell 0 _ rfl
      have s1 : wr.frozen? ⟨sb, 0, none⟩ = false := S4.box.free 0 (by simp)
      have rowsg : ∀ j, lv.ownBlock = some j → w.heap.size + 1 ≤ j := fun j hj => (ownk.lt j hj).1
      obtain ⟨a9, cap9, rfl, _⟩ := hdIn_own ownk
      have BZ := S4.box.set 0 (.slice a9 kept.length cap9) (by simp)
      have nsb : (Value.slice a9 kept.length cap9).ownBlock ≠ some sb := fun e => by have := rowsg sb e; omega
      have ownZ := Joins.ownsRow_le (ownk.kept (row := some sb) (onlyCell sb 0 wr (.slice a9 kept.length cap9)) (.inr nsb)) (Nat.zero_le _)
      have TZ : Touch (footR sb (.slice a l.length cap)) w (wr.setCell ⟨sb, 0, none⟩ (.slice a9 kept.length cap9)) := (Touch.ofBelow hb).trans (Touch.setCell wr ⟨sb, 0, none⟩ _ (.inl rfl))
      have FIN : Hid (PutPost w sb (.slice a l.length cap) kept (wr.setCell ⟨sb, 0, none⟩ (.slice a9 kept.length cap9))) :=
        ⟨_, ⟨BZ, ownZ, nsb, fun x hx => by
          rw [← KP.out] at hx
          exact hS.ok x (List.mem_filter.1 hx).1⟩, fun j hj => .inr (by have := rowsg j hj; omega), TZ⟩
      clear BZ ownZ TZ
      go_wp2_with fail
      go_end0
      exact ⟨rfl, by rw [KP.out]; exact FIN.out⟩

end Go.Proofs.YtnbgjiibpnoieaaDoor
