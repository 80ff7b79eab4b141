/-
  'copsekeep.StoreSwept': the walk.
-/
import Derived.Test.YtnbgjiibpnoieaaDoorThree
import Derived.Test.YtnbgjiibpnoieaaDoorSwFacts
import Derived.Test.YtnbgjiibpnoieaaDoorVecMax
import Derived.Test.YtnbgjiibpnoieaaDoorPgDel
namespace Go.Proofs.YtnbgjiibpnoieaaDoor
open Go.RowKit

theorem Keeps.undrew {X : Nat → Prop} {w w' : World} (h : Keeps X w.drew w') : Keeps X w w' := ⟨h.os, h.tape, h.output, h.size, h.block⟩

set_option maxRecDepth 100000 in
set_option maxHeartbeats 16000000 in
theorem swept_any (a : Option Addr) (cap : Nat) (l : List Hd) (a0 a1 a2 a3 m0 m1 m2 m3 kk turn : Int) (w : World) (hP : HdIn w a cap l) (hg : w.cell? ⟨0, 0, none⟩ = some (.iface 157 (.agg #[.pointer (some ⟨1, 28, none⟩)]))) :
    Calls Tryd.prog 7 #[.slice a l.length cap, .agg #[.int .i64 a0, .int .i64 a1, .int .i64 a2, .int .i64 a3], .agg #[.int .i64 m0, .int .i64 m1, .int .i64 m2, .int .i64 m3], .int .i64 kk, .int .i64 turn] w fun e w' => e = .returned (.bool true) ∧ Below w.heap.size w w' := by
  have HG : Hid (w.cell? ⟨0, 0, none⟩ = some (.iface 157 (.agg #[.pointer (some ⟨1, 28, none⟩)]))) := hg
  clear hg
  have RA := (RowL.new (w := w) (T := 37) [.int .i64 a0, .int .i64 a1, .int .i64 a2, .int .i64 a3] rfl).boxed (.cells #[.int .i64 m0, .int .i64 m1, .int .i64 m2, .int .i64 m3] 37)
  have RM := RowL.new (w := w.alloc (.cells #[.int .i64 a0, .int .i64 a1, .int .i64 a2, .int .i64 a3] 37)) (T := 37) (n := w.heap.size + 1) [.int .i64 m0, .int .i64 m1, .int .i64 m2, .int .i64 m3] (by simp)
  have hb := boxed (boxed (Below.refl _ w) (.cells #[.int .i64 a0, .int .i64 a1, .int .i64 a2, .int .i64 a3] 37)) (.cells #[.int .i64 m0, .int .i64 m1, .int .i64 m2, .int .i64 m3] 37)
  by_cases hl60 : 60 < (l.length : Int)
  · go_enter Tryd.func7, Tryd.ntmps7
    go_wp2_with fail
    go_ret
    exact ⟨rfl, hb⟩
  · have hl : l.length ≤ 60 := by omega
    go_enter Tryd.func7, Tryd.ntmps7
    go_wp2_with fail
    refine (held_any _).mono ?_
    rintro e w1 ⟨rfl, hb1⟩
    replace RA := RA.later hb1
    replace RM := RM.later hb1
    have s1 : w.heap.size + 1 < w1.heap.size := RM.lt
    replace hb := behind hb hb1
    clear hb1
    obtain ⟨wn, hwn, PK⟩ := pick_fix kk (l.length + 1) (by omega) (by omega)
    have T0 := three_init w1 (fun j => j < w1.heap.size) (fun _ h => h)
    have hb2 := boxed (boxed (boxed (Below.refl _ w1) (.cells #[.slice none 0 0, .slice none 0 0, .slice none 0 0, .slice none 0 0, .slice none 0 0, .slice none 0 0, .slice none 0 0, .slice none 0 0] 65)) (.cells #[.slice none 0 0, .slice none 0 0, .slice none 0 0, .slice none 0 0, .slice none 0 0, .slice none 0 0, .slice none 0 0, .slice none 0 0] 65)) (.cells #[.slice none 0 0, .slice none 0 0, .slice none 0 0, .slice none 0 0, .slice none 0 0, .slice none 0 0, .slice none 0 0, .slice none 0 0] 65)
    have pk1 : ((l.length + 1 : Nat) : Int) = (l.length : Int) + 1 := by omega
    rw [pk1] at PK
    clear pk1
    go_wp2_with fail
    refine (PK _).mono ?_
    rintro e w2 ⟨rfl, rfl⟩
    clear PK
    obtain ⟨W, hWW⟩ : ∃ W, ((w1.alloc (.cells #[.slice none 0 0, .slice none 0 0, .slice none 0 0, .slice none 0 0, .slice none 0 0, .slice none 0 0, .slice none 0 0, .slice none 0 0] 65)).alloc (.cells #[.slice none 0 0, .slice none 0 0, .slice none 0 0, .slice none 0 0, .slice none 0 0, .slice none 0 0, .slice none 0 0, .slice none 0 0] 65)).alloc (.cells #[.slice none 0 0, .slice none 0 0, .slice none 0 0, .slice none 0 0, .slice none 0 0, .slice none 0 0, .slice none 0 0, .slice none 0 0] 65) = W := ⟨_, rfl⟩
    rw [hWW] at T0 hb2 ⊢
    clear hWW
    replace RA := RA.later hb2
    replace RM := RM.later hb2
    have hbW := behind hb hb2
    have K0 : Keeps (fun j => j < w1.heap.size) W W := Keeps.refl _ _
    go_wp2_with fail
    go_loopw [15] (fun iv wr => ∃ (k : Nat) (z : Int) (la lb : List Hd), k ≤ l.length ∧ z = k ∧ iv = .int .i64 z ∧ Three wr w1.heap.size (w1.heap.size + 1) (w1.heap.size + 1 + 1) la lb [] (fun j => j < w1.heap.size) ∧ Hid (Put2 l a0 a1 a2 a3 k la lb) ∧ Keeps (fun j => j < w1.heap.size) W wr) (fun i _ => l.length - (intOf i).toNat)
    case atStart => exact ⟨0, 0, [], [], by omega, rfl, rfl, T0, put2_nil l a0 a1 a2 a3, K0⟩
    case round =>
      clear T0 K0
      obtain ⟨k, z, la, lb, hk, hz, rfl, T, PT, K⟩ := hrel
      have HZ : Hid (z = k) := hz
      have hbr : Below w.heap.size w wr := hbW.trans (K.below (fun j hj => by show j < w1.heap.size; omega))
      have RAr := RA.keeps K (by show w.heap.size < w1.heap.size; omega)
      have RMr := RM.keeps K (by show w.heap.size + 1 < w1.heap.size; omega)
      by_cases hlt : k < l.length
      · have h1 : z < (l.length : Int) := by omega
        have h2 : z.toNat = k := by omega
        have h3 : 0 ≤ z := by omega
        have hPr := hP.later hbr
        obtain ⟨b, off, rfl, hcc⟩ : ∃ b off, a = some ⟨b, off, none⟩ ∧ ∀ i r u, i < l.length → (hdL (hdAt l i))[r]? = some u → w.cell? ⟨b, off + (i * 7 + r), none⟩ = some u := by
          rcases hP.held with h0 | h0
          · rw [h0] at hlt; simp at hlt
          · exact h0
        obtain ⟨⟨ky, v⟩, hx⟩ : ∃ x, hdAt l k = x := ⟨_, rfl⟩
        have hbb : b < w.heap.size := World.block_lt_of_cell? _ _ (hcc k 0 _ hlt (by rw [hx]; rfl))
        have q : ∀ r u, (hdL ⟨ky, v⟩)[r]? = some u → w.cell? ⟨b, off + (k * 7 + r), none⟩ = some u := fun r u hu => hcc k r u hlt (by rw [hx]; exact hu)
        have QQ : Hid (∀ r u, (hdL ⟨ky, v⟩)[r]? = some u → w.cell? ⟨b, off + (k * 7 + r), none⟩ = some u) := q
        have HX : Hid (hdAt l k = ⟨ky, v⟩) := hx
        have la1 : la.length ≤ 1000 := by have := PT.out.one.len; omega
        have lb1 : lb.length ≤ 1000 := by have := PT.out.len; omega
        clear hcc hx q hz hPr
        by_cases hw : k = wn
        · have ew : (z == (wn : Int)) = true := by have := HZ.out; simp; omega
          clear hw
          have c0 := RAr.cell 0 _ rfl
          have c1 := RAr.cell 1 _ rfl
          have c2 := RAr.cell 2 _ rfl
          have c3 := RAr.cell 3 _ rfl
          go_wp2_with fail
          refine (three_sweep_b T lb1 PT.out.apart PT.out.ok a0 a1 a2 a3).mono ?_
          rintro e w3 ⟨rfl, T3, K3⟩
          have P3 : Hid (Put2 l a0 a1 a2 a3 k la (sweepL a0 a1 a2 a3 lb)) := PT.out.sweep
          have lb3 : (sweepL a0 a1 a2 a3 lb).length ≤ 1000 := Nat.le_trans sweepL_length lb1
          generalize sweepL a0 a1 a2 a3 lb = lb' at T3 P3 lb3
          clear c0 c1 c2 c3
          have KR : Keeps (fun j => j < w1.heap.size) W w3 := K.trans K3
          have hb3 : Below w.heap.size w w3 := hbW.trans (KR.below (fun j hj => by show j < w1.heap.size; omega))
          have x0 : w3.cell? ⟨b, off + k * 7, none⟩ = some (.int .i64 ky) := cell_later hb3 (QQ.out 0 _ rfl)
          have x1 : w3.cell? ⟨b, off + k * 7 + 1, none⟩ = some (.int .i64 v.wall) := cell_later hb3 (QQ.out 1 _ rfl)
          have x2 : w3.cell? ⟨b, off + k * 7 + 2, none⟩ = some (.int .i64 v.count) := cell_later hb3 (QQ.out 2 _ rfl)
          have x3 : w3.cell? ⟨b, off + k * 7 + 3, none⟩ = some (.int .i64 v.site) := cell_later hb3 (QQ.out 3 _ rfl)
          have x4 : w3.cell? ⟨b, off + k * 7 + 4, none⟩ = some (.int .i64 v.seq) := cell_later hb3 (QQ.out 4 _ rfl)
          have x5 : w3.cell? ⟨b, off + k * 7 + 5, none⟩ = some (.string v.data) := cell_later hb3 (QQ.out 5 _ rfl)
          have x6 : w3.cell? ⟨b, off + k * 7 + 6, none⟩ = some (.bool v.gone) := cell_later hb3 (QQ.out 6 _ rfl)
          have PA : Hid (Calls Tryd.prog 30 #[.pointer (some ⟨w1.heap.size, 0, none⟩), .int .i64 ky, .agg #[.int .i64 v.wall, .int .i64 v.count, .int .i64 v.site, .int .i64 v.seq, .string v.data, .bool v.gone]] w3.drew fun e w' => e = .returned (errV (putE la ky v)) ∧ Three w' w1.heap.size (w1.heap.size + 1) (w1.heap.size + 1 + 1) (putL la ky v) lb' [] (fun j => j < w1.heap.size) ∧ Keeps (fun j => j < w1.heap.size) w3.drew w') := three_put_a (T3.later (Below.refl _ w3).drew) la1 ky v
          go_wp2_with fail
          go_region_law (
            refine step_call rfl 30 #[.pointer (some ⟨w1.heap.size, 0, none⟩), .int .i64 ky, .agg #[.int .i64 v.wall, .int .i64 v.count, .int .i64 v.site, .int .i64 v.seq, .string v.data, .bool v.gone]] (by go_simp) PA.out ?_
            rintro e w4 ⟨rfl, T4, K4⟩
            refine ⟨_, rfl, ?_⟩)
          all_goals
            have KS : Keeps (fun j => j < w1.heap.size) W w4 := KR.trans K4.undrew
            have hb4 : Below w.heap.size w w4 := hbW.trans (KS.below (fun j hj => by show j < w1.heap.size; omega))
            clear x0 x1 x2 x3 x4 x5 x6 PA
            have x0 : w4.cell? ⟨b, off + k * 7, none⟩ = some (.int .i64 ky) := cell_later hb4 (QQ.out 0 _ rfl)
            have x1 : w4.cell? ⟨b, off + k * 7 + 1, none⟩ = some (.int .i64 v.wall) := cell_later hb4 (QQ.out 1 _ rfl)
            have x2 : w4.cell? ⟨b, off + k * 7 + 2, none⟩ = some (.int .i64 v.count) := cell_later hb4 (QQ.out 2 _ rfl)
            have x3 : w4.cell? ⟨b, off + k * 7 + 3, none⟩ = some (.int .i64 v.site) := cell_later hb4 (QQ.out 3 _ rfl)
            have x4 : w4.cell? ⟨b, off + k * 7 + 4, none⟩ = some (.int .i64 v.seq) := cell_later hb4 (QQ.out 4 _ rfl)
            have x5 : w4.cell? ⟨b, off + k * 7 + 5, none⟩ = some (.string v.data) := cell_later hb4 (QQ.out 5 _ rfl)
            have x6 : w4.cell? ⟨b, off + k * 7 + 6, none⟩ = some (.bool v.gone) := cell_later hb4 (QQ.out 6 _ rfl)
            have PB : Hid (Calls Tryd.prog 30 #[.pointer (some ⟨w1.heap.size + 1, 0, none⟩), .int .i64 ky, .agg #[.int .i64 v.wall, .int .i64 v.count, .int .i64 v.site, .int .i64 v.seq, .string v.data, .bool v.gone]] w4.drew fun e w' => e = .returned (errV (putE lb' ky v)) ∧ Three w' w1.heap.size (w1.heap.size + 1) (w1.heap.size + 1 + 1) (putL la ky v) (putL lb' ky v) [] (fun j => j < w1.heap.size) ∧ Keeps (fun j => j < w1.heap.size) w4.drew w') := three_put_b (T4.later (Below.refl _ w4).drew) lb3 ky v
            go_wp2_with fail
            go_region_law (
              refine step_call rfl 30 #[.pointer (some ⟨w1.heap.size + 1, 0, none⟩), .int .i64 ky, .agg #[.int .i64 v.wall, .int .i64 v.count, .int .i64 v.site, .int .i64 v.seq, .string v.data, .bool v.gone]] (by go_simp) PB.out ?_
              rintro e w5 ⟨rfl, T5, K5⟩
              refine ⟨_, rfl, ?_⟩)
            all_goals
              have KT : Keeps (fun j => j < w1.heap.size) W w5 := KS.trans K5.undrew
              have P5 : Hid (Put2 l a0 a1 a2 a3 (k + 1) (putL la ky v) (putL lb' ky v)) := P3.out.put hlt HX.out
              clear x0 x1 x2 x3 x4 x5 x6 PB
              go_wp2_with fail
              go_roundw
              case rel => exact ⟨k + 1, z + 1, _, _, by omega, by have := HZ.out; omega, by go_num, T5, P5, KT⟩
              case measure => simp [intOf]; omega
        · have ew : (z == (wn : Int)) = false := by have := HZ.out; exact beq_eq_false_iff_ne.2 (by omega)
          clear hw
          obtain ⟨w3, hw3⟩ : ∃ w3, w3 = wr := ⟨_, rfl⟩
          have T3 : Three w3 w1.heap.size (w1.heap.size + 1) (w1.heap.size + 1 + 1) la lb [] (fun j => j < w1.heap.size) := by rw [hw3]; exact T
          have K3 : Keeps (fun j => j < w1.heap.size) wr w3 := by rw [hw3]; exact Keeps.refl _ _
          have P3 : Hid (Put2 l a0 a1 a2 a3 k la lb) := PT
          have lb3 := lb1
          obtain ⟨lb', hlb⟩ : ∃ lb', lb' = lb := ⟨_, rfl⟩
          rw [← hlb] at T3 P3 lb3
          clear hlb
          go_wp2_with fail
          rw [← hw3]
          clear hw3
          have KR : Keeps (fun j => j < w1.heap.size) W w3 := K.trans K3
          have hb3 : Below w.heap.size w w3 := hbW.trans (KR.below (fun j hj => by show j < w1.heap.size; omega))
          have x0 : w3.cell? ⟨b, off + k * 7, none⟩ = some (.int .i64 ky) := cell_later hb3 (QQ.out 0 _ rfl)
          have x1 : w3.cell? ⟨b, off + k * 7 + 1, none⟩ = some (.int .i64 v.wall) := cell_later hb3 (QQ.out 1 _ rfl)
          have x2 : w3.cell? ⟨b, off + k * 7 + 2, none⟩ = some (.int .i64 v.count) := cell_later hb3 (QQ.out 2 _ rfl)
          have x3 : w3.cell? ⟨b, off + k * 7 + 3, none⟩ = some (.int .i64 v.site) := cell_later hb3 (QQ.out 3 _ rfl)
          have x4 : w3.cell? ⟨b, off + k * 7 + 4, none⟩ = some (.int .i64 v.seq) := cell_later hb3 (QQ.out 4 _ rfl)
          have x5 : w3.cell? ⟨b, off + k * 7 + 5, none⟩ = some (.string v.data) := cell_later hb3 (QQ.out 5 _ rfl)
          have x6 : w3.cell? ⟨b, off + k * 7 + 6, none⟩ = some (.bool v.gone) := cell_later hb3 (QQ.out 6 _ rfl)
          have PA : Hid (Calls Tryd.prog 30 #[.pointer (some ⟨w1.heap.size, 0, none⟩), .int .i64 ky, .agg #[.int .i64 v.wall, .int .i64 v.count, .int .i64 v.site, .int .i64 v.seq, .string v.data, .bool v.gone]] w3.drew fun e w' => e = .returned (errV (putE la ky v)) ∧ Three w' w1.heap.size (w1.heap.size + 1) (w1.heap.size + 1 + 1) (putL la ky v) lb' [] (fun j => j < w1.heap.size) ∧ Keeps (fun j => j < w1.heap.size) w3.drew w') := three_put_a (T3.later (Below.refl _ w3).drew) la1 ky v
          go_wp2_with fail
          go_region_law (
            refine step_call rfl 30 #[.pointer (some ⟨w1.heap.size, 0, none⟩), .int .i64 ky, .agg #[.int .i64 v.wall, .int .i64 v.count, .int .i64 v.site, .int .i64 v.seq, .string v.data, .bool v.gone]] (by go_simp) PA.out ?_
            rintro e w4 ⟨rfl, T4, K4⟩
            refine ⟨_, rfl, ?_⟩)
          all_goals
            have KS : Keeps (fun j => j < w1.heap.size) W w4 := KR.trans K4.undrew
            have hb4 : Below w.heap.size w w4 := hbW.trans (KS.below (fun j hj => by show j < w1.heap.size; omega))
            clear x0 x1 x2 x3 x4 x5 x6 PA
            have x0 : w4.cell? ⟨b, off + k * 7, none⟩ = some (.int .i64 ky) := cell_later hb4 (QQ.out 0 _ rfl)
            have x1 : w4.cell? ⟨b, off + k * 7 + 1, none⟩ = some (.int .i64 v.wall) := cell_later hb4 (QQ.out 1 _ rfl)
            have x2 : w4.cell? ⟨b, off + k * 7 + 2, none⟩ = some (.int .i64 v.count) := cell_later hb4 (QQ.out 2 _ rfl)
            have x3 : w4.cell? ⟨b, off + k * 7 + 3, none⟩ = some (.int .i64 v.site) := cell_later hb4 (QQ.out 3 _ rfl)
            have x4 : w4.cell? ⟨b, off + k * 7 + 4, none⟩ = some (.int .i64 v.seq) := cell_later hb4 (QQ.out 4 _ rfl)
            have x5 : w4.cell? ⟨b, off + k * 7 + 5, none⟩ = some (.string v.data) := cell_later hb4 (QQ.out 5 _ rfl)
            have x6 : w4.cell? ⟨b, off + k * 7 + 6, none⟩ = some (.bool v.gone) := cell_later hb4 (QQ.out 6 _ rfl)
            have PB : Hid (Calls Tryd.prog 30 #[.pointer (some ⟨w1.heap.size + 1, 0, none⟩), .int .i64 ky, .agg #[.int .i64 v.wall, .int .i64 v.count, .int .i64 v.site, .int .i64 v.seq, .string v.data, .bool v.gone]] w4.drew fun e w' => e = .returned (errV (putE lb' ky v)) ∧ Three w' w1.heap.size (w1.heap.size + 1) (w1.heap.size + 1 + 1) (putL la ky v) (putL lb' ky v) [] (fun j => j < w1.heap.size) ∧ Keeps (fun j => j < w1.heap.size) w4.drew w') := three_put_b (T4.later (Below.refl _ w4).drew) lb3 ky v
            go_wp2_with fail
            go_region_law (
              refine step_call rfl 30 #[.pointer (some ⟨w1.heap.size + 1, 0, none⟩), .int .i64 ky, .agg #[.int .i64 v.wall, .int .i64 v.count, .int .i64 v.site, .int .i64 v.seq, .string v.data, .bool v.gone]] (by go_simp) PB.out ?_
              rintro e w5 ⟨rfl, T5, K5⟩
              refine ⟨_, rfl, ?_⟩)
            all_goals
              have KT : Keeps (fun j => j < w1.heap.size) W w5 := KS.trans K5.undrew
              have P5 : Hid (Put2 l a0 a1 a2 a3 (k + 1) (putL la ky v) (putL lb' ky v)) := P3.out.put hlt HX.out
              clear x0 x1 x2 x3 x4 x5 x6 PB
              go_wp2_with fail
              go_roundw
              case rel => exact ⟨k + 1, z + 1, _, _, by omega, by have := HZ.out; omega, by go_num, T5, P5, KT⟩
              case measure => simp [intOf]; omega
      · obtain rfl : k = l.length := by omega
        have h4 : ¬ z < (l.length : Int) := by omega
        have lb1 : lb.length ≤ 1000 := by have := PT.out.len; omega
        have c0 := RAr.cell 0 _ rfl
        have c1 := RAr.cell 1 _ rfl
        have c2 := RAr.cell 2 _ rfl
        have c3 := RAr.cell 3 _ rfl
        clear hz
        go_wp2_with fail
        refine (three_sweep_b T lb1 PT.out.apart PT.out.ok a0 a1 a2 a3).mono ?_
        rintro e w3 ⟨rfl, T3, K3⟩
        have P3 : Hid (Put2 l a0 a1 a2 a3 l.length la (sweepL a0 a1 a2 a3 lb)) := PT.out.sweep
        generalize sweepL a0 a1 a2 a3 lb = lb' at T3 P3
        have KR : Keeps (fun j => j < w1.heap.size) W w3 := K.trans K3
        clear c0 c1 c2 c3 T PT K K3 RAr RMr hbr lb1 h4
        have hb3 : Below w.heap.size w w3 := hbW.trans (KR.below (fun j hj => by show j < w1.heap.size; omega))
        go_wp2_with fail
        go_loopw [16, 17] (fun tv iv wq => ∃ (i : Nat) (y : Int) (tw : Bool), i ≤ l.length ∧ y = i ∧ iv = .int .i64 y ∧ tv = .bool tw ∧ Hid (TwSeen l i 0 tw) ∧ Below w3.heap.size w3 wq) (fun _ i _ => l.length - (intOf i).toNat)
        case atStart => exact ⟨0, 0, false, by omega, rfl, rfl, rfl, twSeen_nil l, Below.refl _ _⟩
        case round =>
          obtain ⟨i, y, tw, hi, hy, rfl, rfl, TS, hbq⟩ := hrel
          have HY : Hid (y = i) := hy
          by_cases hil : i < l.length
          · have g1 : y < (l.length : Int) := by omega
            have g2 : y.toNat = i := by omega
            have g3 : 0 ≤ y := by omega
            clear hy
            go_wp2_with fail
            go_loopw [16, 18] (fun tv jv wp => ∃ (j : Nat) (x : Int) (tw : Bool), j ≤ i ∧ x = j ∧ jv = .int .i64 x ∧ tv = .bool tw ∧ Hid (TwSeen l i j tw) ∧ Below w3.heap.size w3 wp) (fun _ j _ => i - (intOf j).toNat)
            case atStart => exact ⟨0, 0, tw, by omega, rfl, rfl, rfl, TS, hbq⟩
            case round =>
              clear TS hbq
              obtain ⟨j, x, tw2, hj, hx, rfl, rfl, TS, hbq⟩ := hrel
              have HXJ : Hid (x = j) := hx
              by_cases hjl : j < i
              · have f1 : x < y := by have := HY.out; omega
                have f2 : x.toNat = j := by omega
                have f3 : 0 ≤ x := by omega
                have f4 : x < (l.length : Int) := by omega
                clear hx
                obtain ⟨b, off, rfl, hcc⟩ : ∃ b off, a = some ⟨b, off, none⟩ ∧ ∀ i r u, i < l.length → (hdL (hdAt l i))[r]? = some u → w.cell? ⟨b, off + (i * 7 + r), none⟩ = some u := by
                  rcases hP.held with h0 | h0
                  · rw [h0] at hil; simp at hil
                  · exact h0
                obtain ⟨⟨k1, v1⟩, hx1⟩ : ∃ x, hdAt l i = x := ⟨_, rfl⟩
                obtain ⟨⟨k2, v2⟩, hx2⟩ : ∃ x, hdAt l j = x := ⟨_, rfl⟩
                have hbz := behind hb3 hbq
                have p1 := fun r u (h : (hdL ⟨k1, v1⟩)[r]? = some u) => cell_later hbz (hcc i r u hil (by rw [hx1]; exact h))
                have p2 := fun r u (h : (hdL ⟨k2, v2⟩)[r]? = some u) => cell_later hbz (hcc j r u (by omega) (by rw [hx2]; exact h))
                have x0 : wr.cell? ⟨b, off + i * 7, none⟩ = some (.int .i64 k1) := p1 0 _ rfl
                have x1 : wr.cell? ⟨b, off + i * 7 + 1, none⟩ = some (.int .i64 v1.wall) := p1 1 _ rfl
                have x2 : wr.cell? ⟨b, off + i * 7 + 2, none⟩ = some (.int .i64 v1.count) := p1 2 _ rfl
                have x3 : wr.cell? ⟨b, off + i * 7 + 3, none⟩ = some (.int .i64 v1.site) := p1 3 _ rfl
                have x4 : wr.cell? ⟨b, off + i * 7 + 4, none⟩ = some (.int .i64 v1.seq) := p1 4 _ rfl
                have x5 : wr.cell? ⟨b, off + i * 7 + 5, none⟩ = some (.string v1.data) := p1 5 _ rfl
                have x6 : wr.cell? ⟨b, off + i * 7 + 6, none⟩ = some (.bool v1.gone) := p1 6 _ rfl
                have y0 : wr.cell? ⟨b, off + j * 7, none⟩ = some (.int .i64 k2) := p2 0 _ rfl
                have y1 : wr.cell? ⟨b, off + j * 7 + 1, none⟩ = some (.int .i64 v2.wall) := p2 1 _ rfl
                have y2 : wr.cell? ⟨b, off + j * 7 + 2, none⟩ = some (.int .i64 v2.count) := p2 2 _ rfl
                have y3 : wr.cell? ⟨b, off + j * 7 + 3, none⟩ = some (.int .i64 v2.site) := p2 3 _ rfl
                have y4 : wr.cell? ⟨b, off + j * 7 + 4, none⟩ = some (.int .i64 v2.seq) := p2 4 _ rfl
                have y5 : wr.cell? ⟨b, off + j * 7 + 5, none⟩ = some (.string v2.data) := p2 5 _ rfl
                have y6 : wr.cell? ⟨b, off + j * 7 + 6, none⟩ = some (.bool v2.gone) := p2 6 _ rfl
                clear p1 p2 hcc
                have hbw : b < wr.heap.size := World.block_lt_of_cell? _ _ x0
                have he := eqStampB
                have NX : Hid (∀ q, (tw2 || ((k1 == k2) && same2 v1.wall v1.count v2.wall v2.count && (v1.site == v2.site))) = q → TwSeen l i (j + 1) q) := fun q hq => by
                  rw [← hq]
                  refine TS.out.next hjl ?_
                  rw [hx1, hx2]
                  unfold TwinH Twin same2
                  simp only [Bool.and_eq_true, beq_iff_eq]
                  constructor
                  · rintro ⟨⟨h1, h2, h3⟩, h4⟩
                    exact ⟨h1, h2, h3, h4⟩
                  · rintro ⟨h1, h2, h3, h4⟩
                    exact ⟨⟨h1, h2, h3⟩, h4⟩
                clear hx1 hx2
                go_wp2_with fail
                go_region
                · have RX : RowL (((wr.alloc (.cells #[.int .i64 k1, .int .i64 v1.wall, .int .i64 v1.count, .int .i64 v1.site, .int .i64 v1.seq, .string v1.data, .bool v1.gone] 90)).alloc (.cells #[.int .i64 k2, .int .i64 v2.wall, .int .i64 v2.count, .int .i64 v2.site, .int .i64 v2.seq, .string v2.data, .bool v2.gone] 90)).drew) (wr.heap.size) (hdL ⟨k1, v1⟩) := ((RowL.new (w := wr) (T := 90) (hdL ⟨k1, v1⟩) rfl).boxed _).drew
                  have RY : RowL (((wr.alloc (.cells #[.int .i64 k1, .int .i64 v1.wall, .int .i64 v1.count, .int .i64 v1.site, .int .i64 v1.seq, .string v1.data, .bool v1.gone] 90)).alloc (.cells #[.int .i64 k2, .int .i64 v2.wall, .int .i64 v2.count, .int .i64 v2.site, .int .i64 v2.seq, .string v2.data, .bool v2.gone] 90)).drew) (wr.heap.size + 1) (hdL ⟨k2, v2⟩) := (RowL.new (w := wr.alloc (.cells #[.int .i64 k1, .int .i64 v1.wall, .int .i64 v1.count, .int .i64 v1.site, .int .i64 v1.seq, .string v1.data, .bool v1.gone] 90)) (T := 90) (n := wr.heap.size + 1) (hdL ⟨k2, v2⟩) (by simp)).drew
                  have hb9 : Below w3.heap.size w3 (((wr.alloc (.cells #[.int .i64 k1, .int .i64 v1.wall, .int .i64 v1.count, .int .i64 v1.site, .int .i64 v1.seq, .string v1.data, .bool v1.gone] 90)).alloc (.cells #[.int .i64 k2, .int .i64 v2.wall, .int .i64 v2.count, .int .i64 v2.site, .int .i64 v2.seq, .string v2.data, .bool v2.gone] 90)).drew) := (boxed (boxed hbq _) _).drew
                  obtain ⟨W9, hW9⟩ : ∃ W9, ((wr.alloc (.cells #[.int .i64 k1, .int .i64 v1.wall, .int .i64 v1.count, .int .i64 v1.site, .int .i64 v1.seq, .string v1.data, .bool v1.gone] 90)).alloc (.cells #[.int .i64 k2, .int .i64 v2.wall, .int .i64 v2.count, .int .i64 v2.site, .int .i64 v2.seq, .string v2.data, .bool v2.gone] 90)).drew = W9 := ⟨_, rfl⟩
                  rw [hW9] at RX RY hb9 ⊢
                  clear hW9 x0 x1 x2 x3 x4 x5 x6 y0 y1 y2 y3 y4 y5 y6
                  have x0 := RX.cell 0 _ rfl
                  have x1 := RX.cell 1 _ rfl
                  have x2 := RX.cell 2 _ rfl
                  have x3 := RX.cell 3 _ rfl
                  have y0 := RY.cell 0 _ rfl
                  have y1 := RY.cell 1 _ rfl
                  have y2 := RY.cell 2 _ rfl
                  have y3 := RY.cell 3 _ rfl
                  clear RX RY
                  cases tw2
                  · cases e1 : (k1 == k2)
                    · have NF : Hid (TwSeen l i (j + 1) false) := NX.out false (by rw [e1]; rfl)
                      go_wp2_with fail
                      go_roundw
                      case rel => exact ⟨j + 1, x + 1, false, by omega, by have := HXJ.out; omega, by go_num, rfl, NF, hb9⟩
                      case measure => simp [intOf]; omega
                    · cases e2 : same2 v1.wall v1.count v2.wall v2.count
                      · have NF : Hid (TwSeen l i (j + 1) false) := NX.out false (by rw [e1, e2]; rfl)
                        go_wp2_with fail
                        go_roundw
                        case rel => exact ⟨j + 1, x + 1, false, by omega, by have := HXJ.out; omega, by go_num, rfl, NF, hb9⟩
                        case measure => simp [intOf]; omega
                      · cases e3 : (v1.site == v2.site)
                        · have NF : Hid (TwSeen l i (j + 1) false) := NX.out false (by rw [e1, e2, e3]; rfl)
                          go_wp2_with fail
                          go_roundw
                          case rel => exact ⟨j + 1, x + 1, false, by omega, by have := HXJ.out; omega, by go_num, rfl, NF, hb9⟩
                          case measure => simp [intOf]; omega
                        · have NF : Hid (TwSeen l i (j + 1) true) := NX.out true (by rw [e1, e2, e3]; rfl)
                          go_wp2_with fail
                          go_roundw
                          case rel => exact ⟨j + 1, x + 1, true, by omega, by have := HXJ.out; omega, by go_num, rfl, NF, hb9⟩
                          case measure => simp [intOf]; omega
                  · have NF : Hid (TwSeen l i (j + 1) true) := NX.out true rfl
                    go_wp2_with fail
                    go_roundw
                    case rel => exact ⟨j + 1, x + 1, true, by omega, by have := HXJ.out; omega, by go_num, rfl, NF, hb9⟩
                    case measure => simp [intOf]; omega
                · have RX : RowL (((wr.alloc (.cells #[.int .i64 k2, .int .i64 v2.wall, .int .i64 v2.count, .int .i64 v2.site, .int .i64 v2.seq, .string v2.data, .bool v2.gone] 90)).alloc (.cells #[.int .i64 k1, .int .i64 v1.wall, .int .i64 v1.count, .int .i64 v1.site, .int .i64 v1.seq, .string v1.data, .bool v1.gone] 90)).drew) (wr.heap.size + 1) (hdL ⟨k1, v1⟩) := (RowL.new (w := wr.alloc (.cells #[.int .i64 k2, .int .i64 v2.wall, .int .i64 v2.count, .int .i64 v2.site, .int .i64 v2.seq, .string v2.data, .bool v2.gone] 90)) (T := 90) (n := wr.heap.size + 1) (hdL ⟨k1, v1⟩) (by simp)).drew
                  have RY : RowL (((wr.alloc (.cells #[.int .i64 k2, .int .i64 v2.wall, .int .i64 v2.count, .int .i64 v2.site, .int .i64 v2.seq, .string v2.data, .bool v2.gone] 90)).alloc (.cells #[.int .i64 k1, .int .i64 v1.wall, .int .i64 v1.count, .int .i64 v1.site, .int .i64 v1.seq, .string v1.data, .bool v1.gone] 90)).drew) (wr.heap.size) (hdL ⟨k2, v2⟩) := ((RowL.new (w := wr) (T := 90) (hdL ⟨k2, v2⟩) rfl).boxed _).drew
                  have hb9 : Below w3.heap.size w3 (((wr.alloc (.cells #[.int .i64 k2, .int .i64 v2.wall, .int .i64 v2.count, .int .i64 v2.site, .int .i64 v2.seq, .string v2.data, .bool v2.gone] 90)).alloc (.cells #[.int .i64 k1, .int .i64 v1.wall, .int .i64 v1.count, .int .i64 v1.site, .int .i64 v1.seq, .string v1.data, .bool v1.gone] 90)).drew) := (boxed (boxed hbq _) _).drew
                  obtain ⟨W9, hW9⟩ : ∃ W9, ((wr.alloc (.cells #[.int .i64 k2, .int .i64 v2.wall, .int .i64 v2.count, .int .i64 v2.site, .int .i64 v2.seq, .string v2.data, .bool v2.gone] 90)).alloc (.cells #[.int .i64 k1, .int .i64 v1.wall, .int .i64 v1.count, .int .i64 v1.site, .int .i64 v1.seq, .string v1.data, .bool v1.gone] 90)).drew = W9 := ⟨_, rfl⟩
                  rw [hW9] at RX RY hb9 ⊢
                  clear hW9 x0 x1 x2 x3 x4 x5 x6 y0 y1 y2 y3 y4 y5 y6
                  have x0 := RX.cell 0 _ rfl
                  have x1 := RX.cell 1 _ rfl
                  have x2 := RX.cell 2 _ rfl
                  have x3 := RX.cell 3 _ rfl
                  have y0 := RY.cell 0 _ rfl
                  have y1 := RY.cell 1 _ rfl
                  have y2 := RY.cell 2 _ rfl
                  have y3 := RY.cell 3 _ rfl
                  clear RX RY
                  cases tw2
                  · cases e1 : (k1 == k2)
                    · have NF : Hid (TwSeen l i (j + 1) false) := NX.out false (by rw [e1]; rfl)
                      go_wp2_with fail
                      go_roundw
                      case rel => exact ⟨j + 1, x + 1, false, by omega, by have := HXJ.out; omega, by go_num, rfl, NF, hb9⟩
                      case measure => simp [intOf]; omega
                    · cases e2 : same2 v1.wall v1.count v2.wall v2.count
                      · have NF : Hid (TwSeen l i (j + 1) false) := NX.out false (by rw [e1, e2]; rfl)
                        go_wp2_with fail
                        go_roundw
                        case rel => exact ⟨j + 1, x + 1, false, by omega, by have := HXJ.out; omega, by go_num, rfl, NF, hb9⟩
                        case measure => simp [intOf]; omega
                      · cases e3 : (v1.site == v2.site)
                        · have NF : Hid (TwSeen l i (j + 1) false) := NX.out false (by rw [e1, e2, e3]; rfl)
                          go_wp2_with fail
                          go_roundw
                          case rel => exact ⟨j + 1, x + 1, false, by omega, by have := HXJ.out; omega, by go_num, rfl, NF, hb9⟩
                          case measure => simp [intOf]; omega
                        · have NF : Hid (TwSeen l i (j + 1) true) := NX.out true (by rw [e1, e2, e3]; rfl)
                          go_wp2_with fail
                          go_roundw
                          case rel => exact ⟨j + 1, x + 1, true, by omega, by have := HXJ.out; omega, by go_num, rfl, NF, hb9⟩
                          case measure => simp [intOf]; omega
                  · have NF : Hid (TwSeen l i (j + 1) true) := NX.out true rfl
                    go_wp2_with fail
                    go_roundw
                    case rel => exact ⟨j + 1, x + 1, true, by omega, by have := HXJ.out; omega, by go_num, rfl, NF, hb9⟩
                    case measure => simp [intOf]; omega
              · obtain rfl : j = i := by omega
                have f1 : ¬ x < y := by have := HY.out; omega
                clear hx
                have NR : Hid (TwSeen l (j + 1) 0 tw2) := TS.out.row
                go_wp2_with fail
                go_roundw
                case rel => exact ⟨j + 1, y + 1, tw2, by omega, by have := HY.out; omega, by go_num, rfl, NR, hbq⟩
                case measure => simp [intOf]; omega
          · obtain rfl : i = l.length := by omega
            have g1 : ¬ y < (l.length : Int) := by omega
            clear hy
            have T4 := T3.later hbq
            have hb4 : Below w.heap.size w wr := behind hb3 hbq
            have RA4 := (RA.keeps KR (by show w.heap.size < w1.heap.size; omega)).later hbq
            have RM4 := (RM.keeps KR (by show w.heap.size + 1 < w1.heap.size; omega)).later hbq
            obtain ⟨w4, hw4⟩ : ∃ w4, wr = w4 := ⟨_, rfl⟩
            rw [hw4] at T4 hb4 RA4 RM4 ⊢
            clear hw4 hbq T3 RA RM KR hbW hb2 hb3
            obtain ⟨t, ht, PK⟩ : ∃ t : Nat, (l.length = 0 ∨ t < l.length) ∧ (0 < l.length → ∀ w, Calls Tryd.prog 41 #[.int .i64 turn, .int .i64 l.length] w fun e w' => e = .returned (.int .i64 t) ∧ w' = w) := by
              rcases Nat.eq_zero_or_pos l.length with h0 | h0
              · exact ⟨0, .inl h0, fun h => by omega⟩
              · obtain ⟨t, h1, h2⟩ := pick_fix turn l.length h0 (by omega)
                exact ⟨t, .inr h1, fun _ => h2⟩
            have HPK : Hid (0 < l.length → ∀ w, Calls Tryd.prog 41 #[.int .i64 turn, .int .i64 l.length] w fun e w' => e = .returned (.int .i64 t) ∧ w' = w) := PK
            clear PK
            go_wp2_with fail
            go_loopw [21] (fun iv wq => ∃ (k : Nat) (x : Int) (lc : List Hd), k ≤ l.length ∧ x = k ∧ iv = .int .i64 x ∧ Three wq w1.heap.size (w1.heap.size + 1) (w1.heap.size + 1 + 1) la lb' lc (fun j => j < w1.heap.size) ∧ Hid (Put1 l (fun i => (i + t) % l.length) k lc) ∧ Keeps (fun j => j < w1.heap.size) w4 wq) (fun i _ => l.length - (intOf i).toNat)
            case atStart => exact ⟨0, 0, [], by omega, rfl, rfl, T4, put1_nil l _, Keeps.refl _ _⟩
            case round =>
              obtain ⟨k, x, lc, hk2, hx, rfl, TQ, PC, KQ⟩ := hrel
              have HXK : Hid (x = k) := hx
              have hbq : Below w.heap.size w wr := hb4.trans (KQ.below (fun j hj => by show j < w1.heap.size; omega))
              by_cases hkl : k < l.length
              · have f1 : x < (l.length : Int) := by omega
                have f3 : 0 ≤ x := by omega
                have h0 : 0 < l.length := by omega
                have ht2 : t < l.length := ht.resolve_left (by omega)
                obtain ⟨m, hm⟩ : ∃ m, (k + t) % l.length = m := ⟨_, rfl⟩
                have hml : m < l.length := by rw [← hm]; exact Nat.mod_lt _ h0
                have hrem : (x + (t : Int)).tmod (l.length : Int) = (m : Int) := by
                  rw [hx, Int.tmod_eq_emod_of_nonneg (by omega), ← hm]
                  first | (push_cast; rfl) | norm_cast | simp
                have b1 : -9223372036854775808 ≤ x + (t : Int) := by omega
                have b2 : x + (t : Int) ≤ 9223372036854775807 := by omega
                have b3 : ¬ ((l.length : Int) = 0) := by omega
                have b4 : (m : Int) < (l.length : Int) := by omega
                obtain ⟨b, off, rfl, hcc⟩ : ∃ b off, a = some ⟨b, off, none⟩ ∧ ∀ i r u, i < l.length → (hdL (hdAt l i))[r]? = some u → w.cell? ⟨b, off + (i * 7 + r), none⟩ = some u := by
                  rcases hP.held with h0 | h0
                  · rw [h0] at hkl; simp at hkl
                  · exact h0
                obtain ⟨⟨k1, v1⟩, hx1⟩ : ∃ x, hdAt l m = x := ⟨_, rfl⟩
                have HX1 : Hid (hdAt l ((k + t) % l.length) = ⟨k1, v1⟩) := by show hdAt l ((k + t) % l.length) = _; rw [hm]; exact hx1
                have p1 := fun r u (h : (hdL ⟨k1, v1⟩)[r]? = some u) => cell_later hbq (hcc m r u hml (by rw [hx1]; exact h))
                have x0 : wr.cell? ⟨b, off + m * 7, none⟩ = some (.int .i64 k1) := p1 0 _ rfl
                have x1 : wr.cell? ⟨b, off + m * 7 + 1, none⟩ = some (.int .i64 v1.wall) := p1 1 _ rfl
                have x2 : wr.cell? ⟨b, off + m * 7 + 2, none⟩ = some (.int .i64 v1.count) := p1 2 _ rfl
                have x3 : wr.cell? ⟨b, off + m * 7 + 3, none⟩ = some (.int .i64 v1.site) := p1 3 _ rfl
                have x4 : wr.cell? ⟨b, off + m * 7 + 4, none⟩ = some (.int .i64 v1.seq) := p1 4 _ rfl
                have x5 : wr.cell? ⟨b, off + m * 7 + 5, none⟩ = some (.string v1.data) := p1 5 _ rfl
                have x6 : wr.cell? ⟨b, off + m * 7 + 6, none⟩ = some (.bool v1.gone) := p1 6 _ rfl
                have lc1 : lc.length ≤ 1000 := by have := PC.out.len; omega
                clear p1 hcc hx hm hx1
                go_wp2_with fail
                refine (HPK.out h0 _).mono ?_
                rintro e w9 ⟨rfl, rfl⟩
                have hbx := boxed (Below.refl _ w9) (.cells #[.int .i64 k1, .int .i64 v1.wall, .int .i64 v1.count, .int .i64 v1.site, .int .i64 v1.seq, .string v1.data, .bool v1.gone] 90)
                have RX := RowL.new (w := w9) (T := 90) (hdL ⟨k1, v1⟩) rfl
                change RowL (w9.alloc (.cells #[.int .i64 k1, .int .i64 v1.wall, .int .i64 v1.count, .int .i64 v1.site, .int .i64 v1.seq, .string v1.data, .bool v1.gone] 90)) w9.heap.size (hdL ⟨k1, v1⟩) at RX
                have y0 := RX.cell 0 _ rfl
                have y1 := RX.cell 1 _ rfl
                have y2 := RX.cell 2 _ rfl
                have y3 := RX.cell 3 _ rfl
                have y4 := RX.cell 4 _ rfl
                have y5 := RX.cell 5 _ rfl
                have y6 := RX.cell 6 _ rfl
                have TQ2 := TQ.later hbx
                have KQ2 := KQ.trans (Keeps.ofBelow hbx TQ.lt)
                clear hbx RX TQ KQ
                go_wp2_with fail
                refine (three_put_c TQ2 lc1 k1 v1).mono ?_
                rintro e wz ⟨rfl, TZ, KZ⟩
                have PZ : Hid (Put1 l (fun i => (i + t) % l.length) (k + 1) (putL lc k1 v1)) := PC.out.put (oneEach_turn l t) hkl HX1.out
                have KZ2 := KQ2.trans KZ
                clear y0 y1 y2 y3 y4 y5 y6 x0 x1 x2 x3 x4 x5 x6 KZ KQ2 TQ2
                go_wp2_with fail
                go_roundw
                case rel => exact ⟨k + 1, x + 1, _, by omega, by have := HXK.out; omega, by go_num, TZ, PZ, KZ2⟩
                case measure => simp [intOf]; have := HXK.out; omega
              · obtain rfl : k = l.length := by omega
                have f1 : ¬ x < (l.length : Int) := by omega
                clear hx
                have RA5 := RA4.keeps KQ (by show w.heap.size < w1.heap.size; omega)
                have RM5 := RM4.keeps KQ (by show w.heap.size + 1 < w1.heap.size; omega)
                have c0 := RA5.cell 0 _ rfl
                have c1 := RA5.cell 1 _ rfl
                have c2 := RA5.cell 2 _ rfl
                have c3 := RA5.cell 3 _ rfl
                have d0 := RM5.cell 0 _ rfl
                have d1 := RM5.cell 1 _ rfl
                have d2 := RM5.cell 2 _ rfl
                have d3 := RM5.cell 3 _ rfl
                go_wp2_with fail
                refine (max_any a0 a1 a2 a3 m0 m1 m2 m3 _).mono ?_
                rintro e w5 ⟨rfl, hb5⟩
                have hb6 := boxed hb5 (.cells #[.int .i64 (maxZ a0 m0), .int .i64 (maxZ a1 m1), .int .i64 (maxZ a2 m2), .int .i64 (maxZ a3 m3)] 37)
                have RS := RowL.new (w := w5) (T := 37) [.int .i64 (maxZ a0 m0), .int .i64 (maxZ a1 m1), .int .i64 (maxZ a2 m2), .int .i64 (maxZ a3 m3)] rfl
                have T6 := TQ.later hb6
                have hbv := behind hbq hb6
                obtain ⟨s0, hs0⟩ : ∃ s, maxZ a0 m0 = s := ⟨_, rfl⟩
                obtain ⟨s1', hs1⟩ : ∃ s, maxZ a1 m1 = s := ⟨_, rfl⟩
                obtain ⟨s2, hs2⟩ : ∃ s, maxZ a2 m2 = s := ⟨_, rfl⟩
                obtain ⟨s3, hs3⟩ : ∃ s, maxZ a3 m3 = s := ⟨_, rfl⟩
                have RD : Hid (NoTw l → ∀ key, readV key s0 s1' s2 s3 la = readV key s0 s1' s2 s3 lb' ∧ readV key s0 s1' s2 s3 la = readV key s0 s1' s2 s3 lc) := fun nt key => by
                  rw [← hs0, ← hs1, ← hs2, ← hs3]
                  exact ⟨P3.out.read nt key, turn_read P3.out.one PC.out ht nt key⟩
                rw [hs0, hs1, hs2, hs3] at hb6 RS T6 hbv ⊢
                obtain ⟨w6, hw6⟩ : ∃ w6, w5.alloc (.cells #[.int .i64 s0, .int .i64 s1', .int .i64 s2, .int .i64 s3] 37) = w6 := ⟨_, rfl⟩
                have sbx : ∃ sx, w5.heap.size = sx := ⟨_, rfl⟩
                obtain ⟨sx, hsx⟩ := sbx
                change RowL (w5.alloc (.cells #[.int .i64 s0, .int .i64 s1', .int .i64 s2, .int .i64 s3] 37)) w5.heap.size [.int .i64 s0, .int .i64 s1', .int .i64 s2, .int .i64 s3] at RS
                rw [hw6, hsx] at RS
                rw [hw6] at T6 hbv
                have HG6 := cell_later hbv HG.out
                have NTW : tw = false → NoTw l := fun h => by rw [h] at TS; exact TS.out.no
                have HNT : Hid (tw = false → NoTw l) := NTW
                have la1 : la.length ≤ 1000 := by have := P3.out.one.len; omega
                have lb1 : lb'.length ≤ 1000 := by have := P3.out.len; omega
                have lc1 : lc.length ≤ 1000 := by have := PC.out.len; omega
                clear c0 c1 c2 c3 d0 d1 d2 d3 RA5 RM5 hb5 hb6 hs0 hs1 hs2 hs3 NTW
                go_wp2_with fail
                clear hw6 hsx
                go_loopw [24] (fun iv wq => ∃ (k : Nat) (q : Int), k ≤ 8 ∧ q = k ∧ iv = .int .i64 q ∧ Below w6.heap.size w6 wq) (fun i _ => 8 - (intOf i).toNat)
                case atStart => exact ⟨0, 0, by omega, rfl, rfl, Below.refl _ _⟩
                case round =>
                  obtain ⟨k, q, hk8, hq, rfl, hbk⟩ := hrel
                  have HQ : Hid (q = k) := hq
                  by_cases hkl : k < 8
                  · have f1 : q < 8 := by omega
                    have f3 : 0 ≤ q := by omega
                    clear hq
                    cases tw
                    · have TT := T6.later hbk
                      have RT := RS.later hbk
                      have c0 := RT.cell 0 _ rfl
                      have c1 := RT.cell 1 _ rfl
                      have c2 := RT.cell 2 _ rfl
                      have c3 := RT.cell 3 _ rfl
                      obtain ⟨⟨r1, e1⟩, hr1⟩ : ∃ x, readV q s0 s1' s2 s3 la = x := ⟨_, rfl⟩
                      obtain ⟨⟨r2, e2⟩, hr2⟩ : ∃ x, readV q s0 s1' s2 s3 lb' = x := ⟨_, rfl⟩
                      obtain ⟨⟨r3, e3⟩, hr3⟩ : ∃ x, readV q s0 s1' s2 s3 lc = x := ⟨_, rfl⟩
                      have H1 : Hid (readV q s0 s1' s2 s3 la = (r1, e1)) := hr1
                      have H2 : Hid (readV q s0 s1' s2 s3 lb' = (r2, e2)) := hr2
                      have H3 : Hid (readV q s0 s1' s2 s3 lc = (r3, e3)) := hr3
                      clear hr1 hr2 hr3
                      have nt := HNT.out rfl
                      have q1 := (RD.out nt q).1
                      have q2 := (RD.out nt q).2
                      rw [H1.out, H2.out] at q1
                      rw [H1.out, H3.out] at q2
                      injection q1 with q1 q1'
                      injection q2 with q2 q2'
                      subst q1 q1' q2 q2'
                      have NS : ∀ w, (binOp .neq 71 (.agg #[.int .i64 r1.wall, .int .i64 r1.count, .int .i64 r1.site, .int .i64 r1.seq, .string r1.data, .bool r1.gone]) (.agg #[.int .i64 r1.wall, .int .i64 r1.count, .int .i64 r1.site, .int .i64 r1.seq, .string r1.data, .bool r1.gone])).run Tryd.prog w = .ok (.bool false) w := fun w => by rw [neVerB, eqV_self]; rfl
                      clear nt
                      go_wp2_with fail
                      refine (three_read_a TT la1 P3.out.one.apart P3.out.one.ok q s0 s1' s2 s3).mono ?_
                      rintro e w7 ⟨rfl, hbn⟩
                      rw [H1.out]
                      simp only
                      rw [show (verL r1).toArray = #[.int .i64 r1.wall, .int .i64 r1.count, .int .i64 r1.site, .int .i64 r1.seq, .string r1.data, .bool r1.gone] from rfl]
                      replace hbn := boxed hbn (.cells #[.int .i64 r1.wall, .int .i64 r1.count, .int .i64 r1.site, .int .i64 r1.seq, .string r1.data, .bool r1.gone] 71)
                      have X1 := RowL.new (w := w7) (T := 71) (verL r1) rfl
                      change RowL (w7.alloc (.cells #[.int .i64 r1.wall, .int .i64 r1.count, .int .i64 r1.site, .int .i64 r1.seq, .string r1.data, .bool r1.gone] 71)) w7.heap.size (verL r1) at X1
                      obtain ⟨wx1, hwx1⟩ : ∃ wx, w7.alloc (.cells #[.int .i64 r1.wall, .int .i64 r1.count, .int .i64 r1.site, .int .i64 r1.seq, .string r1.data, .bool r1.gone] 71) = wx := ⟨_, rfl⟩
                      obtain ⟨bx1, hbx1⟩ : ∃ bx, w7.heap.size = bx := ⟨_, rfl⟩
                      rw [hwx1] at hbn X1
                      rw [hbx1] at X1
                      replace TT := TT.later hbn
                      replace RT := RT.later hbn
                      replace hbk := behind hbk hbn
                      clear hbn c0 c1 c2 c3
                      have c0 := RT.cell 0 _ rfl
                      have c1 := RT.cell 1 _ rfl
                      have c2 := RT.cell 2 _ rfl
                      have c3 := RT.cell 3 _ rfl
                      go_wp2_with fail
                      refine (three_read_b TT lb1 P3.out.apart P3.out.ok q s0 s1' s2 s3).mono ?_
                      rintro e w8 ⟨rfl, hbn⟩
                      rw [H2.out]
                      simp only
                      rw [show (verL r1).toArray = #[.int .i64 r1.wall, .int .i64 r1.count, .int .i64 r1.site, .int .i64 r1.seq, .string r1.data, .bool r1.gone] from rfl]
                      replace hbn := boxed hbn (.cells #[.int .i64 r1.wall, .int .i64 r1.count, .int .i64 r1.site, .int .i64 r1.seq, .string r1.data, .bool r1.gone] 71)
                      have X2 := RowL.new (w := w8) (T := 71) (verL r1) rfl
                      change RowL (w8.alloc (.cells #[.int .i64 r1.wall, .int .i64 r1.count, .int .i64 r1.site, .int .i64 r1.seq, .string r1.data, .bool r1.gone] 71)) w8.heap.size (verL r1) at X2
                      obtain ⟨wx2, hwx2⟩ : ∃ wx, w8.alloc (.cells #[.int .i64 r1.wall, .int .i64 r1.count, .int .i64 r1.site, .int .i64 r1.seq, .string r1.data, .bool r1.gone] 71) = wx := ⟨_, rfl⟩
                      obtain ⟨bx2, hbx2⟩ : ∃ bx, w8.heap.size = bx := ⟨_, rfl⟩
                      rw [hwx2] at hbn X2
                      rw [hbx2] at X2
                      replace TT := TT.later hbn
                      replace RT := RT.later hbn
                      replace X1 := X1.later hbn
                      replace hbk := behind hbk hbn
                      clear hbn c0 c1 c2 c3
                      have c0 := RT.cell 0 _ rfl
                      have c1 := RT.cell 1 _ rfl
                      have c2 := RT.cell 2 _ rfl
                      have c3 := RT.cell 3 _ rfl
                      go_wp2_with fail
                      refine (three_read_c TT lc1 PC.out.apart PC.out.ok q s0 s1' s2 s3).mono ?_
                      rintro e w9 ⟨rfl, hbn⟩
                      rw [H3.out]
                      simp only
                      rw [show (verL r1).toArray = #[.int .i64 r1.wall, .int .i64 r1.count, .int .i64 r1.site, .int .i64 r1.seq, .string r1.data, .bool r1.gone] from rfl]
                      replace hbn := boxed hbn (.cells #[.int .i64 r1.wall, .int .i64 r1.count, .int .i64 r1.site, .int .i64 r1.seq, .string r1.data, .bool r1.gone] 71)
                      have X3 := RowL.new (w := w9) (T := 71) (verL r1) rfl
                      change RowL (w9.alloc (.cells #[.int .i64 r1.wall, .int .i64 r1.count, .int .i64 r1.site, .int .i64 r1.seq, .string r1.data, .bool r1.gone] 71)) w9.heap.size (verL r1) at X3
                      obtain ⟨wx3, hwx3⟩ : ∃ wx, w9.alloc (.cells #[.int .i64 r1.wall, .int .i64 r1.count, .int .i64 r1.site, .int .i64 r1.seq, .string r1.data, .bool r1.gone] 71) = wx := ⟨_, rfl⟩
                      obtain ⟨bx3, hbx3⟩ : ∃ bx, w9.heap.size = bx := ⟨_, rfl⟩
                      rw [hwx3] at hbn X3
                      rw [hbx3] at X3
                      replace TT := TT.later hbn
                      replace RT := RT.later hbn
                      replace X1 := X1.later hbn
                      replace X2 := X2.later hbn
                      replace hbk := behind hbk hbn
                      clear hbn c0 c1 c2 c3
                      have c0 := RT.cell 0 _ rfl
                      have c1 := RT.cell 1 _ rfl
                      have c2 := RT.cell 2 _ rfl
                      have c3 := RT.cell 3 _ rfl
                      clear c0 c1 c2 c3 TT RT
                      go_wp2_with fail
                      refine (tell_errV e1 _ (cell_later hbk HG6)).mono ?_
                      rintro e wa ⟨rfl, hbn⟩
                      replace X1 := X1.later hbn
                      replace X2 := X2.later hbn
                      replace X3 := X3.later hbn
                      replace hbk := behind hbk hbn
                      clear hbn
                      go_wp2_with fail
                      refine (tell_errV e1 _ (cell_later hbk HG6)).mono ?_
                      rintro e wb ⟨rfl, hbn⟩
                      replace X1 := X1.later hbn
                      replace X2 := X2.later hbn
                      replace X3 := X3.later hbn
                      replace hbk := behind hbk hbn
                      clear hbn
                      have p10 := X1.cell 0 _ rfl
                      have p11 := X1.cell 1 _ rfl
                      have p12 := X1.cell 2 _ rfl
                      have p13 := X1.cell 3 _ rfl
                      have p14 := X1.cell 4 _ rfl
                      have p15 := X1.cell 5 _ rfl
                      have p20 := X2.cell 0 _ rfl
                      have p21 := X2.cell 1 _ rfl
                      have p22 := X2.cell 2 _ rfl
                      have p23 := X2.cell 3 _ rfl
                      have p24 := X2.cell 4 _ rfl
                      have p25 := X2.cell 5 _ rfl
                      go_wp2_with fail
                      refine (tell_errV e1 _ (cell_later hbk HG6)).mono ?_
                      rintro e wc ⟨rfl, hbn⟩
                      replace X1 := X1.later hbn
                      replace X2 := X2.later hbn
                      replace X3 := X3.later hbn
                      replace hbk := behind hbk hbn
                      clear hbn p10 p11 p12 p13 p14 p15 p20 p21 p22 p23 p24 p25
                      go_wp2_with fail
                      refine (tell_errV e1 _ (cell_later hbk HG6)).mono ?_
                      rintro e wd ⟨rfl, hbn⟩
                      replace X1 := X1.later hbn
                      replace X2 := X2.later hbn
                      replace X3 := X3.later hbn
                      replace hbk := behind hbk hbn
                      clear hbn
                      have p10 := X1.cell 0 _ rfl
                      have p11 := X1.cell 1 _ rfl
                      have p12 := X1.cell 2 _ rfl
                      have p13 := X1.cell 3 _ rfl
                      have p14 := X1.cell 4 _ rfl
                      have p15 := X1.cell 5 _ rfl
                      have p30 := X3.cell 0 _ rfl
                      have p31 := X3.cell 1 _ rfl
                      have p32 := X3.cell 2 _ rfl
                      have p33 := X3.cell 3 _ rfl
                      have p34 := X3.cell 4 _ rfl
                      have p35 := X3.cell 5 _ rfl
                      go_wp2_with fail
                      go_roundw
                      case rel => exact ⟨k + 1, q + 1, by omega, by have := HQ.out; omega, by go_num, hbk⟩
                      case measure => simp [intOf]; have := HQ.out; omega
                    · have TT := T6.later hbk
                      have RT := RS.later hbk
                      have c0 := RT.cell 0 _ rfl
                      have c1 := RT.cell 1 _ rfl
                      have c2 := RT.cell 2 _ rfl
                      have c3 := RT.cell 3 _ rfl
                      obtain ⟨⟨r1, e1⟩, hr1⟩ : ∃ x, readV q s0 s1' s2 s3 la = x := ⟨_, rfl⟩
                      obtain ⟨⟨r2, e2⟩, hr2⟩ : ∃ x, readV q s0 s1' s2 s3 lb' = x := ⟨_, rfl⟩
                      obtain ⟨⟨r3, e3⟩, hr3⟩ : ∃ x, readV q s0 s1' s2 s3 lc = x := ⟨_, rfl⟩
                      have H1 : Hid (readV q s0 s1' s2 s3 la = (r1, e1)) := hr1
                      have H2 : Hid (readV q s0 s1' s2 s3 lb' = (r2, e2)) := hr2
                      have H3 : Hid (readV q s0 s1' s2 s3 lc = (r3, e3)) := hr3
                      clear hr1 hr2 hr3
                      go_wp2_with fail
                      refine (three_read_a TT la1 P3.out.one.apart P3.out.one.ok q s0 s1' s2 s3).mono ?_
                      rintro e w7 ⟨rfl, hbn⟩
                      rw [H1.out]
                      simp only
                      rw [show (verL r1).toArray = #[.int .i64 r1.wall, .int .i64 r1.count, .int .i64 r1.site, .int .i64 r1.seq, .string r1.data, .bool r1.gone] from rfl]
                      replace hbn := boxed hbn (.cells #[.int .i64 r1.wall, .int .i64 r1.count, .int .i64 r1.site, .int .i64 r1.seq, .string r1.data, .bool r1.gone] 71)
                      have X1 := RowL.new (w := w7) (T := 71) (verL r1) rfl
                      change RowL (w7.alloc (.cells #[.int .i64 r1.wall, .int .i64 r1.count, .int .i64 r1.site, .int .i64 r1.seq, .string r1.data, .bool r1.gone] 71)) w7.heap.size (verL r1) at X1
                      obtain ⟨wx1, hwx1⟩ : ∃ wx, w7.alloc (.cells #[.int .i64 r1.wall, .int .i64 r1.count, .int .i64 r1.site, .int .i64 r1.seq, .string r1.data, .bool r1.gone] 71) = wx := ⟨_, rfl⟩
                      obtain ⟨bx1, hbx1⟩ : ∃ bx, w7.heap.size = bx := ⟨_, rfl⟩
                      rw [hwx1] at hbn X1
                      rw [hbx1] at X1
                      replace TT := TT.later hbn
                      replace RT := RT.later hbn
                      replace hbk := behind hbk hbn
                      clear hbn c0 c1 c2 c3
                      have c0 := RT.cell 0 _ rfl
                      have c1 := RT.cell 1 _ rfl
                      have c2 := RT.cell 2 _ rfl
                      have c3 := RT.cell 3 _ rfl
                      go_wp2_with fail
                      refine (three_read_b TT lb1 P3.out.apart P3.out.ok q s0 s1' s2 s3).mono ?_
                      rintro e w8 ⟨rfl, hbn⟩
                      rw [H2.out]
                      simp only
                      rw [show (verL r2).toArray = #[.int .i64 r2.wall, .int .i64 r2.count, .int .i64 r2.site, .int .i64 r2.seq, .string r2.data, .bool r2.gone] from rfl]
                      replace hbn := boxed hbn (.cells #[.int .i64 r2.wall, .int .i64 r2.count, .int .i64 r2.site, .int .i64 r2.seq, .string r2.data, .bool r2.gone] 71)
                      have X2 := RowL.new (w := w8) (T := 71) (verL r2) rfl
                      change RowL (w8.alloc (.cells #[.int .i64 r2.wall, .int .i64 r2.count, .int .i64 r2.site, .int .i64 r2.seq, .string r2.data, .bool r2.gone] 71)) w8.heap.size (verL r2) at X2
                      obtain ⟨wx2, hwx2⟩ : ∃ wx, w8.alloc (.cells #[.int .i64 r2.wall, .int .i64 r2.count, .int .i64 r2.site, .int .i64 r2.seq, .string r2.data, .bool r2.gone] 71) = wx := ⟨_, rfl⟩
                      obtain ⟨bx2, hbx2⟩ : ∃ bx, w8.heap.size = bx := ⟨_, rfl⟩
                      rw [hwx2] at hbn X2
                      rw [hbx2] at X2
                      replace TT := TT.later hbn
                      replace RT := RT.later hbn
                      replace X1 := X1.later hbn
                      replace hbk := behind hbk hbn
                      clear hbn c0 c1 c2 c3
                      have c0 := RT.cell 0 _ rfl
                      have c1 := RT.cell 1 _ rfl
                      have c2 := RT.cell 2 _ rfl
                      have c3 := RT.cell 3 _ rfl
                      go_wp2_with fail
                      refine (three_read_c TT lc1 PC.out.apart PC.out.ok q s0 s1' s2 s3).mono ?_
                      rintro e w9 ⟨rfl, hbn⟩
                      rw [H3.out]
                      simp only
                      rw [show (verL r3).toArray = #[.int .i64 r3.wall, .int .i64 r3.count, .int .i64 r3.site, .int .i64 r3.seq, .string r3.data, .bool r3.gone] from rfl]
                      replace hbn := boxed hbn (.cells #[.int .i64 r3.wall, .int .i64 r3.count, .int .i64 r3.site, .int .i64 r3.seq, .string r3.data, .bool r3.gone] 71)
                      have X3 := RowL.new (w := w9) (T := 71) (verL r3) rfl
                      change RowL (w9.alloc (.cells #[.int .i64 r3.wall, .int .i64 r3.count, .int .i64 r3.site, .int .i64 r3.seq, .string r3.data, .bool r3.gone] 71)) w9.heap.size (verL r3) at X3
                      obtain ⟨wx3, hwx3⟩ : ∃ wx, w9.alloc (.cells #[.int .i64 r3.wall, .int .i64 r3.count, .int .i64 r3.site, .int .i64 r3.seq, .string r3.data, .bool r3.gone] 71) = wx := ⟨_, rfl⟩
                      obtain ⟨bx3, hbx3⟩ : ∃ bx, w9.heap.size = bx := ⟨_, rfl⟩
                      rw [hwx3] at hbn X3
                      rw [hbx3] at X3
                      replace TT := TT.later hbn
                      replace RT := RT.later hbn
                      replace X1 := X1.later hbn
                      replace X2 := X2.later hbn
                      replace hbk := behind hbk hbn
                      clear hbn c0 c1 c2 c3
                      have c0 := RT.cell 0 _ rfl
                      have c1 := RT.cell 1 _ rfl
                      have c2 := RT.cell 2 _ rfl
                      have c3 := RT.cell 3 _ rfl
                      clear c0 c1 c2 c3 TT RT
                      go_wp2_with fail
                      refine (tell_errV e1 _ (cell_later hbk HG6)).mono ?_
                      rintro e wa ⟨rfl, hbn⟩
                      replace X1 := X1.later hbn
                      replace X2 := X2.later hbn
                      replace X3 := X3.later hbn
                      replace hbk := behind hbk hbn
                      clear hbn
                      go_wp2_with fail
                      refine (tell_errV e2 _ (cell_later hbk HG6)).mono ?_
                      rintro e wb ⟨rfl, hbn⟩
                      replace X1 := X1.later hbn
                      replace X2 := X2.later hbn
                      replace X3 := X3.later hbn
                      replace hbk := behind hbk hbn
                      clear hbn
                      have p10 := X1.cell 0 _ rfl
                      have p11 := X1.cell 1 _ rfl
                      have p12 := X1.cell 2 _ rfl
                      have p13 := X1.cell 3 _ rfl
                      have p14 := X1.cell 4 _ rfl
                      have p15 := X1.cell 5 _ rfl
                      have p20 := X2.cell 0 _ rfl
                      have p21 := X2.cell 1 _ rfl
                      have p22 := X2.cell 2 _ rfl
                      have p23 := X2.cell 3 _ rfl
                      have p24 := X2.cell 4 _ rfl
                      have p25 := X2.cell 5 _ rfl
                      have NV := neVerB r1 r2
                      by_cases ee : e1 = e2
                      · subst ee
                        cases ev : eqV r1 r2
                        · rw [ev] at NV
                          go_wp2_with fail
                          go_ret
                          exact ⟨rfl, behind hbv hbk⟩
                        · rw [ev] at NV
                          go_wp2_with fail
                          go_roundw
                          case rel => exact ⟨k + 1, q + 1, by omega, by have := HQ.out; omega, by go_num, hbk⟩
                          case measure => simp [intOf]; have := HQ.out; omega
                      · have ee1 : (e1 == e2) = false := beq_eq_false_iff_ne.2 ee
                        have ee2 : decide (e1 = e2) = false := decide_eq_false ee
                        have ee3 : (e1 != e2) = true := bne_iff_ne.2 ee
                        clear NV
                        go_wp2_with fail
                        go_ret
                        exact ⟨rfl, behind hbv hbk⟩
                  · have f1 : ¬ q < 8 := by omega
                    go_wp2_with fail
                    go_ret
                    exact ⟨rfl, behind hbv hbk⟩

end Go.Proofs.YtnbgjiibpnoieaaDoor
