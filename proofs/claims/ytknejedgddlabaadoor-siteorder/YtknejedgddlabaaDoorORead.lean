/-
  The document's store inside another struct, at an offset: its last version, and Read (copseref.Store.last, Read).
-/
import Derived.Test.YtknejedgddlabaaDoorSiteC
namespace Go.Proofs.YtknejedgddlabaaDoor
open Go.RowKit

set_option maxHeartbeats 8000000 in
/-- the last one of a key that a vector has, wherever the versions lie -/
theorem oLast_any {sb so : Nat} {a : Option Addr} {cap : Nat} {l : List Hd} (key a0 a1 a2 a3 : Int) (w : World) (hS : w.cell? ⟨sb, so, none⟩ = some (.slice a l.length cap)) (hC : HdIn w a cap l) (hok : ∀ h ∈ l, okVer h.v = true) (hl : l.length ≤ 1000000) :
    Calls Tryd.prog 79 #[.pointer (some ⟨sb, so, none⟩), .int .i64 key, .agg #[.int .i64 a0, .int .i64 a1, .int .i64 a2, .int .i64 a3]] w fun e w' =>
      e = .returned (.tuple #[.agg (bestL (lastV key a0 a1 a2 a3 l)).toArray, .bool (someB (lastV key a0 a1 a2 a3 l))]) ∧ Below w.heap.size w w' := by
  have hne := Later.one
  have HOK : Hid (∀ h ∈ l, okVer h.v = true) := hok
  clear hok
  have RA := ((Row4.new w 37 a0 a1 a2 a3).boxed (.cells #[.int .i64 0, .int .i64 0, .int .i64 0, .int .i64 0, .string ⟨#[]⟩, .bool false] 71)).boxed (.cells #[.int .i64 0, .int .i64 0, .int .i64 0, .int .i64 0, .string ⟨#[]⟩, .bool false] 71)
  have RR := (RowL.new (w := w.alloc (.cells #[.int .i64 a0, .int .i64 a1, .int .i64 a2, .int .i64 a3] 37)) (T := 71) (n := w.heap.size + 1) [.int .i64 0, .int .i64 0, .int .i64 0, .int .i64 0, .string ⟨#[]⟩, .bool false] (by simp)).boxed (.cells #[.int .i64 0, .int .i64 0, .int .i64 0, .int .i64 0, .string ⟨#[]⟩, .bool false] 71)
  have RB := RowL.new (w := (w.alloc (.cells #[.int .i64 a0, .int .i64 a1, .int .i64 a2, .int .i64 a3] 37)).alloc (.cells #[.int .i64 0, .int .i64 0, .int .i64 0, .int .i64 0, .string ⟨#[]⟩, .bool false] 71)) (T := 71) (n := w.heap.size + 1 + 1) [.int .i64 0, .int .i64 0, .int .i64 0, .int .i64 0, .string ⟨#[]⟩, .bool false] (by simp)
  have hb := boxed (boxed (boxed (Below.refl _ w) (.cells #[.int .i64 a0, .int .i64 a1, .int .i64 a2, .int .i64 a3] 37)) (.cells #[.int .i64 0, .int .i64 0, .int .i64 0, .int .i64 0, .string ⟨#[]⟩, .bool false] 71)) (.cells #[.int .i64 0, .int .i64 0, .int .i64 0, .int .i64 0, .string ⟨#[]⟩, .bool false] 71)
  have s0 := cell_later hb hS
  clear hS
  go_enter Tryd.func79, Tryd.ntmps79
  go_wp2_with fail
  obtain ⟨W, hWW⟩ : ∃ W, (((w.alloc (.cells #[.int .i64 a0, .int .i64 a1, .int .i64 a2, .int .i64 a3] 37)).alloc (.cells #[.int .i64 0, .int .i64 0, .int .i64 0, .int .i64 0, .string ⟨#[]⟩, .bool false] 71)).alloc (.cells #[.int .i64 0, .int .i64 0, .int .i64 0, .int .i64 0, .string ⟨#[]⟩, .bool false] 71)) = W := ⟨_, rfl⟩
  have RB0 : RowL (((w.alloc (.cells #[.int .i64 a0, .int .i64 a1, .int .i64 a2, .int .i64 a3] 37)).alloc (.cells #[.int .i64 0, .int .i64 0, .int .i64 0, .int .i64 0, .string ⟨#[]⟩, .bool false] 71)).alloc (.cells #[.int .i64 0, .int .i64 0, .int .i64 0, .int .i64 0, .string ⟨#[]⟩, .bool false] 71)) (w.heap.size + 1 + 1) (bestL (lastV key a0 a1 a2 a3 (l.take 0))) := RB
  rw [hWW] at RA RR RB0 hb ⊢
  clear hWW RB s0
  go_loopw [9, 17] (fun sv iv wr => ∃ (k : Nat) (z : Int), k ≤ l.length ∧ z = k ∧ iv = .int .i64 z ∧ sv = .bool (someB (lastV key a0 a1 a2 a3 (l.take k))) ∧ RowL wr (w.heap.size + 1 + 1) (bestL (lastV key a0 a1 a2 a3 (l.take k))) ∧ RowL wr (w.heap.size + 1) (verL ver0) ∧ Row4 wr w.heap.size a0 a1 a2 a3 ∧ Below w.heap.size w wr) (fun _ i _ => l.length - (intOf i).toNat)
  case atStart => exact ⟨0, 0, by omega, rfl, rfl, rfl, RB0, RR, RA, hb⟩
  case round =>
    clear RB0 RR RA hb
    obtain ⟨k, z, hk, hz, rfl, rfl, RB, RR, RA, hb⟩ := hrel
    by_cases hlt : k < l.length
    · have h1 : z < (l.length : Int) := by omega
      have h2 : z.toNat = k := by omega
      have h3 : 0 ≤ z := by omega
      have HZ : Hid (z = k) := hz
      clear hz
      obtain ⟨b, off, rfl, hcc⟩ : ∃ b off, a = some ⟨b, off, none⟩ ∧ ∀ i r u, i < l.length → (hdL (hdAt l i))[r]? = some u → w.cell? ⟨b, off + (i * 7 + r), none⟩ = some u := by
        rcases hC.held with h0 | h0
        · rw [h0] at hlt; simp at hlt
        · exact h0
      have HC : Hid (∀ i r u, i < l.length → (hdL (hdAt l i))[r]? = some u → w.cell? ⟨b, off + (i * 7 + r), none⟩ = some u) := hcc
      clear hcc
      obtain ⟨best, hbest⟩ : ∃ best, lastV key a0 a1 a2 a3 (l.take k) = best := ⟨_, rfl⟩
      rw [hbest] at RB ⊢
      have HB : Hid (lastV key a0 a1 a2 a3 (l.take k) = best) := hbest
      clear hbest
      obtain ⟨⟨hk_, ⟨wl, ct, st, sq, dt, gn⟩⟩, hx⟩ : ∃ x, hdAt l k = x := ⟨_, rfl⟩
      have HX : Hid (hdAt l k = ⟨hk_, ⟨wl, ct, st, sq, dt, gn⟩⟩) := hx
      have x0 : wr.cell? ⟨b, off + k * 7, none⟩ = some (.int .i64 hk_) := cell_later hb (HC.out k 0 _ hlt (by rw [hx]; rfl))
      have x1 : wr.cell? ⟨b, off + k * 7 + 1, none⟩ = some (.int .i64 wl) := cell_later hb (HC.out k 1 _ hlt (by rw [hx]; rfl))
      have x2 : wr.cell? ⟨b, off + k * 7 + 2, none⟩ = some (.int .i64 ct) := cell_later hb (HC.out k 2 _ hlt (by rw [hx]; rfl))
      have x3 : wr.cell? ⟨b, off + k * 7 + 3, none⟩ = some (.int .i64 st) := cell_later hb (HC.out k 3 _ hlt (by rw [hx]; rfl))
      have x4 : wr.cell? ⟨b, off + k * 7 + 4, none⟩ = some (.int .i64 sq) := cell_later hb (HC.out k 4 _ hlt (by rw [hx]; rfl))
      have x5 : wr.cell? ⟨b, off + k * 7 + 5, none⟩ = some (.string dt) := cell_later hb (HC.out k 5 _ hlt (by rw [hx]; rfl))
      have x6 : wr.cell? ⟨b, off + k * 7 + 6, none⟩ = some (.bool gn) := cell_later hb (HC.out k 6 _ hlt (by rw [hx]; rfl))
      clear hx
      have hsite := okVer_site (HOK.out (hdAt l k) (by simp only [hdAt, List.getD, List.getElem?_eq_getElem hlt, Option.getD_some]; exact List.getElem_mem hlt))
      rw [HX.out] at hsite
      simp only at hsite
      obtain ⟨t0, t1⟩ := hsite
      have t2 : st < 4 := by omega
      have hat := Later.cell (cell_later (boxed (Below.refl _ wr) (.cells #[.int .i64 hk_, .int .i64 wl, .int .i64 ct, .int .i64 st, .int .i64 sq, .string dt, .bool gn] 136)) (vec_at RA t0 t1))
      replace RB := RB.boxed (.cells #[.int .i64 hk_, .int .i64 wl, .int .i64 ct, .int .i64 st, .int .i64 sq, .string dt, .bool gn] 136)
      replace RR := RR.boxed (.cells #[.int .i64 hk_, .int .i64 wl, .int .i64 ct, .int .i64 st, .int .i64 sq, .string dt, .bool gn] 136)
      replace RA := RA.boxed (.cells #[.int .i64 hk_, .int .i64 wl, .int .i64 ct, .int .i64 st, .int .i64 sq, .string dt, .bool gn] 136)
      replace hb := boxed hb (.cells #[.int .i64 hk_, .int .i64 wl, .int .i64 ct, .int .i64 st, .int .i64 sq, .string dt, .bool gn] 136)
      have RY := RowL.new (w := wr) (T := 136) [.int .i64 hk_, .int .i64 wl, .int .i64 ct, .int .i64 st, .int .i64 sq, .string dt, .bool gn] rfl
      have w0 := Later.cell (RY.cell 0 _ rfl)
      have w1 := Later.cell (RY.cell 1 _ rfl)
      have w2 := Later.cell (RY.cell 2 _ rfl)
      have w3 := Later.cell (RY.cell 3 _ rfl)
      have w4 := Later.cell (RY.cell 4 _ rfl)
      have w5 := Later.cell (RY.cell 5 _ rfl)
      have w6 := Later.cell (RY.cell 6 _ rfl)
      by_cases hkey : hk_ = key
      · have ek : (hk_ == key) = true := by simp [hkey]
        have HK : Hid (hk_ = key) := hkey
        clear hkey
        cases hh : hasV a0 a1 a2 a3 ⟨wl, ct, st, sq, dt, gn⟩
        · have dh : decide (sq ≤ depOf st a0 a1 a2 a3) = false := hh
          have HH : Hid (hasV a0 a1 a2 a3 ⟨wl, ct, st, sq, dt, gn⟩ = false) := hh
          clear hh
          go_wp2_with fail
          refine wp_region_later (by kernel_rfl) (by kernel_rfl) ?_
          repeat (go_big_quiet_step (fail))
          refine wpQuiet_nil ?_
          rintro w5 ⟨⟨_, hb7⟩, rfl⟩
          replace RB := RB.later hb7
          replace RR := RR.later hb7
          replace RA := RA.later hb7
          replace hb := behind hb hb7
          have yy := fun j v (h : (hdL ⟨hk_, ⟨wl, ct, st, sq, dt, gn⟩⟩)[j]? = some v) => cell_later hb7 (RY.cell j v h)
          have ST : Hid (lastV key a0 a1 a2 a3 (l.take (k + 1)) = best) := by show lastV key a0 a1 a2 a3 (l.take (k + 1)) = best; rw [lastV_snoc hlt, HB.out, HX.out]; exact stepV_none (fun x => by have := x.2.1; rw [HH.out] at this; cases this)
          clear hb7 yy
          go_wp2_with fail
          go_roundw
          case rel => exact ⟨k + 1, z + 1, by omega, by have := HZ.out; omega, by go_num, by rw [ST.out], by rw [ST.out]; exact RB, RR, RA, hb⟩
          case measure => simp [intOf]; omega
        · have dh : decide (sq ≤ depOf st a0 a1 a2 a3) = true := hh
          have HH : Hid (hasV a0 a1 a2 a3 ⟨wl, ct, st, sq, dt, gn⟩ = true) := hh
          clear hh
          cases best with
          | none =>
            have sn : someB none = false := rfl
            go_wp2_with fail
            refine wp_region_later (by kernel_rfl) (by kernel_rfl) ?_
            repeat (go_big_quiet_step (fail))
            refine wpQuiet_nil ?_
            rintro w5 ⟨⟨_, hb7⟩, rfl⟩
            replace RB := RB.later hb7
            replace RR := RR.later hb7
            replace RA := RA.later hb7
            replace hb := behind hb hb7
            have yy := fun j v (h : (hdL ⟨hk_, ⟨wl, ct, st, sq, dt, gn⟩⟩)[j]? = some v) => cell_later hb7 (RY.cell j v h)
            have ST : Hid (lastV key a0 a1 a2 a3 (l.take (k + 1)) = some ⟨wl, ct, st, sq, dt, gn⟩) := by show lastV key a0 a1 a2 a3 (l.take (k + 1)) = _; rw [lastV_snoc hlt, HB.out, HX.out]; exact stepV_some ⟨HK.out, HH.out, rfl⟩
            have y1 := yy 1 _ rfl
            have y2 := yy 2 _ rfl
            have y3 := yy 3 _ rfl
            have y4 := yy 4 _ rfl
            have y5 := yy 5 _ rfl
            have y6 := yy 6 _ rfl
            have b0 := RB.cell 0 _ rfl
            have p0 := RB.free 0 (by simp [bestL, verL])
            have b1 := RB.cell 1 _ rfl
            have p1 := RB.free 1 (by simp [bestL, verL])
            have b2 := RB.cell 2 _ rfl
            have p2 := RB.free 2 (by simp [bestL, verL])
            have b3 := RB.cell 3 _ rfl
            have p3 := RB.free 3 (by simp [bestL, verL])
            have b4 := RB.cell 4 _ rfl
            have p4 := RB.free 4 (by simp [bestL, verL])
            have b5 := RB.cell 5 _ rfl
            have p5 := RB.free 5 (by simp [bestL, verL])
            have RBZ := ((((((RB.set 0 (.int .i64 wl) (by simp [bestL, verL])).set 1 (.int .i64 ct) (by simp [bestL, verL])).set 2 (.int .i64 st) (by simp [bestL, verL])).set 3 (.int .i64 sq) (by simp [bestL, verL])).set 4 (.string dt) (by simp [bestL, verL])).set 5 (.bool gn) (by simp [bestL, verL]))
            have hbZ := ((((((hb.setCell (p := ⟨w.heap.size + 1 + 1, 0, none⟩) (by show w.heap.size ≤ w.heap.size + 1 + 1; omega) (.int .i64 wl)).setCell (p := ⟨w.heap.size + 1 + 1, 1, none⟩) (by show w.heap.size ≤ w.heap.size + 1 + 1; omega) (.int .i64 ct)).setCell (p := ⟨w.heap.size + 1 + 1, 2, none⟩) (by show w.heap.size ≤ w.heap.size + 1 + 1; omega) (.int .i64 st)).setCell (p := ⟨w.heap.size + 1 + 1, 3, none⟩) (by show w.heap.size ≤ w.heap.size + 1 + 1; omega) (.int .i64 sq)).setCell (p := ⟨w.heap.size + 1 + 1, 4, none⟩) (by show w.heap.size ≤ w.heap.size + 1 + 1; omega) (.string dt)).setCell (p := ⟨w.heap.size + 1 + 1, 5, none⟩) (by show w.heap.size ≤ w.heap.size + 1 + 1; omega) (.bool gn))
            have RRZ := ((((((RR.far ⟨w.heap.size + 1 + 1, 0, none⟩ (.int .i64 wl) (by show w.heap.size + 1 + 1 ≠ w.heap.size + 1; omega)).far ⟨w.heap.size + 1 + 1, 1, none⟩ (.int .i64 ct) (by show w.heap.size + 1 + 1 ≠ w.heap.size + 1; omega)).far ⟨w.heap.size + 1 + 1, 2, none⟩ (.int .i64 st) (by show w.heap.size + 1 + 1 ≠ w.heap.size + 1; omega)).far ⟨w.heap.size + 1 + 1, 3, none⟩ (.int .i64 sq) (by show w.heap.size + 1 + 1 ≠ w.heap.size + 1; omega)).far ⟨w.heap.size + 1 + 1, 4, none⟩ (.string dt) (by show w.heap.size + 1 + 1 ≠ w.heap.size + 1; omega)).far ⟨w.heap.size + 1 + 1, 5, none⟩ (.bool gn) (by show w.heap.size + 1 + 1 ≠ w.heap.size + 1; omega))
            have RAZ := ((((((RA.far ⟨w.heap.size + 1 + 1, 0, none⟩ (.int .i64 wl) (by show w.heap.size + 1 + 1 ≠ w.heap.size; omega)).far ⟨w.heap.size + 1 + 1, 1, none⟩ (.int .i64 ct) (by show w.heap.size + 1 + 1 ≠ w.heap.size; omega)).far ⟨w.heap.size + 1 + 1, 2, none⟩ (.int .i64 st) (by show w.heap.size + 1 + 1 ≠ w.heap.size; omega)).far ⟨w.heap.size + 1 + 1, 3, none⟩ (.int .i64 sq) (by show w.heap.size + 1 + 1 ≠ w.heap.size; omega)).far ⟨w.heap.size + 1 + 1, 4, none⟩ (.string dt) (by show w.heap.size + 1 + 1 ≠ w.heap.size; omega)).far ⟨w.heap.size + 1 + 1, 5, none⟩ (.bool gn) (by show w.heap.size + 1 + 1 ≠ w.heap.size; omega))
            clear hb7 yy hb RR RA RB
            go_wp2_with fail
            go_roundw
            case rel => exact ⟨k + 1, z + 1, by omega, by have := HZ.out; omega, by go_num, by rw [ST.out]; rfl, by rw [ST.out]; exact RBZ, RRZ, RAZ, hbZ⟩
            case measure => simp [intOf]; omega
          | some bv =>
            have sn : someB (some bv) = true := rfl
            have v0 := Later.cell (RB.cell 0 _ rfl)
            have v1 := Later.cell (RB.cell 1 _ rfl)
            have v2 := Later.cell (RB.cell 2 _ rfl)
            have v3 := Later.cell (RB.cell 3 _ rfl)
            have v4 := Later.cell (RB.cell 4 _ rfl)
            have v5 := Later.cell (RB.cell 5 _ rfl)
            cases hbf : beforeV bv ⟨wl, ct, st, sq, dt, gn⟩
            · have HF : Hid (beforeV bv ⟨wl, ct, st, sq, dt, gn⟩ = false) := hbf
              clear hbf
              go_wp2_with fail
              refine wp_region_later (by kernel_rfl) (by kernel_rfl) ?_
              repeat (go_big_quiet_step ((go_at_call 98; with_reducible exact calls_later (refBefore_is HF.out _))))
              refine wpQuiet_nil ?_
              rintro w5 ⟨⟨_, hb7⟩, rfl⟩
              replace RB := RB.later hb7
              replace RR := RR.later hb7
              replace RA := RA.later hb7
              replace hb := behind hb hb7
              have yy := fun j v (h : (hdL ⟨hk_, ⟨wl, ct, st, sq, dt, gn⟩⟩)[j]? = some v) => cell_later hb7 (RY.cell j v h)
              have ST : Hid (lastV key a0 a1 a2 a3 (l.take (k + 1)) = some bv) := by show lastV key a0 a1 a2 a3 (l.take (k + 1)) = some bv; rw [lastV_snoc hlt, HB.out, HX.out]; exact stepV_none (fun x => by have := x.2.2; simp only [HF.out] at this; cases this)
              clear hb7 yy
              go_wp2_with fail
              go_roundw
              case rel => exact ⟨k + 1, z + 1, by omega, by have := HZ.out; omega, by go_num, by rw [ST.out], by rw [ST.out]; exact RB, RR, RA, hb⟩
              case measure => simp [intOf]; omega
            · have HF : Hid (beforeV bv ⟨wl, ct, st, sq, dt, gn⟩ = true) := hbf
              clear hbf
              go_wp2_with fail
              refine wp_region_later (by kernel_rfl) (by kernel_rfl) ?_
              repeat (go_big_quiet_step ((go_at_call 98; with_reducible exact calls_later (refBefore_is HF.out _))))
              refine wpQuiet_nil ?_
              rintro w5 ⟨⟨_, hb7⟩, rfl⟩
              replace RB := RB.later hb7
              replace RR := RR.later hb7
              replace RA := RA.later hb7
              replace hb := behind hb hb7
              have yy := fun j v (h : (hdL ⟨hk_, ⟨wl, ct, st, sq, dt, gn⟩⟩)[j]? = some v) => cell_later hb7 (RY.cell j v h)
              have ST : Hid (lastV key a0 a1 a2 a3 (l.take (k + 1)) = some ⟨wl, ct, st, sq, dt, gn⟩) := by show lastV key a0 a1 a2 a3 (l.take (k + 1)) = _; rw [lastV_snoc hlt, HB.out, HX.out]; exact stepV_some ⟨HK.out, HH.out, HF.out⟩
              have y1 := yy 1 _ rfl
              have y2 := yy 2 _ rfl
              have y3 := yy 3 _ rfl
              have y4 := yy 4 _ rfl
              have y5 := yy 5 _ rfl
              have y6 := yy 6 _ rfl
              have b0 := RB.cell 0 _ rfl
              have p0 := RB.free 0 (by simp [bestL, verL])
              have b1 := RB.cell 1 _ rfl
              have p1 := RB.free 1 (by simp [bestL, verL])
              have b2 := RB.cell 2 _ rfl
              have p2 := RB.free 2 (by simp [bestL, verL])
              have b3 := RB.cell 3 _ rfl
              have p3 := RB.free 3 (by simp [bestL, verL])
              have b4 := RB.cell 4 _ rfl
              have p4 := RB.free 4 (by simp [bestL, verL])
              have b5 := RB.cell 5 _ rfl
              have p5 := RB.free 5 (by simp [bestL, verL])
              have RBZ := ((((((RB.set 0 (.int .i64 wl) (by simp [bestL, verL])).set 1 (.int .i64 ct) (by simp [bestL, verL])).set 2 (.int .i64 st) (by simp [bestL, verL])).set 3 (.int .i64 sq) (by simp [bestL, verL])).set 4 (.string dt) (by simp [bestL, verL])).set 5 (.bool gn) (by simp [bestL, verL]))
              have hbZ := ((((((hb.setCell (p := ⟨w.heap.size + 1 + 1, 0, none⟩) (by show w.heap.size ≤ w.heap.size + 1 + 1; omega) (.int .i64 wl)).setCell (p := ⟨w.heap.size + 1 + 1, 1, none⟩) (by show w.heap.size ≤ w.heap.size + 1 + 1; omega) (.int .i64 ct)).setCell (p := ⟨w.heap.size + 1 + 1, 2, none⟩) (by show w.heap.size ≤ w.heap.size + 1 + 1; omega) (.int .i64 st)).setCell (p := ⟨w.heap.size + 1 + 1, 3, none⟩) (by show w.heap.size ≤ w.heap.size + 1 + 1; omega) (.int .i64 sq)).setCell (p := ⟨w.heap.size + 1 + 1, 4, none⟩) (by show w.heap.size ≤ w.heap.size + 1 + 1; omega) (.string dt)).setCell (p := ⟨w.heap.size + 1 + 1, 5, none⟩) (by show w.heap.size ≤ w.heap.size + 1 + 1; omega) (.bool gn))
              have RRZ := ((((((RR.far ⟨w.heap.size + 1 + 1, 0, none⟩ (.int .i64 wl) (by show w.heap.size + 1 + 1 ≠ w.heap.size + 1; omega)).far ⟨w.heap.size + 1 + 1, 1, none⟩ (.int .i64 ct) (by show w.heap.size + 1 + 1 ≠ w.heap.size + 1; omega)).far ⟨w.heap.size + 1 + 1, 2, none⟩ (.int .i64 st) (by show w.heap.size + 1 + 1 ≠ w.heap.size + 1; omega)).far ⟨w.heap.size + 1 + 1, 3, none⟩ (.int .i64 sq) (by show w.heap.size + 1 + 1 ≠ w.heap.size + 1; omega)).far ⟨w.heap.size + 1 + 1, 4, none⟩ (.string dt) (by show w.heap.size + 1 + 1 ≠ w.heap.size + 1; omega)).far ⟨w.heap.size + 1 + 1, 5, none⟩ (.bool gn) (by show w.heap.size + 1 + 1 ≠ w.heap.size + 1; omega))
              have RAZ := ((((((RA.far ⟨w.heap.size + 1 + 1, 0, none⟩ (.int .i64 wl) (by show w.heap.size + 1 + 1 ≠ w.heap.size; omega)).far ⟨w.heap.size + 1 + 1, 1, none⟩ (.int .i64 ct) (by show w.heap.size + 1 + 1 ≠ w.heap.size; omega)).far ⟨w.heap.size + 1 + 1, 2, none⟩ (.int .i64 st) (by show w.heap.size + 1 + 1 ≠ w.heap.size; omega)).far ⟨w.heap.size + 1 + 1, 3, none⟩ (.int .i64 sq) (by show w.heap.size + 1 + 1 ≠ w.heap.size; omega)).far ⟨w.heap.size + 1 + 1, 4, none⟩ (.string dt) (by show w.heap.size + 1 + 1 ≠ w.heap.size; omega)).far ⟨w.heap.size + 1 + 1, 5, none⟩ (.bool gn) (by show w.heap.size + 1 + 1 ≠ w.heap.size; omega))
              clear hb7 yy hb RR RA RB
              go_wp2_with fail
              go_roundw
              case rel => exact ⟨k + 1, z + 1, by omega, by have := HZ.out; omega, by go_num, by rw [ST.out]; rfl, by rw [ST.out]; exact RBZ, RRZ, RAZ, hbZ⟩
              case measure => simp [intOf]; omega
      · have ek : (hk_ == key) = false := beq_eq_false_iff_ne.2 hkey
        have HK : Hid (¬ hk_ = key) := hkey
        clear hkey
        go_wp2_with fail
        refine wp_region_later (by kernel_rfl) (by kernel_rfl) ?_
        repeat (go_big_quiet_step (fail))
        refine wpQuiet_nil ?_
        rintro w5 ⟨⟨_, hb7⟩, rfl⟩
        replace RB := RB.later hb7
        replace RR := RR.later hb7
        replace RA := RA.later hb7
        replace hb := behind hb hb7
        have yy := fun j v (h : (hdL ⟨hk_, ⟨wl, ct, st, sq, dt, gn⟩⟩)[j]? = some v) => cell_later hb7 (RY.cell j v h)
        have ST : Hid (lastV key a0 a1 a2 a3 (l.take (k + 1)) = best) := by show lastV key a0 a1 a2 a3 (l.take (k + 1)) = best; rw [lastV_snoc hlt, HB.out, HX.out]; exact stepV_none (fun x => HK.out x.1)
        clear hb7 yy
        go_wp2_with fail
        go_roundw
        case rel => exact ⟨k + 1, z + 1, by omega, by have := HZ.out; omega, by go_num, by rw [ST.out], by rw [ST.out]; exact RB, RR, RA, hb⟩
        case measure => simp [intOf]; omega
    · have e : k = l.length := by omega
      obtain ⟨best, hbest⟩ : ∃ best, lastV key a0 a1 a2 a3 (l.take k) = best := ⟨_, rfl⟩
      have HB : Hid (lastV key a0 a1 a2 a3 l = best) := by show lastV key a0 a1 a2 a3 l = best; rw [← hbest, e, List.take_length]
      rw [hbest, bestL_eq] at RB
      rw [hbest]
      clear hbest e
      obtain ⟨v, hv⟩ : ∃ v, best.getD ver0 = v := ⟨_, rfl⟩
      rw [hv] at RB
      have HV : Hid (best.getD ver0 = v) := hv
      clear hv
      obtain ⟨sv, hsv⟩ : ∃ sv, someB best = sv := ⟨_, rfl⟩
      rw [hsv]
      have HSV : Hid (someB best = sv) := hsv
      clear hsv
      have b0 := RB.cell 0 _ rfl
      have r0 := RR.cell 0 _ rfl
      have p0 := RR.free 0 (by simp [verL])
      have b1 := RB.cell 1 _ rfl
      have r1 := RR.cell 1 _ rfl
      have p1 := RR.free 1 (by simp [verL])
      have b2 := RB.cell 2 _ rfl
      have r2 := RR.cell 2 _ rfl
      have p2 := RR.free 2 (by simp [verL])
      have b3 := RB.cell 3 _ rfl
      have r3 := RR.cell 3 _ rfl
      have p3 := RR.free 3 (by simp [verL])
      have b4 := RB.cell 4 _ rfl
      have r4 := RR.cell 4 _ rfl
      have p4 := RR.free 4 (by simp [verL])
      have b5 := RB.cell 5 _ rfl
      have r5 := RR.cell 5 _ rfl
      have p5 := RR.free 5 (by simp [verL])
      have RZ := ((((((RR.set 0 (.int .i64 v.wall) (by simp [verL])).set 1 (.int .i64 v.count) (by simp [verL])).set 2 (.int .i64 v.site) (by simp [verL])).set 3 (.int .i64 v.seq) (by simp [verL])).set 4 (.string v.data) (by simp [verL])).set 5 (.bool v.gone) (by simp [verL]))
      have hbZ := ((((((hb.setCell (p := ⟨w.heap.size + 1, 0, none⟩) (by show w.heap.size ≤ w.heap.size + 1; omega) (.int .i64 v.wall)).setCell (p := ⟨w.heap.size + 1, 1, none⟩) (by show w.heap.size ≤ w.heap.size + 1; omega) (.int .i64 v.count)).setCell (p := ⟨w.heap.size + 1, 2, none⟩) (by show w.heap.size ≤ w.heap.size + 1; omega) (.int .i64 v.site)).setCell (p := ⟨w.heap.size + 1, 3, none⟩) (by show w.heap.size ≤ w.heap.size + 1; omega) (.int .i64 v.seq)).setCell (p := ⟨w.heap.size + 1, 4, none⟩) (by show w.heap.size ≤ w.heap.size + 1; omega) (.string v.data)).setCell (p := ⟨w.heap.size + 1, 5, none⟩) (by show w.heap.size ≤ w.heap.size + 1; omega) (.bool v.gone))
      clear RB RR RA hb
      go_wp2_with fail
      refine bodyPost_ret (last_results (v := v) RZ rfl rfl) rfl ⟨?_, hbZ⟩
      rw [HB.out, bestL_eq, HV.out, HSV.out]

set_option maxHeartbeats 4000000 in
theorem oRead_any {sb so : Nat} {a : Option Addr} {cap : Nat} {l : List Hd} (key a0 a1 a2 a3 : Int) (w : World) (hS : w.cell? ⟨sb, so, none⟩ = some (.slice a l.length cap)) (hC : HdIn w a cap l) (hok : ∀ h ∈ l, okVer h.v = true) (hl : l.length ≤ 1000000) :
    Calls Tryd.prog 35 #[.pointer (some ⟨sb, so, none⟩), .int .i64 key, .agg #[.int .i64 a0, .int .i64 a1, .int .i64 a2, .int .i64 a3]] w fun e w' =>
      e = .returned (.tuple #[.agg (verL (readV key a0 a1 a2 a3 l).1).toArray, .int .i64 (readV key a0 a1 a2 a3 l).2]) ∧ Below w.heap.size w w' := by
  have HOK : Hid (∀ h ∈ l, okVer h.v = true) := hok
  clear hok
  have RA := (Row4.new w 37 a0 a1 a2 a3).boxed (.cells #[.int .i64 0, .int .i64 0, .int .i64 0, .int .i64 0, .string ⟨#[]⟩, .bool false] 71)
  have RR : RowL ((w.alloc (.cells #[.int .i64 a0, .int .i64 a1, .int .i64 a2, .int .i64 a3] 37)).alloc (.cells #[.int .i64 0, .int .i64 0, .int .i64 0, .int .i64 0, .string ⟨#[]⟩, .bool false] 71)) (w.heap.size + 1) (verL ver0) := RowL.new (w := w.alloc (.cells #[.int .i64 a0, .int .i64 a1, .int .i64 a2, .int .i64 a3] 37)) (T := 71) (n := w.heap.size + 1) [.int .i64 0, .int .i64 0, .int .i64 0, .int .i64 0, .string ⟨#[]⟩, .bool false] (by simp)
  have hb := boxed (boxed (Below.refl _ w) (.cells #[.int .i64 a0, .int .i64 a1, .int .i64 a2, .int .i64 a3] 37)) (.cells #[.int .i64 0, .int .i64 0, .int .i64 0, .int .i64 0, .string ⟨#[]⟩, .bool false] 71)
  have s0 := cell_later hb hS
  have hC0 := hC.later hb
  clear hS hC
  cases hk : inB key 0 7
  · have RV : Hid (readV key a0 a1 a2 a3 l = (ver0, 2)) := by show readV key a0 a1 a2 a3 l = (ver0, 2); unfold readV; rw [hk]; rfl
    have HK : Hid (inB key 0 7 = false) := hk
    clear hk
    go_enter Tryd.func35, Tryd.ntmps35
    go_wp2_with fail
    refine (inB_is HK.out _).mono ?_
    rintro e w1 ⟨rfl, hb1⟩
    replace RR := RR.later hb1
    replace hb := behind hb hb1
    clear hb1 RA s0 hC0
    have r0 := RR.cell 0 _ rfl
    have p0 := RR.free 0 (by simp [verL])
    have r1 := RR.cell 1 _ rfl
    have p1 := RR.free 1 (by simp [verL])
    have r2 := RR.cell 2 _ rfl
    have p2 := RR.free 2 (by simp [verL])
    have r3 := RR.cell 3 _ rfl
    have p3 := RR.free 3 (by simp [verL])
    have r4 := RR.cell 4 _ rfl
    have p4 := RR.free 4 (by simp [verL])
    have r5 := RR.cell 5 _ rfl
    have p5 := RR.free 5 (by simp [verL])
    have RZ := ((((((RR.set 0 (.int .i64 0) (by simp [verL])).set 1 (.int .i64 0) (by simp [verL])).set 2 (.int .i64 0) (by simp [verL])).set 3 (.int .i64 0) (by simp [verL])).set 4 (.string ⟨#[]⟩) (by simp [verL])).set 5 (.bool false) (by simp [verL]))
    have hbZ := ((((((hb.setCell (p := ⟨w.heap.size + 1, 0, none⟩) (by show w.heap.size ≤ w.heap.size + 1; omega) (.int .i64 0)).setCell (p := ⟨w.heap.size + 1, 1, none⟩) (by show w.heap.size ≤ w.heap.size + 1; omega) (.int .i64 0)).setCell (p := ⟨w.heap.size + 1, 2, none⟩) (by show w.heap.size ≤ w.heap.size + 1; omega) (.int .i64 0)).setCell (p := ⟨w.heap.size + 1, 3, none⟩) (by show w.heap.size ≤ w.heap.size + 1; omega) (.int .i64 0)).setCell (p := ⟨w.heap.size + 1, 4, none⟩) (by show w.heap.size ≤ w.heap.size + 1; omega) (.string ⟨#[]⟩)).setCell (p := ⟨w.heap.size + 1, 5, none⟩) (by show w.heap.size ≤ w.heap.size + 1; omega) (.bool false))
    go_wp2_with fail
    refine bodyPost_ret (read_results (v := ver0) RZ rfl rfl) rfl ⟨?_, hbZ⟩
    rw [RV.out]
  · have HK : Hid (inB key 0 7 = true) := hk
    have RV0 : Hid (readV key a0 a1 a2 a3 l = readO (lastV key a0 a1 a2 a3 l)) := by show readV key a0 a1 a2 a3 l = _; unfold readV; rw [hk]; rfl
    clear hk
    go_enter Tryd.func35, Tryd.ntmps35
    go_wp2_with fail
    refine (inB_is HK.out _).mono ?_
    rintro e w1 ⟨rfl, hb1⟩
    replace RR := RR.later hb1
    replace RA := RA.later hb1
    replace hb := behind hb hb1
    replace s0 := cell_later hb1 s0
    replace hC0 := hC0.later hb1
    clear hb1
    have c0 := RA.c0
    have c1 := RA.c1
    have c2 := RA.c2
    have c3 := RA.c3
    go_wp2_with fail
    refine (oLast_any key a0 a1 a2 a3 _ s0 hC0 HOK.out hl).mono ?_
    rintro e w2 ⟨rfl, hb2⟩
    clear c0 c1 c2 c3 RA s0 hC0
    obtain ⟨best, hbest⟩ : ∃ best, lastV key a0 a1 a2 a3 l = best := ⟨_, rfl⟩
    have RV1 : Hid (readV key a0 a1 a2 a3 l = readO best) := by show readV key a0 a1 a2 a3 l = _; rw [RV0.out, hbest]
    rw [hbest, bestL_eq]
    clear hbest RV0
    cases best with
    | none =>
      have RV : Hid (readV key a0 a1 a2 a3 l = (ver0, 8)) := RV1.out
      have sn : someB none = false := rfl
      show _
      rw [show verL ((none : Option Ver).getD ver0) = [.int .i64 0, .int .i64 0, .int .i64 0, .int .i64 0, .string ⟨#[]⟩, .bool false] from rfl]
      replace RR := (RR.later hb2).boxed (.cells #[.int .i64 0, .int .i64 0, .int .i64 0, .int .i64 0, .string ⟨#[]⟩, .bool false] 71)
      replace hb := boxed (behind hb hb2) (.cells #[.int .i64 0, .int .i64 0, .int .i64 0, .int .i64 0, .string ⟨#[]⟩, .bool false] 71)
      clear hb2
      have r0 := RR.cell 0 _ rfl
      have p0 := RR.free 0 (by simp [verL])
      have r1 := RR.cell 1 _ rfl
      have p1 := RR.free 1 (by simp [verL])
      have r2 := RR.cell 2 _ rfl
      have p2 := RR.free 2 (by simp [verL])
      have r3 := RR.cell 3 _ rfl
      have p3 := RR.free 3 (by simp [verL])
      have r4 := RR.cell 4 _ rfl
      have p4 := RR.free 4 (by simp [verL])
      have r5 := RR.cell 5 _ rfl
      have p5 := RR.free 5 (by simp [verL])
      have RZ := ((((((RR.set 0 (.int .i64 0) (by simp [verL])).set 1 (.int .i64 0) (by simp [verL])).set 2 (.int .i64 0) (by simp [verL])).set 3 (.int .i64 0) (by simp [verL])).set 4 (.string ⟨#[]⟩) (by simp [verL])).set 5 (.bool false) (by simp [verL]))
      have hbZ := ((((((hb.setCell (p := ⟨w.heap.size + 1, 0, none⟩) (by show w.heap.size ≤ w.heap.size + 1; omega) (.int .i64 0)).setCell (p := ⟨w.heap.size + 1, 1, none⟩) (by show w.heap.size ≤ w.heap.size + 1; omega) (.int .i64 0)).setCell (p := ⟨w.heap.size + 1, 2, none⟩) (by show w.heap.size ≤ w.heap.size + 1; omega) (.int .i64 0)).setCell (p := ⟨w.heap.size + 1, 3, none⟩) (by show w.heap.size ≤ w.heap.size + 1; omega) (.int .i64 0)).setCell (p := ⟨w.heap.size + 1, 4, none⟩) (by show w.heap.size ≤ w.heap.size + 1; omega) (.string ⟨#[]⟩)).setCell (p := ⟨w.heap.size + 1, 5, none⟩) (by show w.heap.size ≤ w.heap.size + 1; omega) (.bool false))
      go_wp2_with fail
      refine bodyPost_ret (read_results (v := ver0) RZ rfl rfl) rfl ⟨?_, hbZ⟩
      rw [RV.out]
    | some v =>
      obtain ⟨vw, vc, vs, vq, vd, vg⟩ := v
      have sn : someB (some (⟨vw, vc, vs, vq, vd, vg⟩ : Ver)) = true := rfl
      rw [show verL ((some (⟨vw, vc, vs, vq, vd, vg⟩ : Ver)).getD ver0) = [.int .i64 vw, .int .i64 vc, .int .i64 vs, .int .i64 vq, .string vd, .bool vg] from rfl]
      replace RR := (RR.later hb2).boxed (.cells #[.int .i64 vw, .int .i64 vc, .int .i64 vs, .int .i64 vq, .string vd, .bool vg] 71)
      have RB := RowL.new (w := w2) (T := 71) [.int .i64 vw, .int .i64 vc, .int .i64 vs, .int .i64 vq, .string vd, .bool vg] rfl
      replace hb := boxed (behind hb hb2) (.cells #[.int .i64 vw, .int .i64 vc, .int .i64 vs, .int .i64 vq, .string vd, .bool vg] 71)
      clear hb2
      have b0 := RB.cell 0 _ rfl
      have b1 := RB.cell 1 _ rfl
      have b2 := RB.cell 2 _ rfl
      have b3 := RB.cell 3 _ rfl
      have b4 := RB.cell 4 _ rfl
      have b5 := RB.cell 5 _ rfl
      cases vg
      · have RV : Hid (readV key a0 a1 a2 a3 l = (⟨vw, vc, vs, vq, vd, false⟩, 0)) := RV1.out
        have r0 := RR.cell 0 _ rfl
        have p0 := RR.free 0 (by simp [verL])
        have r1 := RR.cell 1 _ rfl
        have p1 := RR.free 1 (by simp [verL])
        have r2 := RR.cell 2 _ rfl
        have p2 := RR.free 2 (by simp [verL])
        have r3 := RR.cell 3 _ rfl
        have p3 := RR.free 3 (by simp [verL])
        have r4 := RR.cell 4 _ rfl
        have p4 := RR.free 4 (by simp [verL])
        have r5 := RR.cell 5 _ rfl
        have p5 := RR.free 5 (by simp [verL])
        have RZ := ((((((RR.set 0 (.int .i64 vw) (by simp [verL])).set 1 (.int .i64 vc) (by simp [verL])).set 2 (.int .i64 vs) (by simp [verL])).set 3 (.int .i64 vq) (by simp [verL])).set 4 (.string vd) (by simp [verL])).set 5 (.bool false) (by simp [verL]))
        have hbZ := ((((((hb.setCell (p := ⟨w.heap.size + 1, 0, none⟩) (by show w.heap.size ≤ w.heap.size + 1; omega) (.int .i64 vw)).setCell (p := ⟨w.heap.size + 1, 1, none⟩) (by show w.heap.size ≤ w.heap.size + 1; omega) (.int .i64 vc)).setCell (p := ⟨w.heap.size + 1, 2, none⟩) (by show w.heap.size ≤ w.heap.size + 1; omega) (.int .i64 vs)).setCell (p := ⟨w.heap.size + 1, 3, none⟩) (by show w.heap.size ≤ w.heap.size + 1; omega) (.int .i64 vq)).setCell (p := ⟨w.heap.size + 1, 4, none⟩) (by show w.heap.size ≤ w.heap.size + 1; omega) (.string vd)).setCell (p := ⟨w.heap.size + 1, 5, none⟩) (by show w.heap.size ≤ w.heap.size + 1; omega) (.bool false))
        go_wp2_with fail
        refine bodyPost_ret (read_results (v := ⟨vw, vc, vs, vq, vd, false⟩) RZ rfl rfl) rfl ⟨?_, hbZ⟩
        rw [RV.out]
      · have RV : Hid (readV key a0 a1 a2 a3 l = (ver0, 8)) := RV1.out
        have r0 := RR.cell 0 _ rfl
        have p0 := RR.free 0 (by simp [verL])
        have r1 := RR.cell 1 _ rfl
        have p1 := RR.free 1 (by simp [verL])
        have r2 := RR.cell 2 _ rfl
        have p2 := RR.free 2 (by simp [verL])
        have r3 := RR.cell 3 _ rfl
        have p3 := RR.free 3 (by simp [verL])
        have r4 := RR.cell 4 _ rfl
        have p4 := RR.free 4 (by simp [verL])
        have r5 := RR.cell 5 _ rfl
        have p5 := RR.free 5 (by simp [verL])
        have RZ := ((((((RR.set 0 (.int .i64 0) (by simp [verL])).set 1 (.int .i64 0) (by simp [verL])).set 2 (.int .i64 0) (by simp [verL])).set 3 (.int .i64 0) (by simp [verL])).set 4 (.string ⟨#[]⟩) (by simp [verL])).set 5 (.bool false) (by simp [verL]))
        have hbZ := ((((((hb.setCell (p := ⟨w.heap.size + 1, 0, none⟩) (by show w.heap.size ≤ w.heap.size + 1; omega) (.int .i64 0)).setCell (p := ⟨w.heap.size + 1, 1, none⟩) (by show w.heap.size ≤ w.heap.size + 1; omega) (.int .i64 0)).setCell (p := ⟨w.heap.size + 1, 2, none⟩) (by show w.heap.size ≤ w.heap.size + 1; omega) (.int .i64 0)).setCell (p := ⟨w.heap.size + 1, 3, none⟩) (by show w.heap.size ≤ w.heap.size + 1; omega) (.int .i64 0)).setCell (p := ⟨w.heap.size + 1, 4, none⟩) (by show w.heap.size ≤ w.heap.size + 1; omega) (.string ⟨#[]⟩)).setCell (p := ⟨w.heap.size + 1, 5, none⟩) (by show w.heap.size ≤ w.heap.size + 1; omega) (.bool false))
        go_wp2_with fail
        refine bodyPost_ret (read_results (v := ver0) RZ rfl rfl) rfl ⟨?_, hbZ⟩
        rw [RV.out]

end Go.Proofs.YtknejedgddlabaaDoor
