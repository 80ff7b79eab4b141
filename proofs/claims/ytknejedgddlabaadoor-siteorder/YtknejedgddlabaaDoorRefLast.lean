/-
  What the document's own order of versions, and its last one, are, as the model runs them (copseref.before, Store.last).
-/
import Derived.Test.YtknejedgddlabaaDoorChecked
import Derived.Test.YtknejedgddlabaaDoorSiteA
import Derived.Test.YtknejedgddlabaaDoorRefClock
import Derived.LoopN
namespace Go.Proofs.YtknejedgddlabaaDoor
open Go.RowKit

set_option maxHeartbeats 1000000 in
theorem refBefore_is {a b : Ver} {v : Bool} (h : beforeV a b = v) (w : World) :
    Calls Tryd.prog 98 #[.agg #[.int .i64 a.wall, .int .i64 a.count, .int .i64 a.site, .int .i64 a.seq, .string a.data, .bool a.gone], .agg #[.int .i64 b.wall, .int .i64 b.count, .int .i64 b.site, .int .i64 b.seq, .string b.data, .bool b.gone]] w fun e w' => e = .returned (.bool v) ∧ Below w.heap.size w w' := by
  obtain ⟨aw, ac, asi, asq, ad, ag⟩ := a
  obtain ⟨bw, bc, bs, bq, bd, bg⟩ := b
  have RA := (RowL.new (w := w) (T := 71) [.int .i64 aw, .int .i64 ac, .int .i64 asi, .int .i64 asq, .string ad, .bool ag] rfl).boxed (.cells #[.int .i64 bw, .int .i64 bc, .int .i64 bs, .int .i64 bq, .string bd, .bool bg] 71)
  have RB := RowL.new (w := w.alloc (.cells #[.int .i64 aw, .int .i64 ac, .int .i64 asi, .int .i64 asq, .string ad, .bool ag] 71)) (T := 71) (n := w.heap.size + 1) [.int .i64 bw, .int .i64 bc, .int .i64 bs, .int .i64 bq, .string bd, .bool bg] (by simp)
  have hb := boxed (boxed (Below.refl _ w) (.cells #[.int .i64 aw, .int .i64 ac, .int .i64 asi, .int .i64 asq, .string ad, .bool ag] 71)) (.cells #[.int .i64 bw, .int .i64 bc, .int .i64 bs, .int .i64 bq, .string bd, .bool bg] 71)
  simp only [beforeV] at h
  obtain ⟨c, hc⟩ : ∃ c, cmpS aw ac bw bc = c := ⟨_, rfl⟩
  rw [hc] at h
  have HC : Hid (cmpS aw ac bw bc = c) := hc
  clear hc
  by_cases h0 : c = 0
  · rw [if_pos h0] at h
    subst h0
    have H : Hid (decide (asi < bs) = v) := h
    clear h
    go_enter Tryd.func98, Tryd.ntmps98
    go_wp2_with fail
    refine (refCompare_any aw ac bw bc _).mono ?_
    rintro e w1 ⟨rfl, hb1⟩
    rw [HC.out]
    replace RA := RA.later hb1
    replace RB := RB.later hb1
    have c2 := RA.cell 2 _ rfl
    have d2 := RB.cell 2 _ rfl
    go_wp2_with fail
    go_ret
    exact ⟨by rw [← H.out]; rfl, behind hb hb1⟩
  · rw [if_neg h0] at h
    have e0 : (c == 0) = false := beq_eq_false_iff_ne.2 h0
    clear h0
    have H : Hid (decide (c < 0) = v) := h
    clear h
    go_enter Tryd.func98, Tryd.ntmps98
    go_wp2_with fail
    refine (refCompare_any aw ac bw bc _).mono ?_
    rintro e w1 ⟨rfl, hb1⟩
    rw [HC.out]
    go_wp2_with fail
    go_ret
    exact ⟨by rw [← H.out]; rfl, behind hb hb1⟩

/-- a vector's number of a site, in a box -/
theorem vec_at {w : World} {b : Nat} {a0 a1 a2 a3 site : Int} (h : Row4 w b a0 a1 a2 a3) (h0 : 0 ≤ site) (h1 : site ≤ 3) : w.cell? ⟨b, site.toNat, none⟩ = some (.int .i64 (depOf site a0 a1 a2 a3)) := by
  have : site = 0 ∨ site = 1 ∨ site = 2 ∨ site = 3 := by omega
  rcases this with rfl | rfl | rfl | rfl
  · exact h.c0
  · exact h.c1
  · exact h.c2
  · exact h.c3

/-- the best one so far, in its box -/
def bestL : Option Ver → List Value
  | none => verL ver0
  | some v => verL v
def someB : Option Ver → Bool
  | none => false
  | some _ => true

theorem bestL_eq (best : Option Ver) : bestL best = verL (best.getD ver0) := by cases best <;> rfl

/-- what is handed back: the version in the result's box, and whether there is one -/
theorem last_results {tmps : Array Value} {w : World} {b : Nat} {v : Ver} {sv : Bool} (h : RowL w b (verL v)) (h2 : tmps[6]? = some (.pointer (some ⟨b, 0, none⟩))) (h3 : tmps[7]? = some (.bool sv)) :
    (results Tryd.f79 tmps).run Tryd.prog w = .ok (.tuple #[.agg (verL v).toArray, .bool sv]) w := by
  have z0 := h.cell 0 _ rfl
  have z1 := h.cell 1 _ rfl
  have z2 := h.cell 2 _ rfl
  have z3 := h.cell 3 _ rfl
  have z4 := h.cell 4 _ rfl
  have z5 := h.cell 5 _ rfl
  simp [results, Tryd.results79, go_sem, h2, h3, z0, z1, z2, z3, z4, z5, verL]

set_option maxHeartbeats 8000000 in
/-- the last one of a key that a vector has, wherever the versions lie -/
theorem refLast_any {sb : Nat} {a : Option Addr} {cap : Nat} {l : List Hd} (key a0 a1 a2 a3 : Int) (w : World) (hS : w.cell? ⟨sb, 0, none⟩ = some (.slice a l.length cap)) (hC : HdIn w a cap l) (hok : ∀ h ∈ l, okVer h.v = true) (hl : l.length ≤ 1000000) :
    Calls Tryd.prog 79 #[.pointer (some ⟨sb, 0, none⟩), .int .i64 key, .agg #[.int .i64 a0, .int .i64 a1, .int .i64 a2, .int .i64 a3]] w fun e w' =>
      e = .returned (.tuple #[.agg (bestL (lastV key a0 a1 a2 a3 l)).toArray, .bool (someB (lastV key a0 a1 a2 a3 l))]) ∧ Below w.heap.size w w' := by
  have hne := Later.one
  have HOK : Hid (∀ h ∈ l, okVer h.v = true) := hok
  clear hok
  have RA := ((Row4.new w 37 a0 a1 a2 a3).boxed (.cells #[.int .i64 0, .int .i64 0, .int .i64 0, .int .i64 0, .string ⟨#[]⟩, .bool false] 71)).boxed (.cells #[.int .i64 0, .int .i64 0, .int .i64 0, .int .i64 0, .string ⟨#[]⟩, .bool false] 71)
  have RR := (RowL.new (w := w.alloc (.cells #[.int .i64 a0, .int .i64 a1, .int .i64 a2, .int .i64 a3] 37)) (T := 71) (n := w.heap.size + 1) [.int .i64 0, .int .i64 0, .int .i64 0, .int .i64 0, .string ⟨#[]⟩, .bool false] (by simp)).boxed (.cells #[.int .i64 0, .int .i64 0, .int .i64 0, .int .i64 0, .string ⟨#[]⟩, .bool false] 71)
  have RB := RowL.new (w := (w.alloc (.cells #[.int .i64 a0, .int .i64 a1, .int .i64 a2, .int .i64 a3] 37)).alloc (.cells #[.int .i64 0, .int .i64 0, .int .i64 0, .int .i64 0, .string ⟨#[]⟩, .bool false] 71)) (T := 71) (n := w.heap.size + 1 + 1) [.int .i64 0, .int .i64 0, .int .i64 0, .int .i64 0, .string ⟨#[]⟩, .bool false] (by simp)
  have hb := boxed (boxed (boxed (Below.refl _ w) (.cells #[.int .i64 a0, .int .i64 a1, .int .i64 a2, .int .i64 a3] 37)) (.cells #[.int .i64 0, .int .i64 0, .int .i64 0, .int .i64 0, .string ⟨#[]⟩, .bool false] 71)) (.cells #[.int .i64 0, .int .i64 0, .int .i64 0, .int .i64 0, .string ⟨#[]⟩, .bool false] 71)
  have s0 := cell_later hb hS
  clear hS
  go_enter Tryd.func79, Tryd.ntmps79
  go_wp2_with fail
  obtain ⟨W, hWW⟩ : ∃ W, (((w.alloc (.cells #[.int .i64 a0, .int .i64 a1, .int .i64 a2, .int .i64 a3] 37)).alloc (.cells #[.int .i64 0, .int .i64 0, .int .i64 0, .int .i64 0, .string ⟨#[]⟩, .bool false] 71)).alloc (.cells #[.int .i64 0, .int .i64 0, .int .i64 0, .int .i64 0, .string ⟨#[]⟩, .bool false] 71)) = W := ⟨_, rfl⟩
  have RB0 : RowL (((w.alloc (.cells #[.int .i64 a0, .int .i64 a1, .int .i64 a2, .int .i64 a3] 37)).alloc (.cells #[.int .i64 0, .int .i64 0, .int .i64 0, .int .i64 0, .string ⟨#[]⟩, .bool false] 71)).alloc (.cells #[.int .i64 0, .int .i64 0, .int .i64 0, .int .i64 0, .string ⟨#[]⟩, .bool false] 71)) (w.heap.size + 1 + 1) (bestL (lastV key a0 a1 a2 a3 (l.take 0))) := RB
  rw [hWW] at RA RR RB0 hb ⊢
  clear hWW RB s0
  go_loopw [9, 17] (fun sv iv wr => ∃ (k : Nat) (z : Int), k ≤ l.length ∧ z = k ∧ iv = .int .i64 z ∧ sv = .bool (someB (lastV key a0 a1 a2 a3 (l.take k))) ∧ RowL wr (w.heap.size + 1 + 1) (bestL (lastV key a0 a1 a2 a3 (l.take k))) ∧ RowL wr (w.heap.size + 1) (verL ver0) ∧ Row4 wr w.heap.size a0 a1 a2 a3 ∧ Below w.heap.size w wr) (fun _ i _ => l.length - (intOf i).toNat)
  case atStart => exact ⟨0, 0, by omega, rfl, rfl, rfl, RB0, RR, RA, hb⟩
  case round =>
    clear RB0 RR RA hb
    obtain ⟨k, z, hk, hz, rfl, rfl, RB, RR, RA, hb⟩ := hrel
    by_cases hlt : k < l.length
    · have h1 : z < (l.length : Int) := by omega
      have h2 : z.toNat = k := by omega
      have h3 : 0 ≤ z := by omega
      have HZ : Hid (z = k) := hz
      clear hz
      obtain ⟨b, off, rfl, hcc⟩ : ∃ b off, a = some ⟨b, off, none⟩ ∧ ∀ i r u, i < l.length → (hdL (hdAt l i))[r]? = some u → w.cell? ⟨b, off + (i * 7 + r), none⟩ = some u := by
        rcases hC.held with h0 | h0
        · rw [h0] at hlt; simp at hlt
        · exact h0
      have HC : Hid (∀ i r u, i < l.length → (hdL (hdAt l i))[r]? = some u → w.cell? ⟨b, off + (i * 7 + r), none⟩ = some u) := hcc
      clear hcc
      obtain ⟨best, hbest⟩ : ∃ best, lastV key a0 a1 a2 a3 (l.take k) = best := ⟨_, rfl⟩
      rw [hbest] at RB ⊢
      have HB : Hid (lastV key a0 a1 a2 a3 (l.take k) = best) := hbest
      clear hbest
      obtain ⟨⟨hk_, ⟨wl, ct, st, sq, dt, gn⟩⟩, hx⟩ : ∃ x, hdAt l k = x := ⟨_, rfl⟩
      have HX : Hid (hdAt l k = ⟨hk_, ⟨wl, ct, st, sq, dt, gn⟩⟩) := hx
      have x0 : wr.cell? ⟨b, off + k * 7, none⟩ = some (.int .i64 hk_) := cell_later hb (HC.out k 0 _ hlt (by rw [hx]; rfl))
      have x1 : wr.cell? ⟨b, off + k * 7 + 1, none⟩ = some (.int .i64 wl) := cell_later hb (HC.out k 1 _ hlt (by rw [hx]; rfl))
      have x2 : wr.cell? ⟨b, off + k * 7 + 2, none⟩ = some (.int .i64 ct) := cell_later hb (HC.out k 2 _ hlt (by rw [hx]; rfl))
      have x3 : wr.cell? ⟨b, off + k * 7 + 3, none⟩ = some (.int .i64 st) := cell_later hb (HC.out k 3 _ hlt (by rw [hx]; rfl))
      have x4 : wr.cell? ⟨b, off + k * 7 + 4, none⟩ = some (.int .i64 sq) := cell_later hb (HC.out k 4 _ hlt (by rw [hx]; rfl))
      have x5 : wr.cell? ⟨b, off + k * 7 + 5, none⟩ = some (.string dt) := cell_later hb (HC.out k 5 _ hlt (by rw [hx]; rfl))
      have x6 : wr.cell? ⟨b, off + k * 7 + 6, none⟩ = some (.bool gn) := cell_later hb (HC.out k 6 _ hlt (by rw [hx]; rfl))
      clear hx
      have hsite := okVer_site (HOK.out (hdAt l k) (by simp only [hdAt, List.getD, List.getElem?_eq_getElem hlt, Option.getD_some]; exact List.getElem_mem hlt))
      rw [HX.out] at hsite
      simp only at hsite
      obtain ⟨t0, t1⟩ := hsite
      have t2 : st < 4 := by omega
      have hat := Later.cell (cell_later (boxed (Below.refl _ wr) (.cells #[.int .i64 hk_, .int .i64 wl, .int .i64 ct, .int .i64 st, .int .i64 sq, .string dt, .bool gn] 136)) (vec_at RA t0 t1))
      replace RB := RB.boxed (.cells #[.int .i64 hk_, .int .i64 wl, .int .i64 ct, .int .i64 st, .int .i64 sq, .string dt, .bool gn] 136)
      replace RR := RR.boxed (.cells #[.int .i64 hk_, .int .i64 wl, .int .i64 ct, .int .i64 st, .int .i64 sq, .string dt, .bool gn] 136)
      replace RA := RA.boxed (.cells #[.int .i64 hk_, .int .i64 wl, .int .i64 ct, .int .i64 st, .int .i64 sq, .string dt, .bool gn] 136)
      replace hb := boxed hb (.cells #[.int .i64 hk_, .int .i64 wl, .int .i64 ct, .int .i64 st, .int .i64 sq, .string dt, .bool gn] 136)
      have RY := RowL.new (w := wr) (T := 136) [.int .i64 hk_, .int .i64 wl, .int .i64 ct, .int .i64 st, .int .i64 sq, .string dt, .bool gn] rfl
      have w0 := Later.cell (RY.cell 0 _ rfl)
      have w1 := Later.cell (RY.cell 1 _ rfl)
      have w2 := Later.cell (RY.cell 2 _ rfl)
      have w3 := Later.cell (RY.cell 3 _ rfl)
      have w4 := Later.cell (RY.cell 4 _ rfl)
      have w5 := Later.cell (RY.cell 5 _ rfl)
      have w6 := Later.cell (RY.cell 6 _ rfl)
      by_cases hkey : hk_ = key
      · have ek : (hk_ == key) = true := by simp [hkey]
        have HK : Hid (hk_ = key) := hkey
        clear hkey
        cases hh : hasV a0 a1 a2 a3 ⟨wl, ct, st, sq, dt, gn⟩
        · have dh : decide (sq ≤ depOf st a0 a1 a2 a3) = false := hh
          have HH : Hid (hasV a0 a1 a2 a3 ⟨wl, ct, st, sq, dt, gn⟩ = false) := hh
          clear hh
          go_wp2_with fail
          refine wp_region_later (by kernel_rfl) (by kernel_rfl) ?_
          repeat (go_big_quiet_step (fail))
          refine wpQuiet_nil ?_
          rintro w5 ⟨⟨_, hb7⟩, rfl⟩
          replace RB := RB.later hb7
          replace RR := RR.later hb7
          replace RA := RA.later hb7
          replace hb := behind hb hb7
          have yy := fun j v (h : (hdL ⟨hk_, ⟨wl, ct, st, sq, dt, gn⟩⟩)[j]? = some v) => cell_later hb7 (RY.cell j v h)
          have ST : Hid (lastV key a0 a1 a2 a3 (l.take (k + 1)) = best) := by show lastV key a0 a1 a2 a3 (l.take (k + 1)) = best; rw [lastV_snoc hlt, HB.out, HX.out]; exact stepV_none (fun x => by have := x.2.1; rw [HH.out] at this; cases this)
          clear hb7 yy
          go_wp2_with fail
          go_roundw
          case rel => exact ⟨k + 1, z + 1, by omega, by have := HZ.out; omega, by go_num, by rw [ST.out], by rw [ST.out]; exact RB, RR, RA, hb⟩
          case measure => simp [intOf]; omega
        · have dh : decide (sq ≤ depOf st a0 a1 a2 a3) = true := hh
          have HH : Hid (hasV a0 a1 a2 a3 ⟨wl, ct, st, sq, dt, gn⟩ = true) := hh
          clear hh
          cases best with
          | none =>
            have sn : someB none = false := rfl
            go_wp2_with fail
            refine wp_region_later (by kernel_rfl) (by kernel_rfl) ?_
            repeat (go_big_quiet_step (fail))
            refine wpQuiet_nil ?_
            rintro w5 ⟨⟨_, hb7⟩, rfl⟩
            replace RB := RB.later hb7
            replace RR := RR.later hb7
            replace RA := RA.later hb7
            replace hb := behind hb hb7
            have yy := fun j v (h : (hdL ⟨hk_, ⟨wl, ct, st, sq, dt, gn⟩⟩)[j]? = some v) => cell_later hb7 (RY.cell j v h)
            have ST : Hid (lastV key a0 a1 a2 a3 (l.take (k + 1)) = some ⟨wl, ct, st, sq, dt, gn⟩) := by show lastV key a0 a1 a2 a3 (l.take (k + 1)) = _; rw [lastV_snoc hlt, HB.out, HX.out]; exact stepV_some ⟨HK.out, HH.out, rfl⟩
            have y1 := yy 1 _ rfl
            have y2 := yy 2 _ rfl
            have y3 := yy 3 _ rfl
            have y4 := yy 4 _ rfl
            have y5 := yy 5 _ rfl
            have y6 := yy 6 _ rfl
            have b0 := RB.cell 0 _ rfl
            have p0 := RB.free 0 (by simp [bestL, verL])
            have b1 := RB.cell 1 _ rfl
            have p1 := RB.free 1 (by simp [bestL, verL])
            have b2 := RB.cell 2 _ rfl
            have p2 := RB.free 2 (by simp [bestL, verL])
            have b3 := RB.cell 3 _ rfl
            have p3 := RB.free 3 (by simp [bestL, verL])
            have b4 := RB.cell 4 _ rfl
            have p4 := RB.free 4 (by simp [bestL, verL])
            have b5 := RB.cell 5 _ rfl
            have p5 := RB.free 5 (by simp [bestL, verL])
            have RBZ := ((((((RB.set 0 (.int .i64 wl) (by simp [bestL, verL])).set 1 (.int .i64 ct) (by simp [bestL, verL])).set 2 (.int .i64 st) (by simp [bestL, verL])).set 3 (.int .i64 sq) (by simp [bestL, verL])).set 4 (.string dt) (by simp [bestL, verL])).set 5 (.bool gn) (by simp [bestL, verL]))
            have hbZ := ((((((hb.setCell (p := ⟨w.heap.size + 1 + 1, 0, none⟩) (by show w.heap.size ≤ w.heap.size + 1 + 1; omega) (.int .i64 wl)).setCell (p := ⟨w.heap.size + 1 + 1, 1, none⟩) (by show w.heap.size ≤ w.heap.size + 1 + 1; omega) (.int .i64 ct)).setCell (p := ⟨w.heap.size + 1 + 1, 2, none⟩) (by show w.heap.size ≤ w.heap.size + 1 + 1; omega) (.int .i64 st)).setCell (p := ⟨w.heap.size + 1 + 1, 3, none⟩) (by show w.heap.size ≤ w.heap.size + 1 + 1; omega) (.int .i64 sq)).setCell (p := ⟨w.heap.size + 1 + 1, 4, none⟩) (by show w.heap.size ≤ w.heap.size + 1 + 1; omega) (.string dt)).setCell (p := ⟨w.heap.size + 1 + 1, 5, none⟩) (by show w.heap.size ≤ w.heap.size + 1 + 1; omega) (.bool gn))
            have RRZ := ((((((RR.far ⟨w.heap.size + 1 + 1, 0, none⟩ (.int .i64 wl) (by show w.heap.size + 1 + 1 ≠ w.heap.size + 1; omega)).far ⟨w.heap.size + 1 + 1, 1, none⟩ (.int .i64 ct) (by show w.heap.size + 1 + 1 ≠ w.heap.size + 1; omega)).far ⟨w.heap.size + 1 + 1, 2, none⟩ (.int .i64 st) (by show w.heap.size + 1 + 1 ≠ w.heap.size + 1; omega)).far ⟨w.heap.size + 1 + 1, 3, none⟩ (.int .i64 sq) (by show w.heap.size + 1 + 1 ≠ w.heap.size + 1; omega)).far ⟨w.heap.size + 1 + 1, 4, none⟩ (.string dt) (by show w.heap.size + 1 + 1 ≠ w.heap.size + 1; omega)).far ⟨w.heap.size + 1 + 1, 5, none⟩ (.bool gn) (by show w.heap.size + 1 + 1 ≠ w.heap.size + 1; omega))
            have RAZ := ((((((RA.far ⟨w.heap.size + 1 + 1, 0, none⟩ (.int .i64 wl) (by show w.heap.size + 1 + 1 ≠ w.heap.size; omega)).far ⟨w.heap.size + 1 + 1, 1, none⟩ (.int .i64 ct) (by show w.heap.size + 1 + 1 ≠ w.heap.size; omega)).far ⟨w.heap.size + 1 + 1, 2, none⟩ (.int .i64 st) (by show w.heap.size + 1 + 1 ≠ w.heap.size; omega)).far ⟨w.heap.size + 1 + 1, 3, none⟩ (.int .i64 sq) (by show w.heap.size + 1 + 1 ≠ w.heap.size; omega)).far ⟨w.heap.size + 1 + 1, 4, none⟩ (.string dt) (by show w.heap.size + 1 + 1 ≠ w.heap.size; omega)).far ⟨w.heap.size + 1 + 1, 5, none⟩ (.bool gn) (by show w.heap.size + 1 + 1 ≠ w.heap.size; omega))
            clear hb7 yy hb RR RA RB
            go_wp2_with fail
            go_roundw
            case rel => exact ⟨k + 1, z + 1, by omega, by have := HZ.out; omega, by go_num, by rw [ST.out]; rfl, by rw [ST.out]; exact RBZ, RRZ, RAZ, hbZ⟩
            case measure => simp [intOf]; omega
          | some bv =>
            have sn : someB (some bv) = true := rfl
            have v0 := Later.cell (RB.cell 0 _ rfl)
            have v1 := Later.cell (RB.cell 1 _ rfl)
            have v2 := Later.cell (RB.cell 2 _ rfl)
            have v3 := Later.cell (RB.cell 3 _ rfl)
            have v4 := Later.cell (RB.cell 4 _ rfl)
            have v5 := Later.cell (RB.cell 5 _ rfl)
            cases hbf : beforeV bv ⟨wl, ct, st, sq, dt, gn⟩
            · have HF : Hid (beforeV bv ⟨wl, ct, st, sq, dt, gn⟩ = false) := hbf
              clear hbf
              go_wp2_with fail
              refine wp_region_later (by kernel_rfl) (by kernel_rfl) ?_
              repeat (go_big_quiet_step ((go_at_call 98; with_reducible exact calls_later (refBefore_is HF.out _))))
              refine wpQuiet_nil ?_
              rintro w5 ⟨⟨_, hb7⟩, rfl⟩
              replace RB := RB.later hb7
              replace RR := RR.later hb7
              replace RA := RA.later hb7
              replace hb := behind hb hb7
              have yy := fun j v (h : (hdL ⟨hk_, ⟨wl, ct, st, sq, dt, gn⟩⟩)[j]? = some v) => cell_later hb7 (RY.cell j v h)
              have ST : Hid (lastV key a0 a1 a2 a3 (l.take (k + 1)) = some bv) := by show lastV key a0 a1 a2 a3 (l.take (k + 1)) = some bv; rw [lastV_snoc hlt, HB.out, HX.out]; exact stepV_none (fun x => by have := x.2.2; simp only [HF.out] at this; cases this)
              clear hb7 yy
              go_wp2_with fail
              go_roundw
              case rel => exact ⟨k + 1, z + 1, by omega, by have := HZ.out; omega, by go_num, by rw [ST.out], by rw [ST.out]; exact RB, RR, RA, hb⟩
              case measure => simp [intOf]; omega
            · have HF : Hid (beforeV bv ⟨wl, ct, st, sq, dt, gn⟩ = true) := hbf
              clear hbf
              go_wp2_with fail
              refine wp_region_later (by kernel_rfl) (by kernel_rfl) ?_
              repeat (go_big_quiet_step ((go_at_call 98; with_reducible exact calls_later (refBefore_is HF.out _))))
              refine wpQuiet_nil ?_
              rintro w5 ⟨⟨_, hb7⟩, rfl⟩
              replace RB := RB.later hb7
              replace RR := RR.later hb7
              replace RA := RA.later hb7
              replace hb := behind hb hb7
              have yy := fun j v (h : (hdL ⟨hk_, ⟨wl, ct, st, sq, dt, gn⟩⟩)[j]? = some v) => cell_later hb7 (RY.cell j v h)
              have ST : Hid (lastV key a0 a1 a2 a3 (l.take (k + 1)) = some ⟨wl, ct, st, sq, dt, gn⟩) := by show lastV key a0 a1 a2 a3 (l.take (k + 1)) = _; rw [lastV_snoc hlt, HB.out, HX.out]; exact stepV_some ⟨HK.out, HH.out, HF.out⟩
              have y1 := yy 1 _ rfl
              have y2 := yy 2 _ rfl
              have y3 := yy 3 _ rfl
              have y4 := yy 4 _ rfl
              have y5 := yy 5 _ rfl
              have y6 := yy 6 _ rfl
              have b0 := RB.cell 0 _ rfl
              have p0 := RB.free 0 (by simp [bestL, verL])
              have b1 := RB.cell 1 _ rfl
              have p1 := RB.free 1 (by simp [bestL, verL])
              have b2 := RB.cell 2 _ rfl
              have p2 := RB.free 2 (by simp [bestL, verL])
              have b3 := RB.cell 3 _ rfl
              have p3 := RB.free 3 (by simp [bestL, verL])
              have b4 := RB.cell 4 _ rfl
              have p4 := RB.free 4 (by simp [bestL, verL])
              have b5 := RB.cell 5 _ rfl
              have p5 := RB.free 5 (by simp [bestL, verL])
              have RBZ := ((((((RB.set 0 (.int .i64 wl) (by simp [bestL, verL])).set 1 (.int .i64 ct) (by simp [bestL, verL])).set 2 (.int .i64 st) (by simp [bestL, verL])).set 3 (.int .i64 sq) (by simp [bestL, verL])).set 4 (.string dt) (by simp [bestL, verL])).set 5 (.bool gn) (by simp [bestL, verL]))
              have hbZ := ((((((hb.setCell (p := ⟨w.heap.size + 1 + 1, 0, none⟩) (by show w.heap.size ≤ w.heap.size + 1 + 1; omega) (.int .i64 wl)).setCell (p := ⟨w.heap.size + 1 + 1, 1, none⟩) (by show w.heap.size ≤ w.heap.size + 1 + 1; omega) (.int .i64 ct)).setCell (p := ⟨w.heap.size + 1 + 1, 2, none⟩) (by show w.heap.size ≤ w.heap.size + 1 + 1; omega) (.int .i64 st)).setCell (p := ⟨w.heap.size + 1 + 1, 3, none⟩) (by show w.heap.size ≤ w.heap.size + 1 + 1; omega) (.int .i64 sq)).setCell (p := ⟨w.heap.size + 1 + 1, 4, none⟩) (by show w.heap.size ≤ w.heap.size + 1 + 1; omega) (.string dt)).setCell (p := ⟨w.heap.size + 1 + 1, 5, none⟩) (by show w.heap.size ≤ w.heap.size + 1 + 1; omega) (.bool gn))
              have RRZ := ((((((RR.far ⟨w.heap.size + 1 + 1, 0, none⟩ (.int .i64 wl) (by show w.heap.size + 1 + 1 ≠ w.heap.size + 1; omega)).far ⟨w.heap.size + 1 + 1, 1, none⟩ (.int .i64 ct) (by show w.heap.size + 1 + 1 ≠ w.heap.size + 1; omega)).far ⟨w.heap.size + 1 + 1, 2, none⟩ (.int .i64 st) (by show w.heap.size + 1 + 1 ≠ w.heap.size + 1; omega)).far ⟨w.heap.size + 1 + 1, 3, none⟩ (.int .i64 sq) (by show w.heap.size + 1 + 1 ≠ w.heap.size + 1; omega)).far ⟨w.heap.size + 1 + 1, 4, none⟩ (.string dt) (by show w.heap.size + 1 + 1 ≠ w.heap.size + 1; omega)).far ⟨w.heap.size + 1 + 1, 5, none⟩ (.bool gn) (by show w.heap.size + 1 + 1 ≠ w.heap.size + 1; omega))
              have RAZ := ((((((RA.far ⟨w.heap.size + 1 + 1, 0, none⟩ (.int .i64 wl) (by show w.heap.size + 1 + 1 ≠ w.heap.size; omega)).far ⟨w.heap.size + 1 + 1, 1, none⟩ (.int .i64 ct) (by show w.heap.size + 1 + 1 ≠ w.heap.size; omega)).far ⟨w.heap.size + 1 + 1, 2, none⟩ (.int .i64 st) (by show w.heap.size + 1 + 1 ≠ w.heap.size; omega)).far ⟨w.heap.size + 1 + 1, 3, none⟩ (.int .i64 sq) (by show w.heap.size + 1 + 1 ≠ w.heap.size; omega)).far ⟨w.heap.size + 1 + 1, 4, none⟩ (.string dt) (by show w.heap.size + 1 + 1 ≠ w.heap.size; omega)).far ⟨w.heap.size + 1 + 1, 5, none⟩ (.bool gn) (by show w.heap.size + 1 + 1 ≠ w.heap.size; omega))
              clear hb7 yy hb RR RA RB
              go_wp2_with fail
              go_roundw
              case rel => exact ⟨k + 1, z + 1, by omega, by have := HZ.out; omega, by go_num, by rw [ST.out]; rfl, by rw [ST.out]; exact RBZ, RRZ, RAZ, hbZ⟩
              case measure => simp [intOf]; omega
      · have ek : (hk_ == key) = false := beq_eq_false_iff_ne.2 hkey
        have HK : Hid (¬ hk_ = key) := hkey
        clear hkey
        go_wp2_with fail
        refine wp_region_later (by kernel_rfl) (by kernel_rfl) ?_
        repeat (go_big_quiet_step (fail))
        refine wpQuiet_nil ?_
        rintro w5 ⟨⟨_, hb7⟩, rfl⟩
        replace RB := RB.later hb7
        replace RR := RR.later hb7
        replace RA := RA.later hb7
        replace hb := behind hb hb7
        have yy := fun j v (h : (hdL ⟨hk_, ⟨wl, ct, st, sq, dt, gn⟩⟩)[j]? = some v) => cell_later hb7 (RY.cell j v h)
        have ST : Hid (lastV key a0 a1 a2 a3 (l.take (k + 1)) = best) := by show lastV key a0 a1 a2 a3 (l.take (k + 1)) = best; rw [lastV_snoc hlt, HB.out, HX.out]; exact stepV_none (fun x => HK.out x.1)
        clear hb7 yy
        go_wp2_with fail
        go_roundw
        case rel => exact ⟨k + 1, z + 1, by omega, by have := HZ.out; omega, by go_num, by rw [ST.out], by rw [ST.out]; exact RB, RR, RA, hb⟩
        case measure => simp [intOf]; omega
    · have e : k = l.length := by omega
      obtain ⟨best, hbest⟩ : ∃ best, lastV key a0 a1 a2 a3 (l.take k) = best := ⟨_, rfl⟩
      have HB : Hid (lastV key a0 a1 a2 a3 l = best) := by show lastV key a0 a1 a2 a3 l = best; rw [← hbest, e, List.take_length]
      rw [hbest, bestL_eq] at RB
      rw [hbest]
      clear hbest e
      obtain ⟨v, hv⟩ : ∃ v, best.getD ver0 = v := ⟨_, rfl⟩
      rw [hv] at RB
      have HV : Hid (best.getD ver0 = v) := hv
      clear hv
      obtain ⟨sv, hsv⟩ : ∃ sv, someB best = sv := ⟨_, rfl⟩
      rw [hsv]
      have HSV : Hid (someB best = sv) := hsv
      clear hsv
      have b0 := RB.cell 0 _ rfl
      have r0 := RR.cell 0 _ rfl
      have p0 := RR.free 0 (by simp [verL])
      have b1 := RB.cell 1 _ rfl
      have r1 := RR.cell 1 _ rfl
      have p1 := RR.free 1 (by simp [verL])
      have b2 := RB.cell 2 _ rfl
      have r2 := RR.cell 2 _ rfl
      have p2 := RR.free 2 (by simp [verL])
      have b3 := RB.cell 3 _ rfl
      have r3 := RR.cell 3 _ rfl
      have p3 := RR.free 3 (by simp [verL])
      have b4 := RB.cell 4 _ rfl
      have r4 := RR.cell 4 _ rfl
      have p4 := RR.free 4 (by simp [verL])
      have b5 := RB.cell 5 _ rfl
      have r5 := RR.cell 5 _ rfl
      have p5 := RR.free 5 (by simp [verL])
      have RZ := ((((((RR.set 0 (.int .i64 v.wall) (by simp [verL])).set 1 (.int .i64 v.count) (by simp [verL])).set 2 (.int .i64 v.site) (by simp [verL])).set 3 (.int .i64 v.seq) (by simp [verL])).set 4 (.string v.data) (by simp [verL])).set 5 (.bool v.gone) (by simp [verL]))
      have hbZ := ((((((hb.setCell (p := ⟨w.heap.size + 1, 0, none⟩) (by show w.heap.size ≤ w.heap.size + 1; omega) (.int .i64 v.wall)).setCell (p := ⟨w.heap.size + 1, 1, none⟩) (by show w.heap.size ≤ w.heap.size + 1; omega) (.int .i64 v.count)).setCell (p := ⟨w.heap.size + 1, 2, none⟩) (by show w.heap.size ≤ w.heap.size + 1; omega) (.int .i64 v.site)).setCell (p := ⟨w.heap.size + 1, 3, none⟩) (by show w.heap.size ≤ w.heap.size + 1; omega) (.int .i64 v.seq)).setCell (p := ⟨w.heap.size + 1, 4, none⟩) (by show w.heap.size ≤ w.heap.size + 1; omega) (.string v.data)).setCell (p := ⟨w.heap.size + 1, 5, none⟩) (by show w.heap.size ≤ w.heap.size + 1; omega) (.bool v.gone))
      clear RB RR RA hb
      go_wp2_with fail
      refine bodyPost_ret (last_results (v := v) RZ rfl rfl) rfl ⟨?_, hbZ⟩
      rw [HB.out, bestL_eq, HV.out, HSV.out]

end Go.Proofs.YtknejedgddlabaaDoor
