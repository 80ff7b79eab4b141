/-
  What the document's own Sweep of a store is, as the model runs it (copseref.Store.Sweep).
  What the document's own Told of a store is, as the model runs it (copseref.Store.Told).
  Versions of keys: what the last one is, whatever the order in which they are looked at; what a sweep leaves; no Go in sight.
  What laws of stores have in common: an error's value, blocks that are kept, how many versions there are behind a put or a sweep.
  A site, as the document has it: what it applied, what waits, what it knows; no Go in sight.
  The document's store inside another struct, at an offset: Put (copseref.Store.Put).
  The document's store inside another struct, at an offset: Put of a version that may be (copseref.Store.Put).
  A site of the document in memory: its box, the rows of what it applied and of what waits, its store; transactions' writes lie in blocks that are nobody's to change.
  Towards a transaction that is applied at a site of the document: what stands while it is.
  Several things in memory, apart: what each is, in which blocks; what is left of all where one, or two, of them change.
  What waits at a site, and is applied: that of the least site first, until there is none, or no room; no Go in sight.
  What waits at a site of the program: a map by site and number, as a list of transactions whose numbers are apart.
  What is always so of a site: what it applied, what waits; how much it has; no Go in sight.
  Slices of transactions.
  Towards a commit: the next stamp, the error, the transaction; a transaction's box.
  Towards a commit that goes well, at a site of the document (copseref.Site.Commit): what it asks, and a caller's writes as what is appended.
  A row of transactions behind another: 'append(x, y...)' where y may be none, or nothing; as the model runs it.
  Rows of transactions: one alone, a beginning, an end; 'append(x, y...)' in a plain region.
  One of those that are left is taken out (copsekeep.SiteOrder): 'left = append(append([]api.Tx{}, left[:k]...), left[k+1:]...)', as the model runs it, whatever the rest of the frame is.
  What is read at a site; a version's box.
-/
import Derived.Test.YtknejedgddlabaaDoorRefPut
import Derived.Laws.StructEq
import Derived.Lib.SmallJoins
import Derived.Test.YtknejedgddlabaaDoorSiteA
import Derived.Test.YtknejedgddlabaaDoorORead
import Derived.Test.YtknejedgddlabaaDoorRefClock
import Derived.Deep.RegionHeld3
import Derived.Shelf.RegionOpen
import Derived.Maps.OwnSet
import Derived.DeepKeys4
import Derived.Maps.AppendAt
namespace Go.Proofs.YtknejedgddlabaaDoor
open Go.RowKit

/-- two versions are the same -/
def eqV (a b : Ver) : Bool := (a.wall == b.wall && a.count == b.count) && a.site == b.site && a.seq == b.seq && a.data.toList == b.data.toList && a.gone == b.gone

theorem eqStamp9 (a b c d : Int) (w : World) : (Op.equalIn 9999 23 (.agg #[.int .i64 a, .int .i64 b]) (.agg #[.int .i64 c, .int .i64 d])).run Tryd.prog w = .ok (a == c && b == d) w := by
  have u3 := Tryd.underlying3
  have a3 := Tryd.isAgg3
  have z3 := Tryd.sizeOf3
  have hS : Tryd.prog.underlying 23 = some (.struct (Tryd.prog.fieldsOf 23)) := by kernel_rfl
  have hp : Tryd.prog.stoodInHeld 23 = false := by kernel_rfl
  rw [show (9999 : Nat) = 9998 + 1 from rfl, run_equalIn_agg w 9998 23 _ _ hS hp]
  simp only [Program.fieldsOf, Tryd.underlying23]
  go_simp
  by_cases h1 : a = c <;> by_cases h2 : b = d <;> simp [h1, h2]

theorem eqVerB (a b : Ver) (w : World) : (binOp .eql 71 (.agg #[.int .i64 a.wall, .int .i64 a.count, .int .i64 a.site, .int .i64 a.seq, .string a.data, .bool a.gone]) (.agg #[.int .i64 b.wall, .int .i64 b.count, .int .i64 b.site, .int .i64 b.seq, .string b.data, .bool b.gone])).run Tryd.prog w = .ok (.bool (eqV a b)) w := by
  have u3 := Tryd.underlying3
  have a3 := Tryd.isAgg3
  have z3 := Tryd.sizeOf3
  have u4 := Tryd.underlying4
  have a4 := Tryd.isAgg4
  have z4 := Tryd.sizeOf4
  have u9 := Tryd.underlying9
  have a9 := Tryd.isAgg9
  have z9 := Tryd.sizeOf9
  have hS : Tryd.prog.underlying 71 = some (.struct (Tryd.prog.fieldsOf 71)) := by kernel_rfl
  have hp : Tryd.prog.stoodInHeld 71 = false := by kernel_rfl
  have s9 := eqStamp9
  have aS := Tryd.isAgg23
  have zS := Tryd.sizeOf23
  rw [run_eql_struct]
  rw [show (10000 : Nat) = 9999 + 1 from rfl, run_equalIn_agg w 9999 71 _ _ hS hp]
  simp only [Program.fieldsOf, Tryd.underlying71]
  go_simp
  by_cases h1 : a.wall = b.wall <;> by_cases h2 : a.count = b.count <;> by_cases h3 : a.site = b.site <;> by_cases h4 : a.seq = b.seq <;> by_cases h5 : a.data.toList = b.data.toList <;> by_cases h6 : a.gone = b.gone <;> simp [eqV, h1, h2, h3, h4, h5, h6]

/-- what stays behind a sweep -/
def keepV (a0 a1 a2 a3 : Int) (l : List Hd) (h : Hd) : Bool := !(someB (lastV h.key a0 a1 a2 a3 l)) || eqV ((lastV h.key a0 a1 a2 a3 l).getD ver0) h.v || !(hasV a0 a1 a2 a3 h.v)
def sweepL (a0 a1 a2 a3 : Int) (l : List Hd) : List Hd := l.filter (keepV a0 a1 a2 a3 l)
theorem take_hd {l : List Hd} {k : Nat} (hk : k < l.length) : l.take (k + 1) = l.take k ++ [hdAt l k] := by
  rw [List.take_succ_eq_append_getElem hk]
  simp [hdAt, List.getD, List.getElem?_eq_getElem hk]
theorem kept_length {l kept : List Hd} {k : Nat} {p : Hd → Bool} (h : (l.take k).filter p = kept) : kept.length ≤ l.length := by
  rw [← h]
  exact Nat.le_trans (List.length_filter_le _ _) (by rw [List.length_take]; omega)
theorem Row4.grown4 {w w' : World} {r : Option Nat} {b : Nat} {a0 a1 a2 a3 : Int} (h : Row4 w b a0 a1 a2 a3) (hg : w.grownBy w' r) (hne : some b ≠ r) : Row4 w' b a0 a1 a2 a3 := by
  have e := hg.block b h.lt hne
  constructor
  · rw [World.cell?_of_block (w := w) e]; exact h.c0
  · rw [World.cell?_of_block (w := w) e]; exact h.c1
  · rw [World.cell?_of_block (w := w) e]; exact h.c2
  · rw [World.cell?_of_block (w := w) e]; exact h.c3
  · rw [World.frozen?_of_block (w := w) e]; exact h.f0
  · rw [World.frozen?_of_block (w := w) e]; exact h.f1
  · rw [World.frozen?_of_block (w := w) e]; exact h.f2
  · rw [World.frozen?_of_block (w := w) e]; exact h.f3

set_option maxHeartbeats 8000000 in
theorem refSweep_any {sb : Nat} {sv : Value} {l : List Hd} (a0 a1 a2 a3 : Int) (w : World) (hS : RefSt w sb sv l) (hl : l.length ≤ 1000) :
    Calls Tryd.prog 34 #[.pointer (some ⟨sb, 0, none⟩), .agg #[.int .i64 a0, .int .i64 a1, .int .i64 a2, .int .i64 a3]] w fun e w' => e = .returned (.tuple #[]) ∧ PutPost w sb sv (sweepL a0 a1 a2 a3 l) w' := by
  have hne := Later.one
  obtain ⟨a, cap, rfl, hH⟩ := hdIn_own hS.own
  have RA := Row4.new w 37 a0 a1 a2 a3
  have hb := boxed (Below.refl _ w) (.cells #[.int .i64 a0, .int .i64 a1, .int .i64 a2, .int .i64 a3] 37)
  have S1 := hS.later hb
  have s0 : (w.alloc (.cells #[.int .i64 a0, .int .i64 a1, .int .i64 a2, .int .i64 a3] 37)).cell? ⟨sb, 0, none⟩ = some (.slice a l.length cap) := S1.box.cell 0 _ rfl
  have hsb : sb < w.heap.size := hS.box.lt
  go_enter Tryd.func34, Tryd.ntmps34
  go_wp2_with fail
  clear s0 S1
  obtain ⟨W, hWW⟩ : ∃ W, w.alloc (.cells #[.int .i64 a0, .int .i64 a1, .int .i64 a2, .int .i64 a3] 37) = W := ⟨_, rfl⟩
  rw [hWW] at RA hb ⊢
  clear hWW
  go_loopw [4, 14] (fun sl iv wr => ∃ (k : Nat) (z : Int) (kept : List Hd) (lv : Value), lv = sl ∧ k ≤ l.length ∧ z = k ∧ iv = .int .i64 z ∧ (l.take k).filter (keepV a0 a1 a2 a3 l) = kept ∧ wr.ownsRow (w.heap.size + 1) 136 7 lv kept.length (hdsL kept) ∧ Row4 wr w.heap.size a0 a1 a2 a3 ∧ Below w.heap.size w wr) (fun _ i _ => l.length - (intOf i).toNat)
  case atStart => exact ⟨0, 0, [], _, rfl, by omega, rfl, rfl, rfl, World.ownsRow_nil _ _ _ _, RA, hb⟩
  case round =>
    clear RA hb
    obtain ⟨k, z, kept, lv, hsl, hk, hz, rfl, hkp, ownk, RA, hb⟩ := hrel
    subst hsl
    have HKP : Hid ((l.take k).filter (keepV a0 a1 a2 a3 l) = kept) := hkp
    have HZ : Hid (z = k) := hz
    clear hkp
    by_cases hlt : k < l.length
    · have h1 : z < (l.length : Int) := by omega
      have h2 : z.toNat = k := by omega
      have h3 : 0 ≤ z := by omega
      clear hz
      have S4 := hS.later hb
      have hH4 := hH.later hb
      obtain ⟨b, off, rfl, hcc⟩ : ∃ b off, a = some ⟨b, off, none⟩ ∧ ∀ i r u, i < l.length → (hdL (hdAt l i))[r]? = some u → wr.cell? ⟨b, off + (i * 7 + r), none⟩ = some u := by
        rcases hH4.held with h0 | h0
        · rw [h0] at hlt; simp at hlt
        · exact h0
      obtain ⟨⟨hk_, ⟨hw, hc, hs, hq, hd, hg⟩⟩, hx⟩ : ∃ x, hdAt l k = x := ⟨_, rfl⟩
      have x0 : wr.cell? ⟨b, off + k * 7, none⟩ = some (.int .i64 hk_) := hcc k 0 _ hlt (by rw [hx]; rfl)
      have x1 : wr.cell? ⟨b, off + k * 7 + 1, none⟩ = some (.int .i64 hw) := hcc k 1 _ hlt (by rw [hx]; rfl)
      have x2 : wr.cell? ⟨b, off + k * 7 + 2, none⟩ = some (.int .i64 hc) := hcc k 2 _ hlt (by rw [hx]; rfl)
      have x3 : wr.cell? ⟨b, off + k * 7 + 3, none⟩ = some (.int .i64 hs) := hcc k 3 _ hlt (by rw [hx]; rfl)
      have x4 : wr.cell? ⟨b, off + k * 7 + 4, none⟩ = some (.int .i64 hq) := hcc k 4 _ hlt (by rw [hx]; rfl)
      have x5 : wr.cell? ⟨b, off + k * 7 + 5, none⟩ = some (.string hd) := hcc k 5 _ hlt (by rw [hx]; rfl)
      have x6 : wr.cell? ⟨b, off + k * 7 + 6, none⟩ = some (.bool hg) := hcc k 6 _ hlt (by rw [hx]; rfl)
      have hsite := okVer_site (hS.ok (hdAt l k) (by simp only [hdAt, List.getD, List.getElem?_eq_getElem hlt, Option.getD_some]; exact List.getElem_mem hlt))
      rw [hx] at hsite
      simp only at hsite
      obtain ⟨t0, t1⟩ := hsite
      have t2 : hs < 4 := by omega
      have HX : Hid (hdAt l k = ⟨hk_, ⟨hw, hc, hs, hq, hd, hg⟩⟩) := hx
      clear hx hcc
      replace S4 := S4.later (boxed (Below.refl _ wr) (.cells #[.int .i64 hk_, .int .i64 hw, .int .i64 hc, .int .i64 hs, .int .i64 hq, .string hd, .bool hg] 136))
      replace hH4 := hH4.later (boxed (Below.refl _ wr) (.cells #[.int .i64 hk_, .int .i64 hw, .int .i64 hc, .int .i64 hs, .int .i64 hq, .string hd, .bool hg] 136))
      replace RA := RA.boxed (.cells #[.int .i64 hk_, .int .i64 hw, .int .i64 hc, .int .i64 hs, .int .i64 hq, .string hd, .bool hg] 136)
      replace ownk := ownk.alloc (.cells #[.int .i64 hk_, .int .i64 hw, .int .i64 hc, .int .i64 hs, .int .i64 hq, .string hd, .bool hg] 136)
      replace hb := boxed hb (.cells #[.int .i64 hk_, .int .i64 hw, .int .i64 hc, .int .i64 hs, .int .i64 hq, .string hd, .bool hg] 136)
      have RY := RowL.new (w := wr) (T := 136) [.int .i64 hk_, .int .i64 hw, .int .i64 hc, .int .i64 hs, .int .i64 hq, .string hd, .bool hg] rfl
      have c0 := RA.c0
      have c1 := RA.c1
      have c2 := RA.c2
      have c3 := RA.c3
      have y0 := RY.cell 0 _ rfl
      go_wp2_with fail
      clear x0 x1 x2 x3 x4 x5 x6
      refine (refLast_any hk_ a0 a1 a2 a3 _ (S4.box.cell 0 _ rfl) hH4 hS.ok (by omega)).mono ?_
      rintro e w2 ⟨rfl, hb2⟩
      clear c0 c1 c2 c3 y0 S4 hH4
      obtain ⟨best, hbest⟩ : ∃ best, lastV hk_ a0 a1 a2 a3 l = best := ⟨_, rfl⟩
      have KE : Hid (keepV a0 a1 a2 a3 l (hdAt l k) = (!(someB best) || eqV (best.getD ver0) ⟨hw, hc, hs, hq, hd, hg⟩ || !(hasV a0 a1 a2 a3 ⟨hw, hc, hs, hq, hd, hg⟩))) := by
        show keepV a0 a1 a2 a3 l (hdAt l k) = _
        rw [HX.out, ← hbest]
        rfl
      rw [hbest, bestL_eq]
      clear hbest
      obtain ⟨sbv, hsbv⟩ : ∃ s, someB best = s := ⟨_, rfl⟩
      obtain ⟨bv, hbv⟩ : ∃ v, best.getD ver0 = v := ⟨_, rfl⟩
      rw [hsbv, hbv] at KE ⊢
      clear hsbv hbv
      obtain ⟨bw, bc, bs, bq, bd, bg⟩ := bv
      rw [show verL ⟨bw, bc, bs, bq, bd, bg⟩ = [.int .i64 bw, .int .i64 bc, .int .i64 bs, .int .i64 bq, .string bd, .bool bg] from rfl]
      replace RA := (RA.later hb2).boxed (.cells #[.int .i64 bw, .int .i64 bc, .int .i64 bs, .int .i64 bq, .string bd, .bool bg] 71)
      replace RY := (RY.later hb2).boxed (.cells #[.int .i64 bw, .int .i64 bc, .int .i64 bs, .int .i64 bq, .string bd, .bool bg] 71)
      replace ownk := (own_below7 ownk hb2).alloc (.cells #[.int .i64 bw, .int .i64 bc, .int .i64 bs, .int .i64 bq, .string bd, .bool bg] 71)
      replace hb := boxed (behind hb hb2) (.cells #[.int .i64 bw, .int .i64 bc, .int .i64 bs, .int .i64 bq, .string bd, .bool bg] 71)
      have RB := RowL.new (w := w2) (T := 71) [.int .i64 bw, .int .i64 bc, .int .i64 bs, .int .i64 bq, .string bd, .bool bg] rfl
      clear hb2
      have hat := Later.cell (vec_at RA t0 t1)
      have w0 := Later.cell (RY.cell 0 _ rfl)
      have w1 := Later.cell (RY.cell 1 _ rfl)
      have w2' := Later.cell (RY.cell 2 _ rfl)
      have w3 := Later.cell (RY.cell 3 _ rfl)
      have w4 := Later.cell (RY.cell 4 _ rfl)
      have w5' := Later.cell (RY.cell 5 _ rfl)
      have w6 := Later.cell (RY.cell 6 _ rfl)
      have v0 := Later.cell (RB.cell 0 _ rfl)
      have v1 := Later.cell (RB.cell 1 _ rfl)
      have v2 := Later.cell (RB.cell 2 _ rfl)
      have v3 := Later.cell (RB.cell 3 _ rfl)
      have v4 := Later.cell (RB.cell 4 _ rfl)
      have v5 := Later.cell (RB.cell 5 _ rfl)
      cases sbv
      · go_wp2_with fail
        refine wp_region_later (by kernel_rfl) (by kernel_rfl) ?_
        repeat (go_big_quiet_step (fail))
        refine wpQuiet_nil ?_
        rintro w5 ⟨⟨_, hb5⟩, rfl⟩
        replace RA := RA.later hb5
        replace RY := RY.later hb5
        replace ownk := own_below7 ownk hb5
        replace hb := behind hb hb5
        clear hb5
        have KF : Hid ((l.take (k + 1)).filter (keepV a0 a1 a2 a3 l) = kept ++ [⟨hk_, ⟨hw, hc, hs, hq, hd, hg⟩⟩]) := by
          have e : keepV a0 a1 a2 a3 l (hdAt l k) = true := by rw [KE.out]; rfl
          show (l.take (k + 1)).filter (keepV a0 a1 a2 a3 l) = _
          rw [take_hd hlt, List.filter_append, HKP.out, ← HX.out]
          simp [e]
        have y0 := RY.cell 0 _ rfl
        have y1 := RY.cell 1 _ rfl
        have y2 := RY.cell 2 _ rfl
        have y3 := RY.cell 3 _ rfl
        have y4 := RY.cell 4 _ rfl
        have y5 := RY.cell 5 _ rfl
        have y6 := RY.cell 6 _ rfl
        obtain ⟨i0, hi, hz0, hz1, hz2⟩ := info_parts heldInfo
        have hk6 := kept_length HKP.out
        have hsz5 : w.heap.size + 1 ≤ w5.heap.size := by have := RA.lt; omega
        go_wp2_with (at_builtin; refine wpList_append_lies _ rfl (.tmp 45) (.tmp 47) 67 rfl (w.heap.size + 1) 136 i0 (.agg #[.int .i64 0, .int .i64 0, .int .i64 0, .int .i64 0, .int .i64 0, .string ⟨#[]⟩, .bool false]) 7 64 Tryd.underlying67 hi hz0 hz1 hz2 rfl (by decide) lv kept.length (hdsL kept) rfl (ownk.alloc _) ⟨w5.heap.size, 0, none⟩ 1 1 (hdL ⟨hk_, ⟨hw, hc, hs, hq, hd, hg⟩⟩) rfl rfl (World.news_of_block (heap_alloc_new w5 (.cells #[.int .i64 hk_, .int .i64 hw, .int .i64 hc, .int .i64 hs, .int .i64 hq, .string hd, .bool hg] 136))) (by intro u hu; simp [hdL] at hu; rcases hu with rfl | rfl | rfl | rfl | rfl | rfl | rfl <;> rfl) (by decide) (by simp only [maxLen]; omega) (by omega) (by simp; omega) _ rfl ?_; intro g cap9 wE ownE grE egE ltE)
        have rowsg : ∀ j, lv.ownBlock = some j → w.heap.size + 1 ≤ j := fun j hj => (ownk.lt j hj).1
        have RAE := (RA.boxed (.cells #[.int .i64 hk_, .int .i64 hw, .int .i64 hc, .int .i64 hs, .int .i64 hq, .string hd, .bool hg] 136)).grown4 grE (fun e => by have := rowsg _ e.symm; omega)
        have hbE := (boxed hb (.cells #[.int .i64 hk_, .int .i64 hw, .int .i64 hc, .int .i64 hs, .int .i64 hq, .string hd, .bool hg] 136)).grown grE (by have := hb.size; simp; omega) (fun j hj => by have := rowsg j hj; omega)
        go_roundw
        case rel => exact ⟨k + 1, z + 1, kept ++ [⟨hk_, ⟨hw, hc, hs, hq, hd, hg⟩⟩], _, rfl, by omega, by have := HZ.out; omega, by go_num, KF.out, by rw [hdsL_snoc, List.length_append]; exact ownE, RAE, hbE⟩
        case measure => simp [intOf]; omega
      · cases ev : eqV ⟨bw, bc, bs, bq, bd, bg⟩ ⟨hw, hc, hs, hq, hd, hg⟩
        · have eqv2 := fun w => (eqVerB ⟨bw, bc, bs, bq, bd, bg⟩ ⟨hw, hc, hs, hq, hd, hg⟩ w).trans (by rw [ev])
          cases hh : hasV a0 a1 a2 a3 ⟨hw, hc, hs, hq, hd, hg⟩
          · have dh : decide (depOf hs a0 a1 a2 a3 < hq) = true := decide_eq_true (by have := of_decide_eq_false (show decide (hq ≤ depOf hs a0 a1 a2 a3) = false from hh); omega)
            go_wp2_with fail
            refine wp_region_later (by kernel_rfl) (by kernel_rfl) ?_
            repeat (go_big_quiet_step (fail))
            refine wpQuiet_nil ?_
            rintro w5 ⟨⟨_, hb5⟩, rfl⟩
            replace RA := RA.later hb5
            replace RY := RY.later hb5
            replace ownk := own_below7 ownk hb5
            replace hb := behind hb hb5
            clear hb5
            have KF : Hid ((l.take (k + 1)).filter (keepV a0 a1 a2 a3 l) = kept ++ [⟨hk_, ⟨hw, hc, hs, hq, hd, hg⟩⟩]) := by
              have e : keepV a0 a1 a2 a3 l (hdAt l k) = true := by rw [KE.out]; rw [ev, hh]; rfl
              show (l.take (k + 1)).filter (keepV a0 a1 a2 a3 l) = _
              rw [take_hd hlt, List.filter_append, HKP.out, ← HX.out]
              simp [e]
            have y0 := RY.cell 0 _ rfl
            have y1 := RY.cell 1 _ rfl
            have y2 := RY.cell 2 _ rfl
            have y3 := RY.cell 3 _ rfl
            have y4 := RY.cell 4 _ rfl
            have y5 := RY.cell 5 _ rfl
            have y6 := RY.cell 6 _ rfl
            obtain ⟨i0, hi, hz0, hz1, hz2⟩ := info_parts heldInfo
            have hk6 := kept_length HKP.out
            have hsz5 : w.heap.size + 1 ≤ w5.heap.size := by have := RA.lt; omega
            go_wp2_with (at_builtin; refine wpList_append_lies _ rfl (.tmp 45) (.tmp 47) 67 rfl (w.heap.size + 1) 136 i0 (.agg #[.int .i64 0, .int .i64 0, .int .i64 0, .int .i64 0, .int .i64 0, .string ⟨#[]⟩, .bool false]) 7 64 Tryd.underlying67 hi hz0 hz1 hz2 rfl (by decide) lv kept.length (hdsL kept) rfl (ownk.alloc _) ⟨w5.heap.size, 0, none⟩ 1 1 (hdL ⟨hk_, ⟨hw, hc, hs, hq, hd, hg⟩⟩) rfl rfl (World.news_of_block (heap_alloc_new w5 (.cells #[.int .i64 hk_, .int .i64 hw, .int .i64 hc, .int .i64 hs, .int .i64 hq, .string hd, .bool hg] 136))) (by intro u hu; simp [hdL] at hu; rcases hu with rfl | rfl | rfl | rfl | rfl | rfl | rfl <;> rfl) (by decide) (by simp only [maxLen]; omega) (by omega) (by simp; omega) _ rfl ?_; intro g cap9 wE ownE grE egE ltE)
            have rowsg : ∀ j, lv.ownBlock = some j → w.heap.size + 1 ≤ j := fun j hj => (ownk.lt j hj).1
            have RAE := (RA.boxed (.cells #[.int .i64 hk_, .int .i64 hw, .int .i64 hc, .int .i64 hs, .int .i64 hq, .string hd, .bool hg] 136)).grown4 grE (fun e => by have := rowsg _ e.symm; omega)
            have hbE := (boxed hb (.cells #[.int .i64 hk_, .int .i64 hw, .int .i64 hc, .int .i64 hs, .int .i64 hq, .string hd, .bool hg] 136)).grown grE (by have := hb.size; simp; omega) (fun j hj => by have := rowsg j hj; omega)
            go_roundw
            case rel => exact ⟨k + 1, z + 1, kept ++ [⟨hk_, ⟨hw, hc, hs, hq, hd, hg⟩⟩], _, rfl, by omega, by have := HZ.out; omega, by go_num, KF.out, by rw [hdsL_snoc, List.length_append]; exact ownE, RAE, hbE⟩
            case measure => simp [intOf]; omega
          · have dh : decide (depOf hs a0 a1 a2 a3 < hq) = false := decide_eq_false (by have := of_decide_eq_true (show decide (hq ≤ depOf hs a0 a1 a2 a3) = true from hh); omega)
            go_wp2_with fail
            refine wp_region_later (by kernel_rfl) (by kernel_rfl) ?_
            repeat (go_big_quiet_step (fail))
            refine wpQuiet_nil ?_
            rintro w5 ⟨⟨_, hb5⟩, rfl⟩
            replace RA := RA.later hb5
            replace RY := RY.later hb5
            replace ownk := own_below7 ownk hb5
            replace hb := behind hb hb5
            clear hb5
            have KF : Hid ((l.take (k + 1)).filter (keepV a0 a1 a2 a3 l) = kept) := by
              have e : keepV a0 a1 a2 a3 l (hdAt l k) = false := by rw [KE.out]; rw [ev, hh]; rfl
              show (l.take (k + 1)).filter (keepV a0 a1 a2 a3 l) = kept
              rw [take_hd hlt, List.filter_append, HKP.out]
              simp [e]
            go_wp2_with fail
            go_roundw
            case rel => exact ⟨k + 1, z + 1, kept, _, rfl, by omega, by have := HZ.out; omega, by go_num, KF.out, ownk, RA, hb⟩
            case measure => simp [intOf]; omega
        · have eqv2 := fun w => (eqVerB ⟨bw, bc, bs, bq, bd, bg⟩ ⟨hw, hc, hs, hq, hd, hg⟩ w).trans (by rw [ev])
          go_wp2_with fail
          refine wp_region_later (by kernel_rfl) (by kernel_rfl) ?_
          repeat (go_big_quiet_step (fail))
          refine wpQuiet_nil ?_
          rintro w5 ⟨⟨_, hb5⟩, rfl⟩
          replace RA := RA.later hb5
          replace RY := RY.later hb5
          replace ownk := own_below7 ownk hb5
          replace hb := behind hb hb5
          clear hb5
          have KF : Hid ((l.take (k + 1)).filter (keepV a0 a1 a2 a3 l) = kept ++ [⟨hk_, ⟨hw, hc, hs, hq, hd, hg⟩⟩]) := by
            have e : keepV a0 a1 a2 a3 l (hdAt l k) = true := by rw [KE.out]; rw [ev]; rfl
            show (l.take (k + 1)).filter (keepV a0 a1 a2 a3 l) = _
            rw [take_hd hlt, List.filter_append, HKP.out, ← HX.out]
            simp [e]
          have y0 := RY.cell 0 _ rfl
          have y1 := RY.cell 1 _ rfl
          have y2 := RY.cell 2 _ rfl
          have y3 := RY.cell 3 _ rfl
          have y4 := RY.cell 4 _ rfl
          have y5 := RY.cell 5 _ rfl
          have y6 := RY.cell 6 _ rfl
          obtain ⟨i0, hi, hz0, hz1, hz2⟩ := info_parts heldInfo
          have hk6 := kept_length HKP.out
          have hsz5 : w.heap.size + 1 ≤ w5.heap.size := by have := RA.lt; omega
          go_wp2_with (at_builtin; refine wpList_append_lies _ rfl (.tmp 45) (.tmp 47) 67 rfl (w.heap.size + 1) 136 i0 (.agg #[.int .i64 0, .int .i64 0, .int .i64 0, .int .i64 0, .int .i64 0, .string ⟨#[]⟩, .bool false]) 7 64 Tryd.underlying67 hi hz0 hz1 hz2 rfl (by decide) lv kept.length (hdsL kept) rfl (ownk.alloc _) ⟨w5.heap.size, 0, none⟩ 1 1 (hdL ⟨hk_, ⟨hw, hc, hs, hq, hd, hg⟩⟩) rfl rfl (World.news_of_block (heap_alloc_new w5 (.cells #[.int .i64 hk_, .int .i64 hw, .int .i64 hc, .int .i64 hs, .int .i64 hq, .string hd, .bool hg] 136))) (by intro u hu; simp [hdL] at hu; rcases hu with rfl | rfl | rfl | rfl | rfl | rfl | rfl <;> rfl) (by decide) (by simp only [maxLen]; omega) (by omega) (by simp; omega) _ rfl ?_; intro g cap9 wE ownE grE egE ltE)
          have rowsg : ∀ j, lv.ownBlock = some j → w.heap.size + 1 ≤ j := fun j hj => (ownk.lt j hj).1
          have RAE := (RA.boxed (.cells #[.int .i64 hk_, .int .i64 hw, .int .i64 hc, .int .i64 hs, .int .i64 hq, .string hd, .bool hg] 136)).grown4 grE (fun e => by have := rowsg _ e.symm; omega)
          have hbE := (boxed hb (.cells #[.int .i64 hk_, .int .i64 hw, .int .i64 hc, .int .i64 hs, .int .i64 hq, .string hd, .bool hg] 136)).grown grE (by have := hb.size; simp; omega) (fun j hj => by have := rowsg j hj; omega)
          go_roundw
          case rel => exact ⟨k + 1, z + 1, kept ++ [⟨hk_, ⟨hw, hc, hs, hq, hd, hg⟩⟩], _, rfl, by omega, by have := HZ.out; omega, by go_num, KF.out, by rw [hdsL_snoc, List.length_append]; exact ownE, RAE, hbE⟩
          case measure => simp [intOf]; omega
    · have h4 : ¬ z < (l.length : Int) := by omega
      have e : k = l.length := by omega
      have KP : Hid (sweepL a0 a1 a2 a3 l = kept) := by
        show sweepL a0 a1 a2 a3 l = kept
        have := HKP.out
        rw [e, List.take_length] at this
        exact this
      clear hz e
      have S4 := hS.later hb
      have s0 : wr.cell? ⟨sb, 0, none⟩ = some (.slice a l.length cap) := S4.box.cell 0 _ rfl
      have s1 : wr.frozen? ⟨sb, 0, none⟩ = false := S4.box.free 0 (by simp)
      have rowsg : ∀ j, lv.ownBlock = some j → w.heap.size + 1 ≤ j := fun j hj => (ownk.lt j hj).1
      obtain ⟨a9, cap9, rfl, _⟩ := hdIn_own ownk
      have BZ := S4.box.set 0 (.slice a9 kept.length cap9) (by simp)
      have nsb : (Value.slice a9 kept.length cap9).ownBlock ≠ some sb := fun e => by have := rowsg sb e; omega
      have ownZ := Joins.ownsRow_le (ownk.kept (row := some sb) (onlyCell sb 0 wr (.slice a9 kept.length cap9)) (.inr nsb)) (Nat.zero_le _)
      have TZ : Touch (footR sb (.slice a l.length cap)) w (wr.setCell ⟨sb, 0, none⟩ (.slice a9 kept.length cap9)) := (Touch.ofBelow hb).trans (Touch.setCell wr ⟨sb, 0, none⟩ _ (.inl rfl))
      have FIN : Hid (PutPost w sb (.slice a l.length cap) kept (wr.setCell ⟨sb, 0, none⟩ (.slice a9 kept.length cap9))) :=
        ⟨_, ⟨BZ, ownZ, nsb, fun x hx => by
          rw [← KP.out] at hx
          exact hS.ok x (List.mem_filter.1 hx).1⟩, fun j hj => .inr (by have := rowsg j hj; omega), TZ⟩
      clear BZ ownZ TZ
      go_wp2_with fail
      go_end0
      exact ⟨rfl, by rw [KP.out]; exact FIN.out⟩

end Go.Proofs.YtknejedgddlabaaDoor

namespace Go.Proofs.YtknejedgddlabaaDoor
open Go.RowKit

theorem stepV_cases (key a0 a1 a2 a3 : Int) (best : Option Ver) (h : Hd) : stepV key a0 a1 a2 a3 best h = best ∨ (stepV key a0 a1 a2 a3 best h = some h.v ∧ h.key = key ∧ hasV a0 a1 a2 a3 h.v = true) := by
  by_cases hc : h.key = key ∧ hasV a0 a1 a2 a3 h.v = true ∧ (match best with | none => true | some b => beforeV b h.v) = true
  · exact .inr ⟨stepV_some hc, hc.1, hc.2.1⟩
  · exact .inl (stepV_none hc)
theorem foldl_step (key a0 a1 a2 a3 : Int) (v : Ver) : ∀ (l : List Hd) (best : Option Ver), l.foldl (stepV key a0 a1 a2 a3) best = some v → best = some v ∨ ∃ h ∈ l, h.v = v ∧ h.key = key ∧ hasV a0 a1 a2 a3 v = true
  | [], best, h => .inl h
  | x :: l, best, h => by
    rcases foldl_step key a0 a1 a2 a3 v l _ h with e | ⟨y, hy, e⟩
    · rcases stepV_cases key a0 a1 a2 a3 best x with hc | ⟨hc, h1, h2⟩
      · rw [hc] at e
        exact .inl e
      · rw [hc] at e
        injection e with e
        subst e
        exact .inr ⟨x, by simp, rfl, h1, h2⟩
    · exact .inr ⟨y, by simp [hy], e⟩
/-- the last one is one of those that are held -/
theorem lastV_mem {key a0 a1 a2 a3 : Int} {l : List Hd} {v : Ver} (h : lastV key a0 a1 a2 a3 l = some v) : ∃ x ∈ l, x.v = v ∧ x.key = key ∧ hasV a0 a1 a2 a3 v = true := by
  rcases foldl_step key a0 a1 a2 a3 v l none h with e | e
  · cases e
  · exact e
theorem okVer_size {v : Ver} (h : okVer v = true) : v.data.size ≤ 12 := by
  simp only [okVer, Bool.and_eq_true, decide_eq_true_eq] at h
  have := h.1.2
  omega
theorem readV_size {key a0 a1 a2 a3 : Int} {l : List Hd} (hok : ∀ h ∈ l, okVer h.v = true) : (readV key a0 a1 a2 a3 l).1.data.size ≤ 12 := by
  have z : ver0.data.size ≤ 12 := by decide
  unfold readV
  split
  · cases e : lastV key a0 a1 a2 a3 l with
    | none => exact z
    | some v =>
      obtain ⟨x, hx, e2, _⟩ := lastV_mem e
      show (if v.gone = true then (ver0, (8 : Int)) else (v, 0)).1.data.size ≤ 12
      split
      · exact z
      · rw [← e2]; exact okVer_size (hok x hx)
  · exact z

/-- what is told of a key -/
def toldV (a0 a1 a2 a3 : Int) (l : List Hd) (key : Int) : ByteArray := if (readV key a0 a1 a2 a3 l).2 = 0 then (⟨#[61]⟩ : ByteArray) ++ (readV key a0 a1 a2 a3 l).1.data else ⟨#[]⟩
/-- .. of the first k keys, as cells -/
def toldC (a0 a1 a2 a3 : Int) (l : List Hd) (k : Nat) : List Value := (List.range k).map fun (i : Nat) => Value.string (toldV a0 a1 a2 a3 l i)
theorem toldC_succ (a0 a1 a2 a3 : Int) (l : List Hd) (k : Nat) : toldC a0 a1 a2 a3 l (k + 1) = toldC a0 a1 a2 a3 l k ++ [.string (toldV a0 a1 a2 a3 l k)] := by
  unfold toldC
  rw [List.range_succ, List.map_append]
  rfl

theorem strInfo : (Tryd.prog.info? 9).map (fun i => (i.zero, i.size, i.bytes)) = some (some (.string ⟨#[]⟩), 1, 16) := by kernel_rfl

set_option maxHeartbeats 8000000 in
theorem refTold_any {sb : Nat} {sv : Value} {l : List Hd} (a0 a1 a2 a3 : Int) (w : World) (hS : RefSt w sb sv l) (hl : l.length ≤ 1000) :
    Calls Tryd.prog 40 #[.pointer (some ⟨sb, 0, none⟩), .agg #[.int .i64 a0, .int .i64 a1, .int .i64 a2, .int .i64 a3]] w fun e w' => ∃ v, e = .returned v ∧ w'.ownsRow (w.heap.size + 1) 9 1 v 8 (toldC a0 a1 a2 a3 l 8) ∧ Below w.heap.size w w' := by
  obtain ⟨a, cap, rfl, hH⟩ := hdIn_own hS.own
  have RA := Row4.new w 37 a0 a1 a2 a3
  have hb := boxed (Below.refl _ w) (.cells #[.int .i64 a0, .int .i64 a1, .int .i64 a2, .int .i64 a3] 37)
  go_enter Tryd.func40, Tryd.ntmps40
  go_wp2_with fail
  obtain ⟨W, hWW⟩ : ∃ W, w.alloc (.cells #[.int .i64 a0, .int .i64 a1, .int .i64 a2, .int .i64 a3] 37) = W := ⟨_, rfl⟩
  rw [hWW] at RA hb ⊢
  clear hWW
  go_loopw [5, 9] (fun sl iv wr => ∃ (k : Nat) (z : Int) (lv : Value), lv = sl ∧ k ≤ 8 ∧ z = k ∧ iv = .int .i64 z ∧ wr.ownsRow (w.heap.size + 1) 9 1 lv k (toldC a0 a1 a2 a3 l k) ∧ Row4 wr w.heap.size a0 a1 a2 a3 ∧ Below w.heap.size w wr) (fun _ i _ => 8 - (intOf i).toNat)
  case atStart => exact ⟨0, 0, _, rfl, by omega, rfl, rfl, World.ownsRow_nil _ _ _ _, RA, hb⟩
  case round =>
    clear RA hb
    obtain ⟨k, z, lv, hsl, hk, hz, rfl, ownk, RA, hb⟩ := hrel
    subst hsl
    have HZ : Hid (z = k) := hz
    by_cases hlt : k < 8
    · have h1 : z < 8 := by omega
      have h3 : 0 ≤ z := by omega
      have S4 := hS.later hb
      have hH4 := hH.later hb
      have c0 := RA.c0
      have c1 := RA.c1
      have c2 := RA.c2
      have c3 := RA.c3
      clear hz
      go_wp2_with fail
      refine (refRead_any z a0 a1 a2 a3 _ (S4.box.cell 0 _ rfl) hH4 hS.ok (by omega)).mono ?_
      rintro e w2 ⟨rfl, hb2⟩
      clear c0 c1 c2 c3 S4 hH4
      have hsize := readV_size (key := z) (a0 := a0) (a1 := a1) (a2 := a2) (a3 := a3) hS.ok
      have TK0 : Hid (toldV a0 a1 a2 a3 l k = if (readV z a0 a1 a2 a3 l).2 = 0 then (⟨#[61]⟩ : ByteArray) ++ (readV z a0 a1 a2 a3 l).1.data else ⟨#[]⟩) := by
        show toldV a0 a1 a2 a3 l k = _
        rw [HZ.out]
        rfl
      obtain ⟨⟨rv, re⟩, hrd⟩ : ∃ x, readV z a0 a1 a2 a3 l = x := ⟨_, rfl⟩
      rw [hrd] at TK0 hsize ⊢
      simp only at TK0 hsize ⊢
      clear hrd
      obtain ⟨bw, bc, bs, bq, bd, bg⟩ := rv
      simp only at TK0 hsize
      rw [show verL ⟨bw, bc, bs, bq, bd, bg⟩ = [.int .i64 bw, .int .i64 bc, .int .i64 bs, .int .i64 bq, .string bd, .bool bg] from rfl]
      replace RA := (RA.later hb2).boxed (.cells #[.int .i64 bw, .int .i64 bc, .int .i64 bs, .int .i64 bq, .string bd, .bool bg] 71)
      have ownk1 : w2.ownsRow (w.heap.size + 1) 9 1 lv k (toldC a0 a1 a2 a3 l k) := ownk.kept (row := none) ⟨hb2.os, hb2.tape, hb2.output, hb2.size, fun j hj _ => hb2.block j hj⟩ (by cases lv.ownBlock <;> simp)
      replace ownk := ownk1.alloc (.cells #[.int .i64 bw, .int .i64 bc, .int .i64 bs, .int .i64 bq, .string bd, .bool bg] 71)
      replace hb := boxed (behind hb hb2) (.cells #[.int .i64 bw, .int .i64 bc, .int .i64 bs, .int .i64 bq, .string bd, .bool bg] 71)
      have RB := RowL.new (w := w2) (T := 71) [.int .i64 bw, .int .i64 bc, .int .i64 bs, .int .i64 bq, .string bd, .bool bg] rfl
      clear hb2 ownk1
      have d3 := RB.cell 4 _ rfl
      obtain ⟨i0, hi, hz0, hz1, hz2⟩ := info_parts strInfo
      have hsz : w.heap.size + 1 ≤ w2.heap.size + 1 := by have h := RA.lt; rw [World.size_alloc] at h; omega
      by_cases he0 : re = 0
      · have ee : (re == 0) = true := by simp [he0]
        have TK : Hid (toldV a0 a1 a2 a3 l k = (⟨#[61]⟩ : ByteArray) ++ bd) := by show toldV a0 a1 a2 a3 l k = _; rw [TK0.out, if_pos he0]
        have ad := fun w => addS (P := Tryd.prog) (⟨#[61]⟩ : ByteArray) bd (by have z : (⟨#[61]⟩ : ByteArray).size = 1 := rfl; omega) w
        clear he0 TK0
        have nw : ((w2.alloc (.cells #[.int .i64 bw, .int .i64 bc, .int .i64 bs, .int .i64 bq, .string bd, .bool bg] 71)).alloc (.cells #[.string ((⟨#[61]⟩ : ByteArray) ++ bd)] 9)).heap[w2.heap.size + 1]? = some (.cells #[.string ((⟨#[61]⟩ : ByteArray) ++ bd)] 9) := by have h := heap_alloc_new (w2.alloc (.cells #[.int .i64 bw, .int .i64 bc, .int .i64 bs, .int .i64 bq, .string bd, .bool bg] 71)) (.cells #[.string ((⟨#[61]⟩ : ByteArray) ++ bd)] 9); rw [World.size_alloc] at h; exact h
        go_wp2_with (at_builtin; refine wpList_append_lies _ rfl (.tmp 21) (.tmp 25) 83 rfl (w.heap.size + 1) 9 i0 (.string ⟨#[]⟩) 1 16 Tryd.underlying83 hi hz0 hz1 hz2 rfl (by decide) lv k (toldC a0 a1 a2 a3 l k) rfl (ownk.alloc _) ⟨w2.heap.size + 1, 0, none⟩ 1 1 [.string ((⟨#[61]⟩ : ByteArray) ++ bd)] rfl rfl (World.news_of_block nw) (by intro u hu; simp at hu; rw [hu]; rfl) (by decide) (by simp only [maxLen]; omega) (by omega) (by simp; omega) _ rfl ?_; intro g cap9 wE ownE grE egE ltE)
        have rowsg : ∀ j, lv.ownBlock = some j → w.heap.size + 1 ≤ j := fun j hj => (ownk.lt j hj).1
        have RAE := (RA.boxed (.cells #[.string ((⟨#[61]⟩ : ByteArray) ++ bd)] 9)).grown4 grE (fun e => by have := rowsg _ e.symm; omega)
        have hbE := (boxed hb (.cells #[.string ((⟨#[61]⟩ : ByteArray) ++ bd)] 9)).grown grE (by have := hb.size; simp; omega) (fun j hj => by have := rowsg j hj; omega)
        go_roundw
        case rel => exact ⟨k + 1, z + 1, _, rfl, by omega, by have := HZ.out; omega, by go_num, by rw [toldC_succ, TK.out]; exact ownE, RAE, hbE⟩
        case measure => simp [intOf]; omega
      · have ee : (re == 0) = false := beq_eq_false_iff_ne.2 he0
        have TK : Hid (toldV a0 a1 a2 a3 l k = ⟨#[]⟩) := by show toldV a0 a1 a2 a3 l k = _; rw [TK0.out, if_neg he0]
        clear he0 TK0
        have nw : ((w2.alloc (.cells #[.int .i64 bw, .int .i64 bc, .int .i64 bs, .int .i64 bq, .string bd, .bool bg] 71)).alloc (.cells #[.string ⟨#[]⟩] 9)).heap[w2.heap.size + 1]? = some (.cells #[.string ⟨#[]⟩] 9) := by have h := heap_alloc_new (w2.alloc (.cells #[.int .i64 bw, .int .i64 bc, .int .i64 bs, .int .i64 bq, .string bd, .bool bg] 71)) (.cells #[.string ⟨#[]⟩] 9); rw [World.size_alloc] at h; exact h
        go_wp2_with (at_builtin; refine wpList_append_lies _ rfl (.tmp 27) (.tmp 28) 83 rfl (w.heap.size + 1) 9 i0 (.string ⟨#[]⟩) 1 16 Tryd.underlying83 hi hz0 hz1 hz2 rfl (by decide) lv k (toldC a0 a1 a2 a3 l k) rfl (ownk.alloc _) ⟨w2.heap.size + 1, 0, none⟩ 1 1 [.string ⟨#[]⟩] rfl rfl (World.news_of_block nw) (by intro u hu; simp at hu; rw [hu]; rfl) (by decide) (by simp only [maxLen]; omega) (by omega) (by simp; omega) _ rfl ?_; intro g cap9 wE ownE grE egE ltE)
        have rowsg : ∀ j, lv.ownBlock = some j → w.heap.size + 1 ≤ j := fun j hj => (ownk.lt j hj).1
        have RAE := (RA.boxed (.cells #[.string ⟨#[]⟩] 9)).grown4 grE (fun e => by have := rowsg _ e.symm; omega)
        have hbE := (boxed hb (.cells #[.string ⟨#[]⟩] 9)).grown grE (by have := hb.size; simp; omega) (fun j hj => by have := rowsg j hj; omega)
        go_roundw
        case rel => exact ⟨k + 1, z + 1, _, rfl, by omega, by have := HZ.out; omega, by go_num, by rw [toldC_succ, TK.out]; exact ownE, RAE, hbE⟩
        case measure => simp [intOf]; omega
    · obtain rfl : k = 8 := by omega
      go_wp2_with fail
      go_ret
      exact ⟨lv, rfl, ownk, hb⟩

end Go.Proofs.YtknejedgddlabaaDoor

namespace Go.Proofs.YtknejedgddlabaaDoor
open Go.RowKit

theorem beforeV_iff {a b : Ver} : beforeV a b = true ↔ a.wall < b.wall ∨ (a.wall = b.wall ∧ (a.count < b.count ∨ (a.count = b.count ∧ a.site < b.site))) := by
  unfold beforeV
  rcases cmpS_cases a.wall a.count b.wall b.count with ⟨h, e⟩ | ⟨h, e⟩ | ⟨h, e⟩
  · rw [e, if_neg (by decide)]
    simp only [show decide ((-1 : Int) < 0) = true from rfl, true_iff]
    omega
  · rw [e, if_pos rfl]
    simp only [decide_eq_true_eq]
    omega
  · rw [e, if_neg (by decide)]
    simp only [show decide ((1 : Int) < 0) = false from rfl, Bool.false_eq_true, false_iff]
    omega

/-- of one stamp and site -/
def Twin (a b : Ver) : Prop := a.wall = b.wall ∧ a.count = b.count ∧ a.site = b.site
theorem beforeV_twin {a b : Ver} (h1 : beforeV a b = false) (h2 : beforeV b a = false) : Twin a b := by
  have n1 : ¬ beforeV a b = true := by rw [h1]; decide
  have n2 : ¬ beforeV b a = true := by rw [h2]; decide
  rw [beforeV_iff] at n1 n2
  unfold Twin
  omega
theorem beforeV_irrefl (a : Ver) : beforeV a a = false := by
  cases h : beforeV a a
  · rfl
  · rw [beforeV_iff] at h
    omega
/-- what is not earlier than an earlier one's later is not earlier -/
theorem beforeV_trans {a b c : Ver} (h1 : beforeV b a = true) (h2 : beforeV b c = false) : beforeV a c = false := by
  cases h : beforeV a c
  · rfl
  · exfalso
    have n2 : ¬ beforeV b c = true := by rw [h2]; decide
    rw [beforeV_iff] at h h1 n2
    omega

/-- v is the last one of the key among those that the vector has: one of them, none of them behind it -/
def IsLast (key a0 a1 a2 a3 : Int) (l : List Hd) (v : Ver) : Prop := (∃ h ∈ l, h.v = v ∧ h.key = key ∧ hasV a0 a1 a2 a3 v = true) ∧ ∀ h ∈ l, h.key = key → hasV a0 a1 a2 a3 h.v = true → beforeV v h.v = false

theorem foldl_last (key a0 a1 a2 a3 : Int) : ∀ (l p : List Hd) (best : Option Ver),
    (best = none → ∀ h ∈ p, h.key = key → hasV a0 a1 a2 a3 h.v = false) → (∀ v, best = some v → IsLast key a0 a1 a2 a3 p v) →
    (l.foldl (stepV key a0 a1 a2 a3) best = none → ∀ h ∈ p ++ l, h.key = key → hasV a0 a1 a2 a3 h.v = false) ∧ (∀ v, l.foldl (stepV key a0 a1 a2 a3) best = some v → IsLast key a0 a1 a2 a3 (p ++ l) v)
  | [], p, best, hn, hs => by simpa using ⟨hn, hs⟩
  | x :: l, p, best, hn, hs => by
    have key' : (stepV key a0 a1 a2 a3 best x = none → ∀ h ∈ p ++ [x], h.key = key → hasV a0 a1 a2 a3 h.v = false) ∧ (∀ v, stepV key a0 a1 a2 a3 best x = some v → IsLast key a0 a1 a2 a3 (p ++ [x]) v) := by
      cases best with
      | none =>
        by_cases hc : x.key = key ∧ hasV a0 a1 a2 a3 x.v = true
        · have e : stepV key a0 a1 a2 a3 none x = some x.v := stepV_some ⟨hc.1, hc.2, rfl⟩
          rw [e]
          refine ⟨fun h => (by cases h), fun v hv => ?_⟩
          injection hv with hv
          subst hv
          refine ⟨⟨x, by simp, rfl, hc.1, hc.2⟩, fun h hh hk hhas => ?_⟩
          rcases List.mem_append.1 hh with h1 | h1
          · have := hn rfl h h1 hk
            rw [hhas] at this
            cases this
          · obtain rfl := List.mem_singleton.1 h1
            exact beforeV_irrefl _
        · have e : stepV key a0 a1 a2 a3 none x = none := stepV_none (fun y => hc ⟨y.1, y.2.1⟩)
          rw [e]
          refine ⟨fun _ h hh hk => ?_, fun v hv => (by cases hv)⟩
          rcases List.mem_append.1 hh with h1 | h1
          · exact hn rfl h h1 hk
          · obtain rfl := List.mem_singleton.1 h1
            cases hq : hasV a0 a1 a2 a3 h.v
            · rfl
            · exact absurd ⟨hk, hq⟩ hc
      | some b =>
        obtain ⟨⟨y, hy, ey, ky, hhy⟩, hall⟩ := hs b rfl
        by_cases hc : x.key = key ∧ hasV a0 a1 a2 a3 x.v = true ∧ beforeV b x.v = true
        · have e : stepV key a0 a1 a2 a3 (some b) x = some x.v := stepV_some hc
          rw [e]
          refine ⟨fun h => (by cases h), fun v hv => ?_⟩
          injection hv with hv
          subst hv
          refine ⟨⟨x, by simp, rfl, hc.1, hc.2.1⟩, fun h hh hk hhas => ?_⟩
          rcases List.mem_append.1 hh with h1 | h1
          · exact beforeV_trans hc.2.2 (hall h h1 hk hhas)
          · obtain rfl := List.mem_singleton.1 h1
            exact beforeV_irrefl _
        · have e : stepV key a0 a1 a2 a3 (some b) x = some b := stepV_none hc
          rw [e]
          refine ⟨fun h => (by cases h), fun v hv => ?_⟩
          injection hv with hv
          subst hv
          refine ⟨⟨y, by simp [hy], ey, ky, hhy⟩, fun h hh hk hhas => ?_⟩
          rcases List.mem_append.1 hh with h1 | h1
          · exact hall h h1 hk hhas
          · obtain rfl := List.mem_singleton.1 h1
            cases hq : beforeV b h.v
            · rfl
            · exact absurd ⟨hk, hhas, hq⟩ hc
    have ih := foldl_last key a0 a1 a2 a3 l (p ++ [x]) (stepV key a0 a1 a2 a3 best x) key'.1 key'.2
    rw [List.append_assoc, List.singleton_append] at ih
    exact ih

theorem lastV_none {key a0 a1 a2 a3 : Int} {l : List Hd} (h : lastV key a0 a1 a2 a3 l = none) : ∀ x ∈ l, x.key = key → hasV a0 a1 a2 a3 x.v = false := by
  have := (foldl_last key a0 a1 a2 a3 l [] none (fun _ h hh => (by cases hh)) (fun v hv => (by cases hv))).1 h
  simpa using this
theorem lastV_some {key a0 a1 a2 a3 : Int} {l : List Hd} {v : Ver} (h : lastV key a0 a1 a2 a3 l = some v) : IsLast key a0 a1 a2 a3 l v := by
  have := (foldl_last key a0 a1 a2 a3 l [] none (fun _ h hh => (by cases hh)) (fun v hv => (by cases hv))).2 v h
  simpa using this

/-- no key has two of one stamp and site -/
def Apart (l : List Hd) : Prop := ∀ x ∈ l, ∀ y ∈ l, x.key = y.key → Twin x.v y.v → x = y
theorem isLast_one {key a0 a1 a2 a3 : Int} {l : List Hd} {u v : Ver} (hl : Apart l) (hu : IsLast key a0 a1 a2 a3 l u) (hv : IsLast key a0 a1 a2 a3 l v) : u = v := by
  obtain ⟨⟨x, hx, ex, kx, hhx⟩, hax⟩ := hu
  obtain ⟨⟨y, hy, ey, ky, hhy⟩, hay⟩ := hv
  subst ex ey
  have := hl x hx y hy (by rw [kx, ky]) (beforeV_twin (hax y hy ky hhy) (hay x hx kx hhx))
  rw [this]
/-- the last one depends on what is held alone -/
theorem lastV_iff {key a0 a1 a2 a3 : Int} {l : List Hd} {v : Ver} (hl : Apart l) : lastV key a0 a1 a2 a3 l = some v ↔ IsLast key a0 a1 a2 a3 l v := by
  refine ⟨lastV_some, fun h => ?_⟩
  cases e : lastV key a0 a1 a2 a3 l with
  | none =>
    obtain ⟨⟨x, hx, ex, kx, hhx⟩, _⟩ := h
    have := lastV_none e x hx kx
    rw [ex, hhx] at this
    cases this
  | some u => rw [isLast_one hl (lastV_some e) h]
theorem apart_put {l : List Hd} {key : Int} {v : Ver} (hl : Apart l) : Apart (putL l key v) := by
  unfold putL
  split
  · rename_i h
    have hn : l.any (twinB key v) = false := by
      unfold putE at h
      split at h
      · split at h
        · split at h
          · cases h
          · rename_i hx
            simpa using hx
        · cases h
      · cases h
    rw [List.any_eq_false] at hn
    have tw : ∀ x ∈ l, x.key = key → ¬ Twin x.v v := fun x hx hk ht => hn x hx (by simp [twinB, hk, ht.1, ht.2.1, ht.2.2])
    intro x hx y hy hk ht
    rcases List.mem_append.1 hx with h1 | h1 <;> rcases List.mem_append.1 hy with h2 | h2
    · exact hl x h1 y h2 hk ht
    · obtain rfl := List.mem_singleton.1 h2
      exact absurd ht (tw x h1 hk)
    · obtain rfl := List.mem_singleton.1 h1
      exact absurd ⟨ht.1.symm, ht.2.1.symm, ht.2.2.symm⟩ (tw y h2 hk.symm)
    · rw [List.mem_singleton.1 h1, List.mem_singleton.1 h2]
  · exact hl
theorem apart_sub {l m : List Hd} (hl : Apart l) (h : ∀ x ∈ m, x ∈ l) : Apart m := fun x hx y hy => hl x (h x hx) y (h y hy)

end Go.Proofs.YtknejedgddlabaaDoor

namespace Go.Proofs.YtknejedgddlabaaDoor
open Go.RowKit

/-- an error: nil, or a bare one -/
def errV (n : Int) : Value := if n = 0 then .nilIface else .iface 24 (.int .i64 n)
/-- blocks of X are as they were -/
structure Keeps (X : Nat → Prop) (w w' : World) : Prop where
  os : w'.os = w.os
  tape : w'.tape = w.tape
  output : w'.output = w.output
  size : w.heap.size ≤ w'.heap.size
  block : ∀ k, X k → w'.heap[k]? = w.heap[k]?
theorem Keeps.refl (X : Nat → Prop) (w : World) : Keeps X w w := ⟨rfl, rfl, rfl, Nat.le_refl _, fun _ _ => rfl⟩
theorem Keeps.trans {X : Nat → Prop} {a b c : World} (h : Keeps X a b) (k : Keeps X b c) : Keeps X a c := ⟨k.os.trans h.os, k.tape.trans h.tape, k.output.trans h.output, Nat.le_trans h.size k.size, fun i hi => (k.block i hi).trans (h.block i hi)⟩
theorem Keeps.below {X : Nat → Prop} {w w' : World} {B : Nat} (h : Keeps X w w') (hX : ∀ k, k < B → X k) : Below B w w' := ⟨h.os, h.tape, h.output, h.size, fun k hk => h.block k (hX k hk)⟩
theorem RowL.keeps {X : Nat → Prop} {w w' : World} {b : Nat} {vs : List Value} (h : RowL w b vs) (hk : Keeps X w w') (hX : X b) : RowL w' b vs := h.kept (hk.block b hX) hk.size

theorem putL_length {l : List Hd} {key : Int} {v : Ver} : (putL l key v).length ≤ l.length + 1 := by
  unfold putL
  split
  · simp
  · omega
theorem apart_sweep {l : List Hd} {a0 a1 a2 a3 : Int} (h : Apart l) : Apart (sweepL a0 a1 a2 a3 l) := apart_sub h fun _ hx => (List.mem_filter.1 hx).1
theorem sweepL_length {l : List Hd} {a0 a1 a2 a3 : Int} : (sweepL a0 a1 a2 a3 l).length ≤ l.length := List.length_filter_le _ _

end Go.Proofs.YtknejedgddlabaaDoor

namespace Go.Proofs.YtknejedgddlabaaDoor
open Go.RowKit

/-- a transaction -/
structure TxP where
  site : Int
  seq : Int
  wall : Int
  count : Int
  d0 : Int
  d1 : Int
  d2 : Int
  d3 : Int
  ws : List Wr
/-- a write of it, as a version -/
def verOf (t : TxP) (x : Wr) : Ver := ⟨t.wall, t.count, t.site, t.seq, x.data, x.gone⟩
/-- its writes are put -/
def putsT (t : TxP) (ws : List Wr) (l : List Hd) : List Hd := ws.foldl (fun l x => putL l x.key (verOf t x)) l
theorem putsT_snoc {t : TxP} {ws : List Wr} {l : List Hd} {k : Nat} (hk : k < ws.length) : putsT t (ws.take (k + 1)) l = putL (putsT t (ws.take k) l) (wrAt ws k).key (verOf t (wrAt ws k)) := by
  unfold putsT
  rw [List.take_succ_eq_append_getElem hk, List.foldl_append]
  simp [wrAt, List.getD, List.getElem?_eq_getElem hk]
theorem putsT_length (t : TxP) : ∀ (ws : List Wr) (l : List Hd), (putsT t ws l).length ≤ l.length + ws.length
  | [], _ => by simp [putsT]
  | x :: ws, l => by
    have ih := putsT_length t ws (putL l x.key (verOf t x))
    have h : (putL l x.key (verOf t x)).length ≤ l.length + 1 := by
      unfold putL
      split
      · simp
      · omega
    show (putsT t ws (putL l x.key (verOf t x))).length ≤ _
    simp only [List.length_cons]
    omega

/-- a vector with one number another -/
def setV0 (s x a0 : Int) : Int := if s = 0 then x else a0
def setV1 (s x a1 : Int) : Int := if s = 1 then x else a1
def setV2 (s x a2 : Int) : Int := if s = 2 then x else a2
def setV3 (s x a3 : Int) : Int := if s = 3 then x else a3

/-- a site -/
structure SiteS where
  id : Int
  a0 : Int
  a1 : Int
  a2 : Int
  a3 : Int
  lw : Int
  lc : Int
  log : List TxP
  waits : List TxP
  l : List Hd
  oth : Nat → Int
/-- a transaction is applied -/
def applyS (S : SiteS) (t : TxP) : SiteS :=
  { S with a0 := setV0 t.site t.seq S.a0, a1 := setV1 t.site t.seq S.a1, a2 := setV2 t.site t.seq S.a2, a3 := setV3 t.site t.seq S.a3,
           lw := if 0 < cmpS t.wall t.count S.lw S.lc then t.wall else S.lw, lc := if 0 < cmpS t.wall t.count S.lw S.lc then t.count else S.lc,
           log := S.log ++ [t], l := putsT t t.ws S.l }
/-- it may be applied -/
def readyS (S : SiteS) (t : TxP) : Bool := decide (t.seq = depOf t.site S.a0 S.a1 S.a2 S.a3 + 1) && covB S.a0 S.a1 S.a2 S.a3 t.d0 t.d1 t.d2 t.d3

end Go.Proofs.YtknejedgddlabaaDoor

namespace Go.Proofs.YtknejedgddlabaaDoor
open Go.RowKit

/-- one cell of a block -/
structure Cell1 (w : World) (b o : Nat) (v : Value) : Prop where
  cell : w.cell? ⟨b, o, none⟩ = some v
  free : w.frozen? ⟨b, o, none⟩ = false
  lt : b < w.heap.size
theorem Cell1.kept {w w' : World} {b o : Nat} {v : Value} (h : Cell1 w b o v) (e : w'.heap[b]? = w.heap[b]?) (hs : w.heap.size ≤ w'.heap.size) : Cell1 w' b o v :=
  ⟨by rw [World.cell?_of_block (w := w) e]; exact h.cell, by rw [World.frozen?_of_block (w := w) e]; exact h.free, Nat.lt_of_lt_of_le h.lt hs⟩
theorem Cell1.later {w w' : World} {b o : Nat} {v : Value} (h : Cell1 w b o v) (hb : Below w.heap.size w w') : Cell1 w' b o v := h.kept (hb.block b h.lt) hb.size
theorem Cell1.grown {w w' : World} {r : Option Nat} {b o : Nat} {v : Value} (h : Cell1 w b o v) (hO : w.grownBy w' r) (hne : some b ≠ r) : Cell1 w' b o v := h.kept (hO.block b h.lt hne) hO.size
theorem Cell1.boxed {w : World} {b o : Nat} {v : Value} (h : Cell1 w b o v) (x : Obj) : Cell1 (w.alloc x) b o v := h.kept (Below.heap_alloc _ _ _ h.lt) (by simp)
theorem Cell1.drew {w : World} {b o : Nat} {v : Value} (h : Cell1 w b o v) : Cell1 w.drew b o v := h.kept rfl (Nat.le_refl _)
theorem Cell1.set {w : World} {b o : Nat} {v : Value} (h : Cell1 w b o v) (u : Value) : Cell1 (w.setCell ⟨b, o, none⟩ u) b o u :=
  ⟨World.cell?_setCell_same _ _ _ h.cell, by rw [World.frozen?_setCell]; exact h.free, by simpa [World.setCell] using h.lt⟩

/-- a store of the document, at an offset of a block -/
structure ORefSt (w : World) (sb so : Nat) (v : Value) (l : List Hd) : Prop where
  box : Cell1 w sb so v
  own : w.ownsRow 0 136 7 v l.length (hdsL l)
  apart : v.ownBlock ≠ some sb
  ok : ∀ h ∈ l, okVer h.v = true
/-- the other cells of its block are as they were -/
def Rest1 (sb so : Nat) (w w' : World) : Prop := ∀ j, j ≠ so → w'.cell? ⟨sb, j, none⟩ = w.cell? ⟨sb, j, none⟩ ∧ w'.frozen? ⟨sb, j, none⟩ = w.frozen? ⟨sb, j, none⟩
theorem Rest1.ofBlock {sb so : Nat} {w w' : World} (e : w'.heap[sb]? = w.heap[sb]?) : Rest1 sb so w w' := fun _ _ => ⟨World.cell?_of_block (w := w) e, World.frozen?_of_block (w := w) e⟩
theorem Rest1.trans {sb so : Nat} {a b c : World} (h : Rest1 sb so a b) (k : Rest1 sb so b c) : Rest1 sb so a c := fun j hj => ⟨(k j hj).1.trans (h j hj).1, (k j hj).2.trans (h j hj).2⟩
theorem Rest1.set (sb so : Nat) (w : World) (u : Value) : Rest1 sb so w (w.setCell ⟨sb, so, none⟩ u) := fun j hj => ⟨World.cell?_setCell_other _ _ _ _ (by intro e; injection e with _ e _; exact hj e.symm), World.frozen?_setCell _ _ _ _⟩
/-- what is left behind a change -/
def OPost (w : World) (sb so : Nat) (v : Value) (l' : List Hd) (w' : World) : Prop :=
  ∃ v', ORefSt w' sb so v' l' ∧ (∀ k, v'.ownBlock = some k → v.ownBlock = some k ∨ w.heap.size ≤ k) ∧ Touch (footR sb v) w w' ∧ Rest1 sb so w w'
theorem ORefSt.later {w w' : World} {sb so : Nat} {v : Value} {l : List Hd} (h : ORefSt w sb so v l) (hb : Below w.heap.size w w') : ORefSt w' sb so v l := ⟨h.box.later hb, own_below7 h.own hb, h.apart, h.ok⟩
theorem OPost.same {w w' : World} {sb so : Nat} {v : Value} {l : List Hd} (h : ORefSt w sb so v l) (hb : Below w.heap.size w w') : OPost w sb so v l w' :=
  ⟨v, h.later hb, fun _ hk => .inl hk, Touch.ofBelow hb, Rest1.ofBlock (hb.block sb h.box.lt)⟩

set_option maxHeartbeats 4000000 in
theorem oPut_range {sb so : Nat} {sv : Value} {l : List Hd} {key : Int} (h : inB key 0 7 = false) (v : Ver) (w : World) (hS : ORefSt w sb so sv l) :
    Calls Tryd.prog 32 #[.pointer (some ⟨sb, so, none⟩), .int .i64 key, .agg #[.int .i64 v.wall, .int .i64 v.count, .int .i64 v.site, .int .i64 v.seq, .string v.data, .bool v.gone]] w fun e w' => e = .returned (.int .i64 (putE l key v)) ∧ OPost w sb so sv (putL l key v) w' := by
  have e : putE l key v = 2 := by unfold putE; rw [h]; rfl
  have e2 : putL l key v = l := by unfold putL; rw [e]; rfl
  rw [e, e2]
  have H : Hid (inB key 0 7 = false) := h
  clear h e e2
  go_enter Tryd.func32, Tryd.ntmps32
  go_wp2_with fail
  refine (inB_is H.out _).mono ?_
  rintro e w1 ⟨rfl, hb1⟩
  go_wp2_with fail
  go_ret
  exact ⟨rfl, OPost.same hS (behind (boxed (Below.refl _ _) _) hb1)⟩

set_option maxHeartbeats 8000000 in
theorem oPut_arg {sb so : Nat} {sv : Value} {l : List Hd} {key : Int} (h : inB key 0 7 = true) (v : Ver) (hv : okVer v = false) (w : World) (hS : ORefSt w sb so sv l) :
    Calls Tryd.prog 32 #[.pointer (some ⟨sb, so, none⟩), .int .i64 key, .agg #[.int .i64 v.wall, .int .i64 v.count, .int .i64 v.site, .int .i64 v.seq, .string v.data, .bool v.gone]] w fun e w' => e = .returned (.int .i64 (putE l key v)) ∧ OPost w sb so sv (putL l key v) w' := by
  have e : putE l key v = 1 := by unfold putE; rw [h, hv]; rfl
  have e2 : putL l key v = l := by unfold putL; rw [e]; rfl
  rw [e, e2]
  have H : Hid (inB key 0 7 = true) := h
  clear h e e2
  obtain ⟨wl, ct, st, sq, dt, gn⟩ := v
  have R := RowL.new (w := w) (T := 71) [.int .i64 wl, .int .i64 ct, .int .i64 st, .int .i64 sq, .string dt, .bool gn] rfl
  have hb := boxed (Below.refl _ w) (.cells #[.int .i64 wl, .int .i64 ct, .int .i64 st, .int .i64 sq, .string dt, .bool gn] 71)
  go_enter Tryd.func32, Tryd.ntmps32
  go_wp2_with fail
  refine (inB_is H.out _).mono ?_
  rintro e w1 ⟨rfl, hb1⟩
  replace R := R.later hb1
  replace hb := behind hb hb1
  clear hb1
  have c0 := R.cell 0 _ rfl
  have c1 := R.cell 1 _ rfl
  cases p1 : (timeB wl && timeB ct)
  · have P1 : Hid ((timeB wl && timeB ct) = false) := p1
    clear p1
    go_wp2_with fail
    refine (refRight_is P1.out _).mono ?_
    rintro e w2 ⟨rfl, hb2⟩
    replace hb := behind hb hb2
    go_wp2_with fail
    go_ret
    exact ⟨rfl, OPost.same hS hb⟩
  · have P1 : Hid ((timeB wl && timeB ct) = true) := p1
    go_wp2_with fail
    refine (refRight_is P1.out _).mono ?_
    rintro e w2 ⟨rfl, hb2⟩
    replace R := R.later hb2
    replace hb := behind hb hb2
    clear hb2 c0 c1
    have c2 := R.cell 2 _ rfl
    cases p2 : inB st 0 3
    · have P2 : Hid (inB st 0 3 = false) := p2
      clear p1 p2
      go_wp2_with fail
      refine (inB_is P2.out _).mono ?_
      rintro e w3 ⟨rfl, hb3⟩
      replace hb := behind hb hb3
      go_wp2_with fail
      go_ret
      exact ⟨rfl, OPost.same hS hb⟩
    · have P2 : Hid (inB st 0 3 = true) := p2
      go_wp2_with fail
      refine (inB_is P2.out _).mono ?_
      rintro e w3 ⟨rfl, hb3⟩
      replace R := R.later hb3
      replace hb := behind hb hb3
      clear hb3 c2
      have c3 := R.cell 3 _ rfl
      cases p3 : inB sq 1 1099511627776
      · have P3 : Hid (inB sq 1 1099511627776 = false) := p3
        clear p1 p2 p3
        go_wp2_with fail
        refine (inB_is P3.out _).mono ?_
        rintro e w4 ⟨rfl, hb4⟩
        replace hb := behind hb hb4
        go_wp2_with fail
        go_ret
        exact ⟨rfl, OPost.same hS hb⟩
      · have P3 : Hid (inB sq 1 1099511627776 = true) := p3
        go_wp2_with fail
        refine (inB_is P3.out _).mono ?_
        rintro e w4 ⟨rfl, hb4⟩
        replace R := R.later hb4
        replace hb := behind hb hb4
        clear hb4 c3
        have c4 := R.cell 4 _ rfl
        have c5 := R.cell 5 _ rfl
        by_cases p4 : 12 < (dt.size : Int)
        · clear p1 p2 p3
          go_wp2_with fail
          go_ret
          exact ⟨rfl, OPost.same hS hb⟩
        · have d4 : decide ((dt.size : Int) ≤ 12) = true := decide_eq_true (by omega)
          cases gn
          · simp only [okVer, p1, p2, p3, d4, Bool.and_self, Bool.false_and, Bool.not_false] at hv
            cases hv
          · cases he : dt.toList.isEmpty
            · clear p1 p2 p3
              go_wp2_with fail
              go_ret
              exact ⟨rfl, OPost.same hS hb⟩
            · simp only [okVer, p1, p2, p3, d4, he, Bool.and_self, Bool.not_true, Bool.and_false, Bool.not_false] at hv
              cases hv

end Go.Proofs.YtknejedgddlabaaDoor

namespace Go.Proofs.YtknejedgddlabaaDoor
open Go.RowKit

set_option maxHeartbeats 8000000 in
theorem oPut_ok {sb so : Nat} {sv : Value} {l : List Hd} {key : Int} (h : inB key 0 7 = true) (v : Ver) (hv : okVer v = true) (w : World) (hS : ORefSt w sb so sv l) (hl : l.length ≤ 1000) :
    Calls Tryd.prog 32 #[.pointer (some ⟨sb, so, none⟩), .int .i64 key, .agg #[.int .i64 v.wall, .int .i64 v.count, .int .i64 v.site, .int .i64 v.seq, .string v.data, .bool v.gone]] w fun e w' => e = .returned (.int .i64 (putE l key v)) ∧ OPost w sb so sv (putL l key v) w' := by
  have he := eqStampB
  have H : Hid (inB key 0 7 = true) := h
  have HV : Hid (okVer v = true) := hv
  clear h
  obtain ⟨wl, ct, st, sq, dt, gn⟩ := v
  have hp := hv
  simp only [okVer, Bool.and_eq_true] at hp
  obtain ⟨⟨⟨⟨p1, p2⟩, p3⟩, p4⟩, p5⟩ := hp
  have P1 : Hid ((timeB wl && timeB ct) = true) := by show (timeB wl && timeB ct) = true; rw [p1.1, p1.2]; rfl
  have P2 : Hid (inB st 0 3 = true) := p2
  have P3 : Hid (inB sq 1 1099511627776 = true) := p3
  have hdt : ¬ 12 < (dt.size : Int) := by have := of_decide_eq_true p4; omega
  have P5 : Hid ((!(gn && !dt.toList.isEmpty)) = true) := p5
  clear p1 p2 p3 p4 p5 hv
  have R := RowL.new (w := w) (T := 71) [.int .i64 wl, .int .i64 ct, .int .i64 st, .int .i64 sq, .string dt, .bool gn] rfl
  have hb := boxed (Below.refl _ w) (.cells #[.int .i64 wl, .int .i64 ct, .int .i64 st, .int .i64 sq, .string dt, .bool gn] 71)
  go_enter Tryd.func32, Tryd.ntmps32
  go_wp2_with fail
  refine (inB_is H.out _).mono ?_
  rintro e w1 ⟨rfl, hb1⟩
  replace R := R.later hb1
  replace hb := behind hb hb1
  have c0 := R.cell 0 _ rfl
  have c1 := R.cell 1 _ rfl
  go_wp2_with fail
  refine (refRight_is P1.out _).mono ?_
  rintro e w2 ⟨rfl, hb2⟩
  replace R := R.later hb2
  replace hb := behind hb hb2
  clear hb1 hb2 c0 c1
  have c2 := R.cell 2 _ rfl
  go_wp2_with fail
  refine (inB_is P2.out _).mono ?_
  rintro e w3 ⟨rfl, hb3⟩
  replace R := R.later hb3
  replace hb := behind hb hb3
  clear hb3 c2
  have c3 := R.cell 3 _ rfl
  go_wp2_with fail
  refine (inB_is P3.out _).mono ?_
  rintro e w4 ⟨rfl, hb4⟩
  replace R := R.later hb4
  replace hb := behind hb hb4
  clear hb4 c3
  have c4 := R.cell 4 _ rfl
  have c5 := R.cell 5 _ rfl
  cases gn
  · skip
    obtain ⟨a, cap, rfl, hH⟩ := hdIn_own hS.own
    have hH4 := hH.later hb
    have box4 := hS.box.later hb
    have s0 : w4.cell? ⟨sb, so, none⟩ = some (.slice a l.length cap) := box4.cell
    go_wp2_with fail
    clear s0 box4
    go_loopw [48] (fun iv wr => ∃ (k : Nat) (z : Int), k ≤ l.length ∧ z = k ∧ iv = .int .i64 z ∧ (∀ j, j < k → twinB key ⟨wl, ct, st, sq, dt, false⟩ (hdAt l j) = false) ∧ RowL wr w.heap.size [.int .i64 wl, .int .i64 ct, .int .i64 st, .int .i64 sq, .string dt, .bool false] ∧ Below w.heap.size w wr) (fun i _ => l.length - (intOf i).toNat)
    case atStart => exact ⟨0, 0, by omega, rfl, rfl, fun j hj => by omega, R, hb⟩
    case round =>
      clear R hb hH4
      obtain ⟨k, z, hk, hz, rfl, hnt, R, hb⟩ := hrel
      have NT : Hid (∀ j, j < k → twinB key ⟨wl, ct, st, sq, dt, false⟩ (hdAt l j) = false) := hnt
      clear hnt
      have HZ : Hid (z = k) := hz
      have hH4 := hH.later hb
      by_cases hlt : k < l.length
      · have h1 : z < (l.length : Int) := by omega
        have h2 : z.toNat = k := by omega
        have h3 : 0 ≤ z := by omega
        clear hz
        obtain ⟨b, off, rfl, hcc⟩ : ∃ b off, a = some ⟨b, off, none⟩ ∧ ∀ i r u, i < l.length → (hdL (hdAt l i))[r]? = some u → wr.cell? ⟨b, off + (i * 7 + r), none⟩ = some u := by
          rcases hH4.held with h0 | h0
          · rw [h0] at hlt; simp at hlt
          · exact h0
        obtain ⟨⟨hk_, ⟨hw, hc, hs, hq, hd, hg⟩⟩, hx⟩ : ∃ x, hdAt l k = x := ⟨_, rfl⟩
        have x0 : wr.cell? ⟨b, off + k * 7, none⟩ = some (.int .i64 hk_) := hcc k 0 _ hlt (by rw [hx]; rfl)
        have x1 : wr.cell? ⟨b, off + k * 7 + 1, none⟩ = some (.int .i64 hw) := hcc k 1 _ hlt (by rw [hx]; rfl)
        have x2 : wr.cell? ⟨b, off + k * 7 + 2, none⟩ = some (.int .i64 hc) := hcc k 2 _ hlt (by rw [hx]; rfl)
        have x3 : wr.cell? ⟨b, off + k * 7 + 3, none⟩ = some (.int .i64 hs) := hcc k 3 _ hlt (by rw [hx]; rfl)
        have x4 : wr.cell? ⟨b, off + k * 7 + 4, none⟩ = some (.int .i64 hq) := hcc k 4 _ hlt (by rw [hx]; rfl)
        have x5 : wr.cell? ⟨b, off + k * 7 + 5, none⟩ = some (.string hd) := hcc k 5 _ hlt (by rw [hx]; rfl)
        have x6 : wr.cell? ⟨b, off + k * 7 + 6, none⟩ = some (.bool hg) := hcc k 6 _ hlt (by rw [hx]; rfl)
        have HX : Hid (hdAt l k = ⟨hk_, ⟨hw, hc, hs, hq, hd, hg⟩⟩) := hx
        clear hx hcc hH4
        have TW : Hid (twinB key ⟨wl, ct, st, sq, dt, false⟩ (hdAt l k) = ((hk_ == key) && same2 hw hc wl ct && (hs == st))) := by
          show twinB key ⟨wl, ct, st, sq, dt, false⟩ (hdAt l k) = _
          rw [HX.out]
          simp only [twinB, same2]
          rw [Bool.eq_iff_iff]
          simp
        have R' := R.boxed (.cells #[.int .i64 hk_, .int .i64 hw, .int .i64 hc, .int .i64 hs, .int .i64 hq, .string hd, .bool hg] 136)
        have hb' := boxed hb (.cells #[.int .i64 hk_, .int .i64 hw, .int .i64 hc, .int .i64 hs, .int .i64 hq, .string hd, .bool hg] 136)
        have c0 := R'.cell 0 _ rfl
        have c1 := R'.cell 1 _ rfl
        have c2 := R'.cell 2 _ rfl
        cases e1 : (hk_ == key)
        · have NT2 : Hid (∀ j, j < k + 1 → twinB key ⟨wl, ct, st, sq, dt, false⟩ (hdAt l j) = false) := fun j hj => by
            rcases Nat.lt_or_ge j k with g | g
            · exact NT.out j g
            · obtain rfl : j = k := by omega
              rw [TW.out, e1]; rfl
          go_wp2_with fail
          go_roundw
          case rel => exact ⟨k + 1, z + 1, by omega, by have := HZ.out; omega, by go_num, NT2.out, R', hb'⟩
          case measure => simp [intOf]; omega
        · cases e2 : same2 hw hc wl ct
          · have NT2 : Hid (∀ j, j < k + 1 → twinB key ⟨wl, ct, st, sq, dt, false⟩ (hdAt l j) = false) := fun j hj => by
              rcases Nat.lt_or_ge j k with g | g
              · exact NT.out j g
              · obtain rfl : j = k := by omega
                rw [TW.out, e1, e2]; rfl
            go_wp2_with fail
            go_roundw
            case rel => exact ⟨k + 1, z + 1, by omega, by have := HZ.out; omega, by go_num, NT2.out, R', hb'⟩
            case measure => simp [intOf]; omega
          · cases e3 : (hs == st)
            · have NT2 : Hid (∀ j, j < k + 1 → twinB key ⟨wl, ct, st, sq, dt, false⟩ (hdAt l j) = false) := fun j hj => by
                rcases Nat.lt_or_ge j k with g | g
                · exact NT.out j g
                · obtain rfl : j = k := by omega
                  rw [TW.out, e1, e2, e3]; rfl
              go_wp2_with fail
              go_roundw
              case rel => exact ⟨k + 1, z + 1, by omega, by have := HZ.out; omega, by go_num, NT2.out, R', hb'⟩
              case measure => simp [intOf]; omega
            · have PE : Hid (putE l key ⟨wl, ct, st, sq, dt, false⟩ = 9) := by
                have tt : twinB key ⟨wl, ct, st, sq, dt, false⟩ (hdAt l k) = true := by rw [TW.out, e1, e2, e3]; rfl
                have ta : l.any (twinB key ⟨wl, ct, st, sq, dt, false⟩) = true := List.any_eq_true.2 ⟨hdAt l k, by simp only [hdAt, List.getD, List.getElem?_eq_getElem hlt, Option.getD_some]; exact List.getElem_mem hlt, tt⟩
                show putE l key ⟨wl, ct, st, sq, dt, false⟩ = 9
                unfold putE
                rw [H.out, HV.out, ta]
                rfl
              have PL : Hid (putL l key ⟨wl, ct, st, sq, dt, false⟩ = l) := by show putL l key ⟨wl, ct, st, sq, dt, false⟩ = l; unfold putL; rw [PE.out]; rfl
              go_wp2_with fail
              go_ret
              exact ⟨by rw [PE.out]; rfl, by rw [PL.out]; exact OPost.same hS hb'⟩
      · have h4 : ¬ z < (l.length : Int) := by omega
        have PE : Hid (putE l key ⟨wl, ct, st, sq, dt, false⟩ = 0) := by
          have ta : l.any (twinB key ⟨wl, ct, st, sq, dt, false⟩) = false := by
            rw [List.any_eq_false]
            intro x hx
            obtain ⟨i, hi, rfl⟩ := List.mem_iff_getElem.1 hx
            have e := NT.out i (by omega)
            simp only [hdAt, List.getD, List.getElem?_eq_getElem hi, Option.getD_some] at e
            simp [e]
          show putE l key ⟨wl, ct, st, sq, dt, false⟩ = 0
          unfold putE
          rw [H.out, HV.out, ta]
          rfl
        have PL : Hid (putL l key ⟨wl, ct, st, sq, dt, false⟩ = l ++ [⟨key, ⟨wl, ct, st, sq, dt, false⟩⟩]) := by show putL l key ⟨wl, ct, st, sq, dt, false⟩ = _; unfold putL; rw [PE.out]; rfl
        clear hz
        have S4 := hS.later hb
        have s0 : wr.cell? ⟨sb, so, none⟩ = some (.slice a l.length cap) := S4.box.cell
        have s1 : wr.frozen? ⟨sb, so, none⟩ = false := S4.box.free
        have hsb : sb < wr.heap.size := S4.box.lt
        have c0 := R.cell 0 _ rfl
        have c1 := R.cell 1 _ rfl
        have c2 := R.cell 2 _ rfl
        have c3 := R.cell 3 _ rfl
        have c4 := R.cell 4 _ rfl
        have c5 := R.cell 5 _ rfl
        have ownd : wr.drew.ownsRow 0 136 7 (.slice a l.length cap) l.length (hdsL l) := S4.own
        obtain ⟨i0, hi, hz0, hz1, hz2⟩ := info_parts heldInfo
        go_wp2_with fail
        go_region_law (refine step_append_lies _ rfl (.tmp 77) (.tmp 81) 67 rfl 0 136 i0 (.agg #[.int .i64 0, .int .i64 0, .int .i64 0, .int .i64 0, .int .i64 0, .string ⟨#[]⟩, .bool false]) 7 64 Tryd.underlying67 hi hz0 hz1 hz2 rfl (by decide) (.slice a l.length cap) l.length (hdsL l) (by simp [Act.eval]) (ownd.alloc _) ⟨wr.heap.size, 0, none⟩ 1 1 (hdL ⟨key, ⟨wl, ct, st, sq, dt, false⟩⟩) (by simp [Act.eval]) rfl (World.news_of_block (heap_alloc_new wr.drew (.cells #[.int .i64 key, .int .i64 wl, .int .i64 ct, .int .i64 st, .int .i64 sq, .string dt, .bool false] 136))) (by intro u hu; simp [hdL] at hu; rcases hu with rfl | rfl | rfl | rfl | rfl | rfl | rfl <;> rfl) (by decide) (by simp only [maxLen]; omega) (by omega) (by simp) _ rfl ?_
                       intro g cap9 wE ownE grE egE ltE
                       have BE := ((S4.box.drew).boxed (.cells #[.int .i64 key, .int .i64 wl, .int .i64 ct, .int .i64 st, .int .i64 sq, .string dt, .bool false] 136)).grown grE (fun e => S4.apart e.symm)
                       have s0E : wE.cell? ⟨sb, so, none⟩ = some (.slice a l.length cap) := BE.cell
                       have s1E : wE.frozen? ⟨sb, so, none⟩ = false := BE.free)
        all_goals
          have BZ := BE.set (.slice (some ⟨g, 0, none⟩) (l.length + 1) cap9)
          have gne : g ≠ sb := by
            rcases egE with e | e
            · intro h
              rw [h] at e
              exact S4.apart e
            · simp at e
              omega
          have gnew : (Value.slice a l.length cap).ownBlock = some g ∨ w.heap.size ≤ g := by
            rcases egE with e | e
            · exact .inl e
            · right
              have := hb.size
              simp at e
              omega
          have ownZ := ownE.kept (row := some sb) (onlyCell sb so wE (.slice (some ⟨g, 0, none⟩) (l.length + 1) cap9)) (.inr (fun e => gne (by simpa [Value.ownBlock] using e)))
          have TZ : Touch (footR sb (.slice a l.length cap)) w (wE.setCell ⟨sb, so, none⟩ (.slice (some ⟨g, 0, none⟩) (l.length + 1) cap9)) :=
            (((Touch.ofBelow hb).trans (Touch.ofBelow (boxed ((Below.refl _ wr).drew) (.cells #[.int .i64 key, .int .i64 wl, .int .i64 ct, .int .i64 st, .int .i64 sq, .string dt, .bool false] 136)))).trans (Touch.grown grE (fun k hk => .inr hk))).trans (Touch.setCell wE ⟨sb, so, none⟩ _ (.inl rfl))
          have RZ : Rest1 sb so w (wE.setCell ⟨sb, so, none⟩ (.slice (some ⟨g, 0, none⟩) (l.length + 1) cap9)) :=
            (((Rest1.ofBlock (hb.block sb hS.box.lt)).trans (Rest1.ofBlock (w := wr) (Below.heap_alloc wr.drew _ sb hsb))).trans (Rest1.ofBlock (grE.block sb (by simp; omega) (fun e => S4.apart e.symm)))).trans (Rest1.set sb so wE _)
          have FIN : Hid (OPost w sb so (.slice a l.length cap) (l ++ [⟨key, ⟨wl, ct, st, sq, dt, false⟩⟩]) (wE.setCell ⟨sb, so, none⟩ (.slice (some ⟨g, 0, none⟩) (l.length + 1) cap9))) :=
            ⟨_, ⟨BZ, by rw [hdsL_snoc, List.length_append]; exact ownZ, fun e => gne (by simpa [Value.ownBlock] using e), fun x hx => by
              rcases List.mem_append.1 hx with h | h
              · exact hS.ok x h
              · obtain rfl := List.mem_singleton.1 h
                exact HV.out⟩, fun k hk => by
              have e : g = k := by simpa [Value.ownBlock] using hk
              rw [← e]
              exact gnew, TZ, RZ⟩
          clear BZ ownZ TZ gnew gne
          go_wp2_with fail
          go_ret
          exact ⟨by rw [PE.out]; rfl, by rw [PL.out]; exact FIN.out⟩
  · have em : dt.toList.isEmpty = true := by
      have := P5.out
      cases hx : dt.toList.isEmpty
      · rw [hx] at this; cases this
      · rfl
    obtain ⟨a, cap, rfl, hH⟩ := hdIn_own hS.own
    have hH4 := hH.later hb
    have box4 := hS.box.later hb
    have s0 : w4.cell? ⟨sb, so, none⟩ = some (.slice a l.length cap) := box4.cell
    go_wp2_with fail
    clear s0 box4
    go_loopw [48] (fun iv wr => ∃ (k : Nat) (z : Int), k ≤ l.length ∧ z = k ∧ iv = .int .i64 z ∧ (∀ j, j < k → twinB key ⟨wl, ct, st, sq, dt, true⟩ (hdAt l j) = false) ∧ RowL wr w.heap.size [.int .i64 wl, .int .i64 ct, .int .i64 st, .int .i64 sq, .string dt, .bool true] ∧ Below w.heap.size w wr) (fun i _ => l.length - (intOf i).toNat)
    case atStart => exact ⟨0, 0, by omega, rfl, rfl, fun j hj => by omega, R, hb⟩
    case round =>
      clear R hb hH4
      obtain ⟨k, z, hk, hz, rfl, hnt, R, hb⟩ := hrel
      have NT : Hid (∀ j, j < k → twinB key ⟨wl, ct, st, sq, dt, true⟩ (hdAt l j) = false) := hnt
      clear hnt
      have HZ : Hid (z = k) := hz
      have hH4 := hH.later hb
      by_cases hlt : k < l.length
      · have h1 : z < (l.length : Int) := by omega
        have h2 : z.toNat = k := by omega
        have h3 : 0 ≤ z := by omega
        clear hz
        obtain ⟨b, off, rfl, hcc⟩ : ∃ b off, a = some ⟨b, off, none⟩ ∧ ∀ i r u, i < l.length → (hdL (hdAt l i))[r]? = some u → wr.cell? ⟨b, off + (i * 7 + r), none⟩ = some u := by
          rcases hH4.held with h0 | h0
          · rw [h0] at hlt; simp at hlt
          · exact h0
        obtain ⟨⟨hk_, ⟨hw, hc, hs, hq, hd, hg⟩⟩, hx⟩ : ∃ x, hdAt l k = x := ⟨_, rfl⟩
        have x0 : wr.cell? ⟨b, off + k * 7, none⟩ = some (.int .i64 hk_) := hcc k 0 _ hlt (by rw [hx]; rfl)
        have x1 : wr.cell? ⟨b, off + k * 7 + 1, none⟩ = some (.int .i64 hw) := hcc k 1 _ hlt (by rw [hx]; rfl)
        have x2 : wr.cell? ⟨b, off + k * 7 + 2, none⟩ = some (.int .i64 hc) := hcc k 2 _ hlt (by rw [hx]; rfl)
        have x3 : wr.cell? ⟨b, off + k * 7 + 3, none⟩ = some (.int .i64 hs) := hcc k 3 _ hlt (by rw [hx]; rfl)
        have x4 : wr.cell? ⟨b, off + k * 7 + 4, none⟩ = some (.int .i64 hq) := hcc k 4 _ hlt (by rw [hx]; rfl)
        have x5 : wr.cell? ⟨b, off + k * 7 + 5, none⟩ = some (.string hd) := hcc k 5 _ hlt (by rw [hx]; rfl)
        have x6 : wr.cell? ⟨b, off + k * 7 + 6, none⟩ = some (.bool hg) := hcc k 6 _ hlt (by rw [hx]; rfl)
        have HX : Hid (hdAt l k = ⟨hk_, ⟨hw, hc, hs, hq, hd, hg⟩⟩) := hx
        clear hx hcc hH4
        have TW : Hid (twinB key ⟨wl, ct, st, sq, dt, true⟩ (hdAt l k) = ((hk_ == key) && same2 hw hc wl ct && (hs == st))) := by
          show twinB key ⟨wl, ct, st, sq, dt, true⟩ (hdAt l k) = _
          rw [HX.out]
          simp only [twinB, same2]
          rw [Bool.eq_iff_iff]
          simp
        have R' := R.boxed (.cells #[.int .i64 hk_, .int .i64 hw, .int .i64 hc, .int .i64 hs, .int .i64 hq, .string hd, .bool hg] 136)
        have hb' := boxed hb (.cells #[.int .i64 hk_, .int .i64 hw, .int .i64 hc, .int .i64 hs, .int .i64 hq, .string hd, .bool hg] 136)
        have c0 := R'.cell 0 _ rfl
        have c1 := R'.cell 1 _ rfl
        have c2 := R'.cell 2 _ rfl
        cases e1 : (hk_ == key)
        · have NT2 : Hid (∀ j, j < k + 1 → twinB key ⟨wl, ct, st, sq, dt, true⟩ (hdAt l j) = false) := fun j hj => by
            rcases Nat.lt_or_ge j k with g | g
            · exact NT.out j g
            · obtain rfl : j = k := by omega
              rw [TW.out, e1]; rfl
          go_wp2_with fail
          go_roundw
          case rel => exact ⟨k + 1, z + 1, by omega, by have := HZ.out; omega, by go_num, NT2.out, R', hb'⟩
          case measure => simp [intOf]; omega
        · cases e2 : same2 hw hc wl ct
          · have NT2 : Hid (∀ j, j < k + 1 → twinB key ⟨wl, ct, st, sq, dt, true⟩ (hdAt l j) = false) := fun j hj => by
              rcases Nat.lt_or_ge j k with g | g
              · exact NT.out j g
              · obtain rfl : j = k := by omega
                rw [TW.out, e1, e2]; rfl
            go_wp2_with fail
            go_roundw
            case rel => exact ⟨k + 1, z + 1, by omega, by have := HZ.out; omega, by go_num, NT2.out, R', hb'⟩
            case measure => simp [intOf]; omega
          · cases e3 : (hs == st)
            · have NT2 : Hid (∀ j, j < k + 1 → twinB key ⟨wl, ct, st, sq, dt, true⟩ (hdAt l j) = false) := fun j hj => by
                rcases Nat.lt_or_ge j k with g | g
                · exact NT.out j g
                · obtain rfl : j = k := by omega
                  rw [TW.out, e1, e2, e3]; rfl
              go_wp2_with fail
              go_roundw
              case rel => exact ⟨k + 1, z + 1, by omega, by have := HZ.out; omega, by go_num, NT2.out, R', hb'⟩
              case measure => simp [intOf]; omega
            · have PE : Hid (putE l key ⟨wl, ct, st, sq, dt, true⟩ = 9) := by
                have tt : twinB key ⟨wl, ct, st, sq, dt, true⟩ (hdAt l k) = true := by rw [TW.out, e1, e2, e3]; rfl
                have ta : l.any (twinB key ⟨wl, ct, st, sq, dt, true⟩) = true := List.any_eq_true.2 ⟨hdAt l k, by simp only [hdAt, List.getD, List.getElem?_eq_getElem hlt, Option.getD_some]; exact List.getElem_mem hlt, tt⟩
                show putE l key ⟨wl, ct, st, sq, dt, true⟩ = 9
                unfold putE
                rw [H.out, HV.out, ta]
                rfl
              have PL : Hid (putL l key ⟨wl, ct, st, sq, dt, true⟩ = l) := by show putL l key ⟨wl, ct, st, sq, dt, true⟩ = l; unfold putL; rw [PE.out]; rfl
              go_wp2_with fail
              go_ret
              exact ⟨by rw [PE.out]; rfl, by rw [PL.out]; exact OPost.same hS hb'⟩
      · have h4 : ¬ z < (l.length : Int) := by omega
        have PE : Hid (putE l key ⟨wl, ct, st, sq, dt, true⟩ = 0) := by
          have ta : l.any (twinB key ⟨wl, ct, st, sq, dt, true⟩) = false := by
            rw [List.any_eq_false]
            intro x hx
            obtain ⟨i, hi, rfl⟩ := List.mem_iff_getElem.1 hx
            have e := NT.out i (by omega)
            simp only [hdAt, List.getD, List.getElem?_eq_getElem hi, Option.getD_some] at e
            simp [e]
          show putE l key ⟨wl, ct, st, sq, dt, true⟩ = 0
          unfold putE
          rw [H.out, HV.out, ta]
          rfl
        have PL : Hid (putL l key ⟨wl, ct, st, sq, dt, true⟩ = l ++ [⟨key, ⟨wl, ct, st, sq, dt, true⟩⟩]) := by show putL l key ⟨wl, ct, st, sq, dt, true⟩ = _; unfold putL; rw [PE.out]; rfl
        clear hz
        have S4 := hS.later hb
        have s0 : wr.cell? ⟨sb, so, none⟩ = some (.slice a l.length cap) := S4.box.cell
        have s1 : wr.frozen? ⟨sb, so, none⟩ = false := S4.box.free
        have hsb : sb < wr.heap.size := S4.box.lt
        have c0 := R.cell 0 _ rfl
        have c1 := R.cell 1 _ rfl
        have c2 := R.cell 2 _ rfl
        have c3 := R.cell 3 _ rfl
        have c4 := R.cell 4 _ rfl
        have c5 := R.cell 5 _ rfl
        have ownd : wr.drew.ownsRow 0 136 7 (.slice a l.length cap) l.length (hdsL l) := S4.own
        obtain ⟨i0, hi, hz0, hz1, hz2⟩ := info_parts heldInfo
        go_wp2_with fail
        go_region_law (refine step_append_lies _ rfl (.tmp 77) (.tmp 81) 67 rfl 0 136 i0 (.agg #[.int .i64 0, .int .i64 0, .int .i64 0, .int .i64 0, .int .i64 0, .string ⟨#[]⟩, .bool false]) 7 64 Tryd.underlying67 hi hz0 hz1 hz2 rfl (by decide) (.slice a l.length cap) l.length (hdsL l) (by simp [Act.eval]) (ownd.alloc _) ⟨wr.heap.size, 0, none⟩ 1 1 (hdL ⟨key, ⟨wl, ct, st, sq, dt, true⟩⟩) (by simp [Act.eval]) rfl (World.news_of_block (heap_alloc_new wr.drew (.cells #[.int .i64 key, .int .i64 wl, .int .i64 ct, .int .i64 st, .int .i64 sq, .string dt, .bool true] 136))) (by intro u hu; simp [hdL] at hu; rcases hu with rfl | rfl | rfl | rfl | rfl | rfl | rfl <;> rfl) (by decide) (by simp only [maxLen]; omega) (by omega) (by simp) _ rfl ?_
                       intro g cap9 wE ownE grE egE ltE
                       have BE := ((S4.box.drew).boxed (.cells #[.int .i64 key, .int .i64 wl, .int .i64 ct, .int .i64 st, .int .i64 sq, .string dt, .bool true] 136)).grown grE (fun e => S4.apart e.symm)
                       have s0E : wE.cell? ⟨sb, so, none⟩ = some (.slice a l.length cap) := BE.cell
                       have s1E : wE.frozen? ⟨sb, so, none⟩ = false := BE.free)
        all_goals
          have BZ := BE.set (.slice (some ⟨g, 0, none⟩) (l.length + 1) cap9)
          have gne : g ≠ sb := by
            rcases egE with e | e
            · intro h
              rw [h] at e
              exact S4.apart e
            · simp at e
              omega
          have gnew : (Value.slice a l.length cap).ownBlock = some g ∨ w.heap.size ≤ g := by
            rcases egE with e | e
            · exact .inl e
            · right
              have := hb.size
              simp at e
              omega
          have ownZ := ownE.kept (row := some sb) (onlyCell sb so wE (.slice (some ⟨g, 0, none⟩) (l.length + 1) cap9)) (.inr (fun e => gne (by simpa [Value.ownBlock] using e)))
          have TZ : Touch (footR sb (.slice a l.length cap)) w (wE.setCell ⟨sb, so, none⟩ (.slice (some ⟨g, 0, none⟩) (l.length + 1) cap9)) :=
            (((Touch.ofBelow hb).trans (Touch.ofBelow (boxed ((Below.refl _ wr).drew) (.cells #[.int .i64 key, .int .i64 wl, .int .i64 ct, .int .i64 st, .int .i64 sq, .string dt, .bool true] 136)))).trans (Touch.grown grE (fun k hk => .inr hk))).trans (Touch.setCell wE ⟨sb, so, none⟩ _ (.inl rfl))
          have RZ : Rest1 sb so w (wE.setCell ⟨sb, so, none⟩ (.slice (some ⟨g, 0, none⟩) (l.length + 1) cap9)) :=
            (((Rest1.ofBlock (hb.block sb hS.box.lt)).trans (Rest1.ofBlock (w := wr) (Below.heap_alloc wr.drew _ sb hsb))).trans (Rest1.ofBlock (grE.block sb (by simp; omega) (fun e => S4.apart e.symm)))).trans (Rest1.set sb so wE _)
          have FIN : Hid (OPost w sb so (.slice a l.length cap) (l ++ [⟨key, ⟨wl, ct, st, sq, dt, true⟩⟩]) (wE.setCell ⟨sb, so, none⟩ (.slice (some ⟨g, 0, none⟩) (l.length + 1) cap9))) :=
            ⟨_, ⟨BZ, by rw [hdsL_snoc, List.length_append]; exact ownZ, fun e => gne (by simpa [Value.ownBlock] using e), fun x hx => by
              rcases List.mem_append.1 hx with h | h
              · exact hS.ok x h
              · obtain rfl := List.mem_singleton.1 h
                exact HV.out⟩, fun k hk => by
              have e : g = k := by simpa [Value.ownBlock] using hk
              rw [← e]
              exact gnew, TZ, RZ⟩
          clear BZ ownZ TZ gnew gne
          go_wp2_with fail
          go_ret
          exact ⟨by rw [PE.out]; rfl, by rw [PL.out]; exact FIN.out⟩

/-- Put, of whatever key and version -/
theorem oPut_any {sb so : Nat} {sv : Value} {l : List Hd} (key : Int) (v : Ver) (w : World) (hS : ORefSt w sb so sv l) (hl : l.length ≤ 1000) :
    Calls Tryd.prog 32 #[.pointer (some ⟨sb, so, none⟩), .int .i64 key, .agg #[.int .i64 v.wall, .int .i64 v.count, .int .i64 v.site, .int .i64 v.seq, .string v.data, .bool v.gone]] w fun e w' => e = .returned (.int .i64 (putE l key v)) ∧ OPost w sb so sv (putL l key v) w' := by
  cases h : inB key 0 7
  · exact oPut_range h v w hS
  · cases hv : okVer v
    · exact oPut_arg h v hv w hS
    · exact oPut_ok h v hv w hS hl

end Go.Proofs.YtknejedgddlabaaDoor

namespace Go.Proofs.YtknejedgddlabaaDoor
open Go.RowKit

/-- a transaction in memory: where its writes lie -/
structure TxM where
  t : TxP
  wa : Option Addr
  wc : Nat
def txC (m : TxM) : List Value := [.int .i64 m.t.site, .int .i64 m.t.seq, .int .i64 m.t.wall, .int .i64 m.t.count, .int .i64 m.t.d0, .int .i64 m.t.d1, .int .i64 m.t.d2, .int .i64 m.t.d3, .slice m.wa m.t.ws.length m.wc]
def txsC (l : List TxM) : List Value := l.flatMap txC
theorem txsC_snoc (l : List TxM) (m : TxM) : txsC (l ++ [m]) = txsC l ++ txC m := by simp [txsC]
theorem txC_one (m : TxM) : ∀ u ∈ txC m, u.oneCell' = true := by
  intro u hu
  simp [txC] at hu
  rcases hu with rfl | rfl | rfl | rfl | rfl | rfl | rfl | rfl | rfl <;> rfl
/-- the block of its writes -/
def TxM.blk (m : TxM) (k : Nat) : Prop := m.t.ws ≠ [] ∧ ∃ off, m.wa = some ⟨k, off, none⟩

/-- a site's cells -/
def siteC (S : SiteS) (lv wv sv : Value) : List Value :=
  [.int .i64 S.id, .int .i64 S.a0, .int .i64 S.a1, .int .i64 S.a2, .int .i64 S.a3, .int .i64 S.lw, .int .i64 S.lc, lv, wv, sv,
   .int .i64 (S.oth 0), .int .i64 (S.oth 1), .int .i64 (S.oth 2), .int .i64 (S.oth 3), .int .i64 (S.oth 4), .int .i64 (S.oth 5), .int .i64 (S.oth 6), .int .i64 (S.oth 7),
   .int .i64 (S.oth 8), .int .i64 (S.oth 9), .int .i64 (S.oth 10), .int .i64 (S.oth 11), .int .i64 (S.oth 12), .int .i64 (S.oth 13), .int .i64 (S.oth 14), .int .i64 (S.oth 15)]

def footS (b : Nat) (lv wv sv : Value) (k : Nat) : Prop := k = b ∨ lv.ownBlock = some k ∨ wv.ownBlock = some k ∨ sv.ownBlock = some k

/-- all but how the lists are the site's -/
structure SMem (w : World) (b : Nat) (lv wv sv : Value) (S : SiteS) (log waits : List TxM) : Prop where
  box : RowL w b (siteC S lv wv sv)
  rlog : w.ownsRow 0 40 9 lv log.length (txsC log)
  rwait : w.ownsRow 0 40 9 wv waits.length (txsC waits)
  own : w.ownsRow 0 136 7 sv S.l.length (hdsL S.l)
  ok : ∀ h ∈ S.l, okVer h.v = true
  nl : lv.ownBlock ≠ some b
  nw : wv.ownBlock ≠ some b
  ns : sv.ownBlock ≠ some b
  lw : ∀ k, lv.ownBlock = some k → wv.ownBlock ≠ some k
  ls : ∀ k, lv.ownBlock = some k → sv.ownBlock ≠ some k
  ws : ∀ k, wv.ownBlock = some k → sv.ownBlock ≠ some k
  hold : ∀ m ∈ log ++ waits, WrIn w m.wa m.wc m.t.ws ∧ ∀ k, m.blk k → ¬ footS b lv wv sv k

theorem SMem.lt {w : World} {b : Nat} {lv wv sv : Value} {S : SiteS} {log waits : List TxM} (h : SMem w b lv wv sv S log waits) : ∀ k, footS b lv wv sv k → k < w.heap.size := fun k hk => by
  rcases hk with rfl | hk | hk | hk
  · exact h.box.lt
  · exact (h.rlog.lt k hk).2
  · exact (h.rwait.lt k hk).2
  · exact (h.own.lt k hk).2
theorem own_keptN {w w' : World} {B n N : Nat} {T : TypeId} {v : Value} {xs : List Value} (h : w.ownsRow B T N v n xs) (hk : ∀ k, v.ownBlock = some k → w'.heap[k]? = w.heap[k]?) : w'.ownsRow B T N v n xs := by
  refine ⟨h.1, ?_⟩
  rcases h.2 with hn | ⟨g, cap, cur, rfl, hb, hg, rest⟩
  · exact .inl hn
  · exact .inr ⟨g, cap, cur, rfl, hb, by rw [hk g rfl]; exact hg, rest⟩
theorem WrIn.kept {w w' : World} {m : TxM} (h : WrIn w m.wa m.wc m.t.ws) (hk : ∀ k, m.blk k → w'.heap[k]? = w.heap[k]?) : WrIn w' m.wa m.wc m.t.ws := by
  refine ⟨h.len, h.cap, ?_⟩
  rcases h.held with h0 | ⟨b, off, e, c⟩
  · exact .inl h0
  · by_cases h0 : m.t.ws = []
    · exact .inl h0
    · refine .inr ⟨b, off, e, fun i hi => ?_⟩
      have eb := hk b ⟨h0, off, e⟩
      have := c i hi
      rw [World.cell?_of_block (w := w) (a := ⟨b, off + i * 3, none⟩) eb, World.cell?_of_block (w := w) (a := ⟨b, off + i * 3 + 1, none⟩) eb, World.cell?_of_block (w := w) (a := ⟨b, off + i * 3 + 1 + 1, none⟩) eb]
      exact this
theorem WrIn.blk_lt {w : World} {m : TxM} (h : WrIn w m.wa m.wc m.t.ws) : ∀ k, m.blk k → k < w.heap.size := fun k ⟨h0, off, e⟩ => by
  rcases h.held with h1 | ⟨b, off', e', c⟩
  · exact absurd h1 h0
  · rw [e] at e'
    injection e' with e'
    injection e' with e1 e2
    subst e1
    have hl : 0 < m.t.ws.length := by
      rcases Nat.eq_zero_or_pos m.t.ws.length with g | g
      · exact absurd (List.eq_nil_of_length_eq_zero g) h0
      · exact g
    exact World.block_lt_of_cell? _ _ (c 0 hl).1
theorem SMem.kept {w w' : World} {b : Nat} {lv wv sv : Value} {S : SiteS} {log waits : List TxM} (h : SMem w b lv wv sv S log waits) (hk : ∀ k, k < w.heap.size → w'.heap[k]? = w.heap[k]?) (hs : w.heap.size ≤ w'.heap.size) : SMem w' b lv wv sv S log waits :=
  ⟨h.box.kept (hk b h.box.lt) hs, own_keptN h.rlog (fun k e => hk k (h.rlog.lt k e).2), own_keptN h.rwait (fun k e => hk k (h.rwait.lt k e).2), own_keptN h.own (fun k e => hk k (h.own.lt k e).2), h.ok, h.nl, h.nw, h.ns, h.lw, h.ls, h.ws,
    fun m hm => ⟨(h.hold m hm).1.kept (fun k e => hk k ((h.hold m hm).1.blk_lt k e)), (h.hold m hm).2⟩⟩
theorem SMem.later {w w' : World} {b : Nat} {lv wv sv : Value} {S : SiteS} {log waits : List TxM} (h : SMem w b lv wv sv S log waits) (hb : Below w.heap.size w w') : SMem w' b lv wv sv S log waits := h.kept hb.block hb.size
theorem SMem.st {w : World} {b : Nat} {lv wv sv : Value} {S : SiteS} {log waits : List TxM} (h : SMem w b lv wv sv S log waits) : ORefSt w b 9 sv S.l := ⟨⟨h.box.cell 9 _ rfl, h.box.free 9 (by simp [siteC]), h.box.lt⟩, h.own, h.ns, h.ok⟩

/-- the store is another -/
theorem SMem.store {w w' : World} {b : Nat} {lv wv sv : Value} {S : SiteS} {log waits : List TxM} {l' : List Hd} (h : SMem w b lv wv sv S log waits) (hp : OPost w b 9 sv l' w') :
    ∃ sv', SMem w' b lv wv sv' { S with l := l' } log waits ∧ (∀ k, footS b lv wv sv' k → footS b lv wv sv k ∨ w.heap.size ≤ k) ∧ Touch (footS b lv wv sv) w w' := by
  obtain ⟨sv', st, hn, ht, hr⟩ := hp
  have kb : ∀ k, k < w.heap.size → k ≠ b → sv.ownBlock ≠ some k → w'.heap[k]? = w.heap[k]? := fun k hk h1 h2 => ht.block k hk (fun e => by
    rcases e with e | e
    · exact h1 e
    · exact h2 e)
  have kl : ∀ k, lv.ownBlock = some k → w'.heap[k]? = w.heap[k]? := fun k e => kb k (h.rlog.lt k e).2 (fun x => h.nl (by rw [← x]; exact e)) (h.ls k e)
  have kw : ∀ k, wv.ownBlock = some k → w'.heap[k]? = w.heap[k]? := fun k e => kb k (h.rwait.lt k e).2 (fun x => h.nw (by rw [← x]; exact e)) (h.ws k e)
  have nf : ∀ k, footS b lv wv sv' k → footS b lv wv sv k ∨ w.heap.size ≤ k := fun k hk => by
    rcases hk with hk | hk | hk | hk
    · exact .inl (.inl hk)
    · exact .inl (.inr (.inl hk))
    · exact .inl (.inr (.inr (.inl hk)))
    · rcases hn k hk with h1 | h1
      · exact .inl (.inr (.inr (.inr h1)))
      · exact .inr h1
  refine ⟨sv', ⟨⟨fun j v hv => ?_, fun j hj => ?_, st.box.lt⟩, own_keptN h.rlog kl, own_keptN h.rwait kw, st.own, st.ok, h.nl, h.nw, st.apart, h.lw, fun k e => ?_, fun k e => ?_, fun m hm => ⟨(h.hold m hm).1.kept (fun k e => ?_), fun k e hf => ?_⟩⟩, nf, ⟨ht.os, ht.tape, ht.output, ht.size, fun k hk hf => kb k hk (fun e => hf (.inl e)) (fun e => hf (.inr (.inr (.inr e))))⟩⟩
  · by_cases e : j = 9
    · subst e
      have hv' : v = sv' := by simpa [siteC] using hv.symm
      rw [hv']
      exact st.box.cell
    · rw [(hr j e).1]
      refine h.box.cell j v ?_
      rw [← hv]
      unfold siteC
      match j, e with
      | 0, _ => rfl
      | 1, _ => rfl
      | 2, _ => rfl
      | 3, _ => rfl
      | 4, _ => rfl
      | 5, _ => rfl
      | 6, _ => rfl
      | 7, _ => rfl
      | 8, _ => rfl
      | j + 10, _ => rfl
  · by_cases e : j = 9
    · subst e
      exact st.box.free
    · rw [(hr j e).2]
      exact h.box.free j hj
  · intro e2
    rcases hn k e2 with h1 | h1
    · exact h.ls k e h1
    · have := (h.rlog.lt k e).2
      omega
  · intro e2
    rcases hn k e2 with h1 | h1
    · exact h.ws k e h1
    · have := (h.rwait.lt k e).2
      omega
  · have lt := (h.hold m hm).1.blk_lt k e
    have nf0 := (h.hold m hm).2 k e
    exact kb k lt (fun x => nf0 (.inl x)) (fun x => nf0 (.inr (.inr (.inr x))))
  · rcases nf k hf with h1 | h1
    · exact (h.hold m hm).2 k e h1
    · have := (h.hold m hm).1.blk_lt k e
      omega

end Go.Proofs.YtknejedgddlabaaDoor

namespace Go.Proofs.YtknejedgddlabaaDoor
open Go.RowKit

theorem Touch.more {F F' : Nat → Prop} {w w1 w2 : World} (h : Touch F w w1) (k : Touch F' w1 w2) (hF : ∀ j, F' j → F j ∨ w.heap.size ≤ j) : Touch F w w2 :=
  ⟨k.os.trans h.os, k.tape.trans h.tape, k.output.trans h.output, Nat.le_trans h.size k.size, fun j hj hn => (k.block j (Nat.lt_of_lt_of_le hj h.size) (fun e => by
    rcases hF j e with h1 | h1
    · exact hn h1
    · omega)).trans (h.block j hj hn)⟩

/-- the transaction's box, and a write's -/
structure ApB (tb xb : Nat) (ts xs : List Value) (w : World) : Prop where
  t : RowL w tb ts
  x : RowL w xb xs

/-- while its writes are put -/
structure ApMid (w0 : World) (b : Nat) (lv wv sv : Value) (S : SiteS) (log waits : List TxM) (m : TxM) (k : Nat) (sv' : Value) (wr : World) : Prop where
  mem : SMem wr b lv wv sv' { S with l := putsT m.t (m.t.ws.take k) S.l } log waits
  box : RowL wr w0.heap.size (txC m)
  far : ¬ footS b lv wv sv' w0.heap.size
  foot : ∀ j, footS b lv wv sv' j → footS b lv wv sv j ∨ w0.heap.size ≤ j
  touch : Touch (footS b lv wv sv) w0 wr

theorem ApMid.later {w0 : World} {b : Nat} {lv wv sv : Value} {S : SiteS} {log waits : List TxM} {m : TxM} {k : Nat} {sv' : Value} {wr w' : World} (h : ApMid w0 b lv wv sv S log waits m k sv' wr) (hb : Below wr.heap.size wr w') : ApMid w0 b lv wv sv S log waits m k sv' w' :=
  ⟨h.mem.later hb, h.box.later hb, h.far, h.foot, h.touch.trans (Touch.ofBelow hb)⟩
theorem ApMid.put {w0 : World} {b : Nat} {lv wv sv : Value} {S : SiteS} {log waits : List TxM} {m : TxM} {k : Nat} {sv' : Value} {wr w' : World} (h : ApMid w0 b lv wv sv S log waits m k sv' wr) (hk : k < m.t.ws.length)
    (hp : OPost wr b 9 sv' (putL (putsT m.t (m.t.ws.take k) S.l) (wrAt m.t.ws k).key (verOf m.t (wrAt m.t.ws k))) w') : ∃ sv2, ApMid w0 b lv wv sv S log waits m (k + 1) sv2 w' := by
  obtain ⟨sv2, mm, nf, ht⟩ := h.mem.store hp
  refine ⟨sv2, by rw [putsT_snoc hk]; exact mm, h.box.kept (ht.block _ h.box.lt h.far) ht.size, fun hf => ?_, fun j hj => ?_, h.touch.more ht h.foot⟩
  · rcases nf _ hf with h1 | h1
    · exact h.far h1
    · have := h.box.lt
      omega
  · rcases nf j hj with h1 | h1
    · exact h.foot j h1
    · exact .inr (by have := h.touch.size; omega)

theorem ApMid.outside {w0 : World} {b : Nat} {lv wv sv : Value} {S : SiteS} {log waits : List TxM} {m : TxM} {k : Nat} {sv' : Value} {wr w' : World} {xb : Nat} {xs : List Value} {l' : List Hd} (h : ApMid w0 b lv wv sv S log waits m k sv' wr)
    (hp : OPost wr b 9 sv' l' w') (hx : RowL wr xb xs) (hn : ¬ footS b lv wv sv' xb) : ApB w0.heap.size xb (txC m) xs w' := by
  obtain ⟨sv2, mm, nf, ht⟩ := h.mem.store hp
  exact ⟨h.box.kept (ht.block _ h.box.lt h.far) ht.size, hx.kept (ht.block _ hx.lt hn) ht.size⟩

theorem txInfo : (Tryd.prog.info? 40).map (fun i => (i.zero, i.size, i.bytes)) = some (some (.agg #[.int .i64 0, .int .i64 0, .int .i64 0, .int .i64 0, .int .i64 0, .int .i64 0, .int .i64 0, .int .i64 0, .slice none 0 0]), 9, 88) := by kernel_rfl

/-- numbers of its box are others -/
theorem SMem.cells {w w' : World} {b : Nat} {lv wv sv : Value} {S S' : SiteS} {log waits : List TxM} (h : SMem w b lv wv sv S log waits) (hO : ∀ k, k ≠ b → w'.heap[k]? = w.heap[k]?) (hbox : RowL w' b (siteC S' lv wv sv)) (hl : S'.l = S.l) : SMem w' b lv wv sv S' log waits :=
  ⟨hbox, own_keptN h.rlog (fun k e => hO k (fun x => h.nl (by rw [← x]; exact e))), own_keptN h.rwait (fun k e => hO k (fun x => h.nw (by rw [← x]; exact e))), by rw [hl]; exact own_keptN h.own (fun k e => hO k (fun x => h.ns (by rw [← x]; exact e))), by rw [hl]; exact h.ok, h.nl, h.nw, h.ns, h.lw, h.ls, h.ws,
    fun m hm => ⟨(h.hold m hm).1.kept (fun k e => hO k (fun x => (h.hold m hm).2 k e (.inl x))), (h.hold m hm).2⟩⟩
theorem SMem.seq {w : World} {b : Nat} {lv wv sv : Value} {S : SiteS} {log waits : List TxM} (h : SMem w b lv wv sv S log waits) {s : Int} (x : Int) (h0 : 0 ≤ s) (h3 : s ≤ 3) :
    SMem (w.setCell ⟨b, 1 + s.toNat, none⟩ (.int .i64 x)) b lv wv sv { S with a0 := setV0 s x S.a0, a1 := setV1 s x S.a1, a2 := setV2 s x S.a2, a3 := setV3 s x S.a3 } log waits := by
  refine h.cells (fun k hk => Below.heap_setCell _ _ _ _ hk) ?_ rfl
  have R := h.box.set (1 + s.toNat) (.int .i64 x) (by simp [siteC]; omega)
  have hc : s = 0 ∨ s = 1 ∨ s = 2 ∨ s = 3 := by omega
  rcases hc with rfl | rfl | rfl | rfl <;> exact R
theorem SMem.last {w : World} {b : Nat} {lv wv sv : Value} {S : SiteS} {log waits : List TxM} (h : SMem w b lv wv sv S log waits) (x y : Int) :
    SMem ((w.setCell ⟨b, 5, none⟩ (.int .i64 x)).setCell ⟨b, 6, none⟩ (.int .i64 y)) b lv wv sv { S with lw := x, lc := y } log waits :=
  h.cells (fun k hk => (Below.heap_setCell _ _ _ _ hk).trans (Below.heap_setCell _ _ _ _ hk)) ((h.box.set 5 _ (by simp [siteC])).set 6 _ (by simp [siteC])) rfl

/-- a transaction more -/
theorem SMem.append {w wE : World} {b : Nat} {lv wv sv : Value} {S : SiteS} {log waits : List TxM} (h : SMem w b lv wv sv S log waits) (m : TxM) (hm : WrIn w m.wa m.wc m.t.ws ∧ ∀ k, m.blk k → ¬ footS b lv wv sv k) {g cap9 : Nat} (gr : w.grownBy wE lv.ownBlock)
    (ownE : wE.ownsRow 0 40 9 (.slice (some ⟨g, 0, none⟩) (log.length + 1) cap9) (log.length + 1) (txsC log ++ txC m)) (eg : lv.ownBlock = some g ∨ w.heap.size ≤ g) :
    SMem (wE.setCell ⟨b, 7, none⟩ (.slice (some ⟨g, 0, none⟩) (log.length + 1) cap9)) b (.slice (some ⟨g, 0, none⟩) (log.length + 1) cap9) wv sv S (log ++ [m]) waits ∧ (∀ k, footS b (.slice (some ⟨g, 0, none⟩) (log.length + 1) cap9) wv sv k → footS b lv wv sv k ∨ w.heap.size ≤ k) ∧
      Touch (footS b lv wv sv) w (wE.setCell ⟨b, 7, none⟩ (.slice (some ⟨g, 0, none⟩) (log.length + 1) cap9)) := by
  have kb : ∀ k, k < w.heap.size → k ≠ b → lv.ownBlock ≠ some k → (wE.setCell ⟨b, 7, none⟩ (.slice (some ⟨g, 0, none⟩) (log.length + 1) cap9)).heap[k]? = w.heap[k]? := fun k hk h1 h2 =>
    (Below.heap_setCell _ _ _ _ h1).trans (gr.block k hk (fun e => h2 e.symm))
  have gb : g ≠ b := fun e => by
    rcases eg with h1 | h1
    · exact h.nl (by rw [← e]; exact h1)
    · have := h.box.lt
      omega
  have gk : ∀ k, (Value.slice (some ⟨g, 0, none⟩) (log.length + 1) cap9).ownBlock = some k → g = k := fun k hk => by simpa [Value.ownBlock] using hk
  have nf : ∀ k, footS b (.slice (some ⟨g, 0, none⟩) (log.length + 1) cap9) wv sv k → footS b lv wv sv k ∨ w.heap.size ≤ k := fun k hk => by
    rcases hk with hk | hk | hk
    · exact .inl (.inl hk)
    · obtain rfl := gk k hk
      rcases eg with h1 | h1
      · exact .inl (.inr (.inl h1))
      · exact .inr h1
    · exact .inl (.inr (.inr hk))
  have hold : ∀ m' : TxM, (WrIn w m'.wa m'.wc m'.t.ws ∧ ∀ k, m'.blk k → ¬ footS b lv wv sv k) → WrIn (wE.setCell ⟨b, 7, none⟩ (.slice (some ⟨g, 0, none⟩) (log.length + 1) cap9)) m'.wa m'.wc m'.t.ws ∧ ∀ k, m'.blk k → ¬ footS b (.slice (some ⟨g, 0, none⟩) (log.length + 1) cap9) wv sv k := fun m' hm' =>
    ⟨hm'.1.kept (fun k e => kb k (hm'.1.blk_lt k e) (fun x => hm'.2 k e (.inl x)) (fun x => hm'.2 k e (.inr (.inl x)))), fun k e hf => by
      rcases nf k hf with h1 | h1
      · exact hm'.2 k e h1
      · have := hm'.1.blk_lt k e
        omega⟩
  refine ⟨⟨(h.box.grown gr (fun e => h.nl e.symm)).set 7 _ (by simp [siteC]), ?_, own_keptN h.rwait (fun k e => kb k (h.rwait.lt k e).2 (fun x => h.nw (by rw [← x]; exact e)) (fun x => h.lw k x e)), own_keptN h.own (fun k e => kb k (h.own.lt k e).2 (fun x => h.ns (by rw [← x]; exact e)) (fun x => h.ls k x e)), h.ok, fun e => gb (gk b e), h.nw, h.ns,
    fun k e => ?_, fun k e => ?_, h.ws, fun m' hm' => hold m' ?_⟩, nf, ?_⟩
  · have := ownE.kept (row := some b) (onlyCell b 7 wE (.slice (some ⟨g, 0, none⟩) (log.length + 1) cap9)) (.inr (fun e => gb (gk b e)))
    rw [txsC_snoc, List.length_append]
    exact this
  · obtain rfl := gk k e
    rcases eg with h1 | h1
    · exact h.lw _ h1
    · intro x
      have := (h.rwait.lt _ x).2
      omega
  · obtain rfl := gk k e
    rcases eg with h1 | h1
    · exact h.ls _ h1
    · intro x
      have := (h.own.lt _ x).2
      omega
  · rcases List.mem_append.1 hm' with h1 | h1
    · rcases List.mem_append.1 h1 with h2 | h2
      · exact h.hold m' (List.mem_append.2 (.inl h2))
      · obtain rfl := List.mem_singleton.1 h2
        exact hm
    · exact h.hold m' (List.mem_append.2 (.inr h1))
  · exact (Touch.grown gr (fun k hk => .inr (.inl hk))).trans (Touch.setCell wE ⟨b, 7, none⟩ _ (.inl rfl))

/-- behind its writes -/
structure ApE (w0 : World) (b : Nat) (lv wv sv : Value) (S : SiteS) (log waits : List TxM) (m : TxM) (sv' : Value) (wr : World) : Prop where
  mem : SMem wr b lv wv sv' S log waits
  box : RowL wr w0.heap.size (txC m)
  far : ¬ footS b lv wv sv' w0.heap.size
  foot : ∀ j, footS b lv wv sv' j → footS b lv wv sv j ∨ w0.heap.size ≤ j
  touch : Touch (footS b lv wv sv) w0 wr
theorem ApE.later {w0 : World} {b : Nat} {lv wv sv : Value} {S : SiteS} {log waits : List TxM} {m : TxM} {sv' : Value} {wr w' : World} (h : ApE w0 b lv wv sv S log waits m sv' wr) (hb : Below wr.heap.size wr w') : ApE w0 b lv wv sv S log waits m sv' w' :=
  ⟨h.mem.later hb, h.box.later hb, h.far, h.foot, h.touch.trans (Touch.ofBelow hb)⟩
theorem ApE.seq {w0 : World} {b : Nat} {lv wv sv : Value} {S : SiteS} {log waits : List TxM} {m : TxM} {sv' : Value} {wr : World} (h : ApE w0 b lv wv sv S log waits m sv' wr) {s : Int} (x : Int) (h0 : 0 ≤ s) (h3 : s ≤ 3) :
    ApE w0 b lv wv sv { S with a0 := setV0 s x S.a0, a1 := setV1 s x S.a1, a2 := setV2 s x S.a2, a3 := setV3 s x S.a3 } log waits m sv' (wr.setCell ⟨b, 1 + s.toNat, none⟩ (.int .i64 x)) :=
  ⟨h.mem.seq x h0 h3, h.box.far _ _ (fun e => h.far (.inl e.symm)), h.far, h.foot, h.touch.trans (Touch.setCell wr ⟨b, 1 + s.toNat, none⟩ _ (.inl rfl))⟩
theorem ApE.last {w0 : World} {b : Nat} {lv wv sv : Value} {S : SiteS} {log waits : List TxM} {m : TxM} {sv' : Value} {wr : World} (h : ApE w0 b lv wv sv S log waits m sv' wr) (x y : Int) :
    ApE w0 b lv wv sv { S with lw := x, lc := y } log waits m sv' ((wr.setCell ⟨b, 5, none⟩ (.int .i64 x)).setCell ⟨b, 6, none⟩ (.int .i64 y)) :=
  ⟨h.mem.last x y, (h.box.far _ _ (fun e => h.far (.inl e.symm))).far _ _ (fun e => h.far (.inl e.symm)), h.far, h.foot, (h.touch.trans (Touch.setCell wr ⟨b, 5, none⟩ _ (.inl rfl))).trans (Touch.setCell _ ⟨b, 6, none⟩ _ (.inl rfl))⟩
theorem ApE.append {w0 : World} {b : Nat} {lv wv sv : Value} {S : SiteS} {log waits : List TxM} {m : TxM} {sv' : Value} {wr wE : World} (h : ApE w0 b lv wv sv S log waits m sv' wr) (hm : WrIn w0 m.wa m.wc m.t.ws ∧ ∀ k, m.blk k → ¬ footS b lv wv sv k) {g cap9 : Nat} (gr : wr.grownBy wE lv.ownBlock)
    (ownE : wE.ownsRow 0 40 9 (.slice (some ⟨g, 0, none⟩) (log.length + 1) cap9) (log.length + 1) (txsC log ++ txC m)) (eg : lv.ownBlock = some g ∨ wr.heap.size ≤ g) :
    ∃ lv' sv2, SMem (wE.setCell ⟨b, 7, none⟩ (.slice (some ⟨g, 0, none⟩) (log.length + 1) cap9)) b lv' wv sv2 S (log ++ [m]) waits ∧ (∀ k, footS b lv' wv sv2 k → footS b lv wv sv k ∨ w0.heap.size ≤ k) ∧ Touch (footS b lv wv sv) w0 (wE.setCell ⟨b, 7, none⟩ (.slice (some ⟨g, 0, none⟩) (log.length + 1) cap9)) := by
  obtain ⟨h1, h2, h3⟩ := h.mem.append m ⟨hm.1.kept (fun k e => h.touch.block k (hm.1.blk_lt k e) (hm.2 k e)), fun k e hf => by
    rcases h.foot k hf with h1 | h1
    · exact hm.2 k e h1
    · have := hm.1.blk_lt k e
      omega⟩ gr ownE eg
  refine ⟨_, _, h1, fun k hk => ?_, h.touch.more h3 h.foot⟩
  rcases h2 k hk with h4 | h4
  · exact h.foot k h4
  · exact .inr (by have := h.touch.size; omega)

end Go.Proofs.YtknejedgddlabaaDoor

namespace Go.Proofs.YtknejedgddlabaaDoor
open Go.RowKit

/-- a thing in memory: what it is to be there, in blocks of G -/
structure Part where
  is : World → (Nat → Prop) → Prop
  lt : ∀ w G, is w G → ∀ k, G k → k < w.heap.size
  kept : ∀ w w' G, is w G → (∀ k, G k → w'.heap[k]? = w.heap[k]?) → w.heap.size ≤ w'.heap.size → is w' G
/-- what is left: another thing, in its blocks and new ones -/
def Left (p : Part) (w : World) (G : Nat → Prop) (w' : World) : Prop := ∃ G', p.is w' G' ∧ (∀ k, G' k → G k ∨ w.heap.size ≤ k) ∧ Touch G w w'
/-- what is left of two; Y: blocks that are new, and not the first one's -/
def Left2 (p q : Part) (w : World) (G H Y : Nat → Prop) (w' : World) : Prop := ∃ G' H', p.is w' G' ∧ q.is w' H' ∧ (∀ k, G' k → G k ∨ w.heap.size ≤ k) ∧ (∀ k, H' k → H k ∨ w.heap.size ≤ k) ∧ (∀ k, G' k → ¬ H' k) ∧ (∀ k, Y k → w.heap.size ≤ k ∧ k < w'.heap.size ∧ ¬ G' k) ∧ Touch (fun k => G k ∨ H k) w w'
def NoY : Nat → Prop := fun _ => False
/-- where they lie; X: blocks that are nobody's; Y: blocks that are nobody's but perhaps the o-th one's -/
structure AsideAt (w : World) (n : Nat) (ps : Nat → Part) (Gs : Nat → Nat → Prop) (X : Nat → Prop) (o : Nat) (Y : Nat → Prop) : Prop where
  is : ∀ i, i < n → (ps i).is w (Gs i)
  apart : ∀ i j k, i < n → j < n → i ≠ j → Gs i k → ¬ Gs j k
  free : ∀ k, X k → k < w.heap.size ∧ ∀ i, i < n → ¬ Gs i k
  half : ∀ k, Y k → k < w.heap.size ∧ ∀ i, i < n → i ≠ o → ¬ Gs i k
/-- several, apart -/
def Aside (w : World) (n : Nat) (ps : Nat → Part) (X : Nat → Prop) (o : Nat) (Y : Nat → Prop) : Prop := ∃ Gs, AsideAt w n ps Gs X o Y
section
variable {w w' : World} {n : Nat} {ps ps' : Nat → Part} {Gs : Nat → Nat → Prop} {X Y Y' : Nat → Prop} {o : Nat}
theorem Aside.later (h : Aside w n ps X o Y) (hb : Below w.heap.size w w') : Aside w' n ps X o Y := by
  obtain ⟨Gs, h⟩ := h
  exact ⟨Gs, fun i hi => (ps i).kept _ _ _ (h.is i hi) (fun k hk => hb.block k ((ps i).lt _ _ (h.is i hi) k hk)) hb.size, h.apart, fun k hk => ⟨Nat.lt_of_lt_of_le (h.free k hk).1 hb.size, (h.free k hk).2⟩, fun k hk => ⟨Nat.lt_of_lt_of_le (h.half k hk).1 hb.size, (h.half k hk).2⟩⟩
/-- fewer blocks that are nobody's, and none that are half so -/
theorem Aside.less {X' : Nat → Prop} {o' : Nat} (h : Aside w n ps X o Y) (hX : ∀ k, X' k → X k) : Aside w n ps X' o' NoY := by
  obtain ⟨Gs, h⟩ := h
  exact ⟨Gs, h.is, h.apart, fun k hk => h.free k (hX k hk), fun k hk => hk.elim⟩
/-- what is new is nobody's -/
theorem Aside.more (h : Aside w n ps X o Y) (hb : Below w.heap.size w w') : Aside w' n ps (fun k => X k ∨ (w.heap.size ≤ k ∧ k < w'.heap.size)) o Y := by
  obtain ⟨Gs, h⟩ := h
  refine ⟨Gs, fun i hi => (ps i).kept _ _ _ (h.is i hi) (fun k hk => hb.block k ((ps i).lt _ _ (h.is i hi) k hk)) hb.size, h.apart, fun k hk => ?_, fun k hk => ⟨Nat.lt_of_lt_of_le (h.half k hk).1 hb.size, (h.half k hk).2⟩⟩
  rcases hk with h1 | h1
  · exact ⟨Nat.lt_of_lt_of_le (h.free k h1).1 hb.size, (h.free k h1).2⟩
  · exact ⟨h1.2, fun i hi e => by have := (ps i).lt _ _ (h.is i hi) k e; omega⟩
theorem Aside.new (h : Aside w n ps X o Y) (x : Obj) : Aside (w.alloc x) n ps (fun k => X k ∨ k = w.heap.size) o Y := by
  obtain ⟨Gs, h⟩ := h.more (boxed (Below.refl _ w) x)
  exact ⟨Gs, h.is, h.apart, fun k hk => h.free k (by
    rcases hk with h1 | h1
    · exact .inl h1
    · exact .inr ⟨by omega, by simp; omega⟩), h.half⟩
/-- one of them changes -/
theorem AsideAt.step (h : AsideAt w n ps Gs X o Y) {i : Nat} (hi : i < n) {p : Part} (hl : Left p w (Gs i) w') (e1 : ps' i = p) (e2 : ∀ j, j < n → j ≠ i → ps' j = ps j) (ho : i ≠ o) : Aside w' n ps' X o Y ∧ Keeps (fun k => X k ∨ Y k) w w' := by
  obtain ⟨G', p1, p2, tt⟩ := hl
  refine ⟨⟨fun j => if j = i then G' else Gs j, fun j hj => ?_, fun a b k ha hb hab hk hk2 => ?_, fun k hk => ⟨Nat.lt_of_lt_of_le (h.free k hk).1 tt.size, fun j hj hg => ?_⟩, fun k hk => ⟨Nat.lt_of_lt_of_le (h.half k hk).1 tt.size, fun j hj hjo hg => ?_⟩⟩, tt.os, tt.tape, tt.output, tt.size, fun k hk => ?_⟩
  · by_cases hji : j = i
    · rw [if_pos hji, hji, e1]; exact p1
    · rw [if_neg hji, e2 j hj hji]
      refine (ps j).kept _ _ _ (h.is j hj) (fun k hk => tt.block k ((ps j).lt _ _ (h.is j hj) k hk) (fun e => h.apart j i k hj hi hji hk e)) tt.size
  · by_cases ga : a = i
    · rw [if_pos ga] at hk
      have gb : b ≠ i := fun e => hab (ga.trans e.symm)
      rw [if_neg gb] at hk2
      rcases p2 k hk with h1 | h1
      · exact h.apart i b k hi hb (Ne.symm gb) h1 hk2
      · have := (ps b).lt _ _ (h.is b hb) k hk2; omega
    · rw [if_neg ga] at hk
      by_cases gb : b = i
      · rw [if_pos gb] at hk2
        rcases p2 k hk2 with h1 | h1
        · exact h.apart a i k ha hi ga hk h1
        · have := (ps a).lt _ _ (h.is a ha) k hk; omega
      · rw [if_neg gb] at hk2
        exact h.apart a b k ha hb hab hk hk2
  · by_cases hji : j = i
    · rw [if_pos hji] at hg
      rcases p2 k hg with h1 | h1
      · exact (h.free k hk).2 i hi h1
      · have := (h.free k hk).1; omega
    · rw [if_neg hji] at hg
      exact (h.free k hk).2 j hj hg
  · by_cases hji : j = i
    · rw [if_pos hji] at hg
      rcases p2 k hg with h1 | h1
      · exact (h.half k hk).2 i hi ho h1
      · have := (h.half k hk).1; omega
    · rw [if_neg hji] at hg
      exact (h.half k hk).2 j hj hjo hg
  · rcases hk with h1 | h1
    · exact tt.block k (h.free k h1).1 (fun e => (h.free k h1).2 i hi e)
    · exact tt.block k (h.half k h1).1 (fun e => (h.half k h1).2 i hi ho e)
/-- two of them change; what is new may be the second one's -/
theorem AsideAt.step2 (h : AsideAt w n ps Gs X o NoY) {i j : Nat} (hi : i < n) (hj : j < n) {p q : Part} (hl : Left2 p q w (Gs i) (Gs j) Y' w') (e1 : ps' i = p) (e1' : ps' j = q) (e2 : ∀ m, m < n → m ≠ i → m ≠ j → ps' m = ps m) : Aside w' n ps' X j Y' ∧ Keeps X w w' := by
  obtain ⟨G', H', p1, q1, p2, q2, pq, hY, tt⟩ := hl
  refine ⟨⟨fun m => if m = i then G' else if m = j then H' else Gs m, fun m hm => ?_, fun a b k ha hb hab hk hk2 => ?_, fun k hk => ⟨Nat.lt_of_lt_of_le (h.free k hk).1 tt.size, fun m hm hg => ?_⟩, fun k hk => ⟨(hY k hk).2.1, fun m hm hmj hg => ?_⟩⟩, tt.os, tt.tape, tt.output, tt.size, fun k hk => ?_⟩
  · by_cases g1 : m = i
    · rw [if_pos g1, g1, e1]; exact p1
    · by_cases g2 : m = j
      · rw [if_neg g1, if_pos g2, g2, e1']; exact q1
      · rw [if_neg g1, if_neg g2, e2 m hm g1 g2]
        exact (ps m).kept _ _ _ (h.is m hm) (fun k hk => tt.block k ((ps m).lt _ _ (h.is m hm) k hk) (fun e => by
          rcases e with e | e
          · exact h.apart m i k hm hi g1 hk e
          · exact h.apart m j k hm hj g2 hk e)) tt.size
  · have old : ∀ m, m < n → m ≠ i → m ≠ j → Gs m k → ¬ G' k ∧ ¬ H' k := fun m hm g1 g2 hg => by
      have lt := (ps m).lt _ _ (h.is m hm) k hg
      constructor
      · intro e
        rcases p2 k e with h1 | h1
        · exact h.apart m i k hm hi g1 hg h1
        · omega
      · intro e
        rcases q2 k e with h1 | h1
        · exact h.apart m j k hm hj g2 hg h1
        · omega
    by_cases ai : a = i
    · rw [if_pos ai] at hk
      have bi : b ≠ i := fun e => hab (ai.trans e.symm)
      rw [if_neg bi] at hk2
      by_cases bj : b = j
      · rw [if_pos bj] at hk2
        exact pq k hk hk2
      · rw [if_neg bj] at hk2
        exact (old b hb bi bj hk2).1 hk
    · rw [if_neg ai] at hk
      by_cases aj : a = j
      · rw [if_pos aj] at hk
        have bj : b ≠ j := fun e => hab (aj.trans e.symm)
        by_cases bi : b = i
        · rw [if_pos bi] at hk2
          exact pq k hk2 hk
        · rw [if_neg bi, if_neg bj] at hk2
          exact (old b hb bi bj hk2).2 hk
      · rw [if_neg aj] at hk
        by_cases bi : b = i
        · rw [if_pos bi] at hk2
          exact (old a ha ai aj hk).1 hk2
        · rw [if_neg bi] at hk2
          by_cases bj : b = j
          · rw [if_pos bj] at hk2
            exact (old a ha ai aj hk).2 hk2
          · rw [if_neg bj] at hk2
            exact h.apart a b k ha hb hab hk hk2
  · have f := h.free k hk
    by_cases g1 : m = i
    · rw [if_pos g1] at hg
      rcases p2 k hg with h1 | h1
      · exact f.2 i hi h1
      · have := f.1; omega
    · rw [if_neg g1] at hg
      by_cases g2 : m = j
      · rw [if_pos g2] at hg
        rcases q2 k hg with h1 | h1
        · exact f.2 j hj h1
        · have := f.1; omega
      · rw [if_neg g2] at hg
        exact f.2 m hm hg
  · by_cases g1 : m = i
    · rw [if_pos g1] at hg
      exact (hY k hk).2.2 hg
    · rw [if_neg g1, if_neg hmj] at hg
      have := (ps m).lt _ _ (h.is m hm) k hg
      have := (hY k hk).1
      omega
  · exact tt.block k (h.free k hk).1 (fun e => by
      rcases e with e | e
      · exact (h.free k hk).2 i hi e
      · exact (h.free k hk).2 j hj e)
/-- two of them change, and what is half nobody's stays: it is another one's -/
theorem AsideAt.step2h (h : AsideAt w n ps Gs X o Y) {i j : Nat} (hi : i < n) (hj : j < n) (ho : o ≠ i) (ho2 : o ≠ j) {p q : Part} (hl : Left2 p q w (Gs i) (Gs j) NoY w') (e1 : ps' i = p) (e1' : ps' j = q) (e2 : ∀ m, m < n → m ≠ i → m ≠ j → ps' m = ps m) : Aside w' n ps' X o NoY ∧ Keeps (fun k => X k ∨ Y k) w w' := by
  obtain ⟨r1, r2⟩ := AsideAt.step2 (ps' := ps') ⟨h.is, h.apart, h.free, fun k hk => hk.elim⟩ hi hj hl e1 e1' e2 (o := o)
  obtain ⟨G', H', p1, q1, p2, q2, pq, hY, tt⟩ := hl
  refine ⟨r1.less (fun k hk => hk), r2.os, r2.tape, r2.output, r2.size, fun k hk => ?_⟩
  rcases hk with h1 | h1
  · exact r2.block k h1
  · exact tt.block k (h.half k h1).1 (fun e => by
      rcases e with e | e
      · exact (h.half k h1).2 i hi (Ne.symm ho) e
      · exact (h.half k h1).2 j hj (Ne.symm ho2) e)
end

end Go.Proofs.YtknejedgddlabaaDoor

namespace Go.Proofs.YtknejedgddlabaaDoor
open Go.RowKit

/-- of one number -/
def isNum (x t : TxP) : Bool := decide (x.site = t.site) && decide (x.seq = t.seq)
theorem isNum_iff {x t : TxP} : isNum x t = true ↔ x.site = t.site ∧ x.seq = t.seq := by simp [isNum]
/-- the first of a site that may be applied -/
def pickS (S : SiteS) (s : Int) : Option TxP := S.waits.find? (fun x => decide (x.site = s) && readyS S x)
/-- the next one -/
def nextS (S : SiteS) : Option TxP :=
  match pickS S 0 with
  | some x => some x
  | none => match pickS S 1 with
    | some x => some x
    | none => match pickS S 2 with
      | some x => some x
      | none => pickS S 3
/-- without those of a number -/
def dropW (l : List TxP) (t : TxP) : List TxP := l.filter (fun x => !isNum x t)
/-- one is applied, and waits no more -/
def goneS (S : SiteS) (x : TxP) : SiteS := applyS { S with waits := dropW S.waits x } x
/-- what comes of it -/
inductive Goes : SiteS → SiteS → Prop
  | full {S : SiteS} : 200 ≤ S.log.length → Goes S S
  | none {S : SiteS} : nextS S = none → Goes S S
  | step {S S' : SiteS} {x : TxP} : S.log.length < 200 → nextS S = some x → Goes (goneS S x) S' → Goes S S'
theorem Goes.det {S A B : SiteS} (h : Goes S A) : Goes S B → A = B := by
  induction h with
  | full h =>
    intro k
    cases k with
    | full _ => rfl
    | none _ => rfl
    | step h1 _ _ => omega
  | none h =>
    intro k
    cases k with
    | full _ => rfl
    | none _ => rfl
    | step _ h2 _ => rw [h] at h2; cases h2
  | step h1 h2 _ ih =>
    intro k
    cases k with
    | full h => omega
    | none h => rw [h2] at h; cases h
    | step _ h4 h5 =>
      rw [h2] at h4
      injection h4 with h4
      subst h4
      exact ih h5

theorem pickS_mem {S : SiteS} {s : Int} {x : TxP} (h : pickS S s = some x) : x ∈ S.waits ∧ x.site = s ∧ readyS S x = true := by
  have h1 := List.mem_of_find?_eq_some h
  have h2 := List.find?_some h
  simp at h2
  exact ⟨h1, h2.1, h2.2⟩
theorem nextS_mem {S : SiteS} {x : TxP} (h : nextS S = some x) : x ∈ S.waits ∧ readyS S x = true := by
  unfold nextS at h
  split at h
  · rename_i y hy; injection h with h; subst h; exact ⟨(pickS_mem hy).1, (pickS_mem hy).2.2⟩
  · split at h
    · rename_i y hy; injection h with h; subst h; exact ⟨(pickS_mem hy).1, (pickS_mem hy).2.2⟩
    · split at h
      · rename_i y hy; injection h with h; subst h; exact ⟨(pickS_mem hy).1, (pickS_mem hy).2.2⟩
      · exact ⟨(pickS_mem h).1, (pickS_mem h).2.2⟩
theorem pickS_none {S : SiteS} {s : Int} (h : pickS S s = none) : ∀ x ∈ S.waits, x.site = s → readyS S x = false := fun x hx hs => by
  have h1 := List.find?_eq_none.1 h x hx
  simp [hs] at h1
  exact h1
theorem pickS_none' {S : SiteS} {s : Int} (h : ∀ x ∈ S.waits, x.site = s → readyS S x = false) : pickS S s = none := by
  refine List.find?_eq_none.2 fun x hx => ?_
  by_cases e : x.site = s
  · simp [e, h x hx e]
  · simp [e]
/-- numbers are apart -/
def Nums (l : List TxP) : Prop := l.Pairwise (fun x y => isNum x y = false)
theorem Nums.uniq : ∀ {l : List TxP}, Nums l → ∀ {x y : TxP}, x ∈ l → y ∈ l → x.site = y.site → x.seq = y.seq → x = y
  | [], _, _, _, hx, _, _, _ => by cases hx
  | a :: l, h, x, y, hx, hy, e1, e2 => by
    obtain ⟨h1, h2⟩ := List.pairwise_cons.1 h
    rcases List.mem_cons.1 hx with ex | kx
    · rcases List.mem_cons.1 hy with ey | ky
      · rw [ex, ey]
      · have := h1 y ky
        rw [← ex] at this
        simp [isNum, e1, e2] at this
    · rcases List.mem_cons.1 hy with ey | ky
      · have := h1 x kx
        rw [← ey] at this
        simp [isNum, e1, e2] at this
      · exact Nums.uniq h2 kx ky e1 e2
theorem readyS_seq {S : SiteS} {x : TxP} (h : readyS S x = true) : x.seq = depOf x.site S.a0 S.a1 S.a2 S.a3 + 1 ∧ covB S.a0 S.a1 S.a2 S.a3 x.d0 x.d1 x.d2 x.d3 = true := by
  simpa [readyS] using h
/-- the one of a site that has the next number is the one that is picked -/
theorem pickS_some {S : SiteS} (hn : Nums S.waits) {x : TxP} (hx : x ∈ S.waits) (hr : readyS S x = true) : pickS S x.site = some x := by
  cases h : pickS S x.site with
  | none => rw [pickS_none h x hx rfl] at hr; cases hr
  | some y =>
    obtain ⟨h1, h2, h3⟩ := pickS_mem h
    have e := (readyS_seq hr).1
    have e' := (readyS_seq h3).1
    rw [h2] at e'
    rw [hn.uniq h1 hx h2 (by rw [e, e'])]
theorem Nums.drop {l : List TxP} (h : Nums l) (t : TxP) : Nums (dropW l t) := h.filter _
theorem Nums.snoc {l : List TxP} (h : Nums l) {t : TxP} (ht : ∀ x ∈ l, isNum x t = false) : Nums (l ++ [t]) := by
  refine List.pairwise_append.2 ⟨h, by simp, fun x hx y hy => ?_⟩
  obtain rfl := List.mem_singleton.1 hy
  exact ht x hx
theorem mem_dropW {l : List TxP} {t x : TxP} : x ∈ dropW l t ↔ x ∈ l ∧ isNum x t = false := by simp [dropW, List.mem_filter]
/-- that one alone is dropped -/
theorem dropW_at : ∀ {l : List TxP}, Nums l → ∀ {i : Nat} {t : TxP}, l[i]? = some t → dropW l t = l.take i ++ l.drop (i + 1)
  | [], _, _, _, h => by simp at h
  | a :: l, hn, 0, t, h => by
    simp at h
    subst h
    obtain ⟨h1, h2⟩ := List.pairwise_cons.1 hn
    have e : isNum a a = true := by simp [isNum]
    simp [dropW, e]
    intro x hx
    have h3 : isNum a x = false := h1 x hx
    cases h4 : isNum x a with
    | false => rfl
    | true =>
      obtain ⟨p, q⟩ := isNum_iff.1 h4
      simp [isNum, p, q] at h3
  | a :: l, hn, i + 1, t, h => by
    obtain ⟨h1, h2⟩ := List.pairwise_cons.1 hn
    have h' : l[i]? = some t := by simpa using h
    have e : isNum a t = false := h1 t (List.mem_of_getElem? h')
    have ih := dropW_at h2 h'
    unfold dropW at ih ⊢
    simp [e, ih]
theorem dropW_length {l : List TxP} (hn : Nums l) {t : TxP} (ht : t ∈ l) : (dropW l t).length + 1 = l.length := by
  obtain ⟨i, hi⟩ := List.getElem?_of_mem ht
  have hlt : i < l.length := (List.getElem?_eq_some_iff.1 hi).1
  rw [dropW_at hn hi]
  simp
  omega

end Go.Proofs.YtknejedgddlabaaDoor

namespace Go.Proofs.YtknejedgddlabaaDoor
open Go.RowKit Go.Maps

/-- an element reads as itself -/
def heldR (v : Value) : Option (DataW Value × List MemPlace) := some (.held v, [])
def txV (m : TxM) : Value := .agg #[.int .i64 m.t.site, .int .i64 m.t.seq, .int .i64 m.t.wall, .int .i64 m.t.count, .int .i64 m.t.d0, .int .i64 m.t.d1, .int .i64 m.t.d2, .int .i64 m.t.d3, .slice m.wa m.t.ws.length m.wc]
def txV0 : Value := .agg #[.int .i64 0, .int .i64 0, .int .i64 0, .int .i64 0, .int .i64 0, .int .i64 0, .int .i64 0, .int .i64 0, .slice none 0 0]
theorem tx_zero (w : World) : (zeroValue 40).run Tryd.prog w = .ok txV0 w := by kernel_rfl
theorem manyTypes : Tryd.prog.types.size = 231 := by kernel_rfl
theorem numLaw : Keyed Tryd.prog 183 := Keyed.of_law (deep_law_laid (m := 3) (by kernel_rfl) (by decide) (by rw [manyTypes]; decide) (by kernel_rfl) (by kernel_rfl))
/-- a number, as a key -/
def numV (s q : Int) : Value := .agg #[.int .i64 s, .int .i64 q]
def numL (s q : Int) : Lit := .string (keyBytes [.int .i64 s, .int .i64 q])
def wfI (x : Int) : Prop := -9223372036854775808 ≤ x ∧ x ≤ 9223372036854775807
theorem wf_i {x : Int} (h : wfI x) : (Lit.int .i64 x).wf = true := WalkArith.wf_i64 h
theorem lits_int {x : Int} (hx : wfI x) (n : Nat) : Tryd.prog.keyLits (n + 1) 3 [.int .i64 x] = some [.int .i64 x] := by
  unfold Program.keyLits
  rw [Tryd.underlying3]
  simp [wf_i hx]
theorem lits_num {s q : Int} (hs : wfI s) (hq : wfI q) (n : Nat) : Tryd.prog.keyLits (n + 1 + 1) 183 [.int .i64 s, .int .i64 q] = some [.int .i64 s, .int .i64 q] := by
  have e3 : Tryd.prog.cellsOf 183 = 2 := by kernel_rfl
  have e4 : Tryd.prog.cellsOf 3 = 1 := by kernel_rfl
  unfold Program.keyLits
  rw [Tryd.underlying183]
  simp [e3, e4, lits_int hs n, lits_int hq n]
theorem numKey {s q : Int} (hs : wfI s) (hq : wfI q) : keyOf Tryd.prog 183 (numV s q) = some (numL s q) := by
  have e2 : Tryd.prog.keyType 183 = true := by kernel_rfl
  have e3 : Tryd.prog.cellsOf 183 = 2 := by kernel_rfl
  have e5 : (numV s q).formed Tryd.prog 183 = true := by
    unfold Value.formed numV
    simp only [Tryd.underlying183]
    rw [e3]
    rfl
  have e6 := lits_num hs hq (231 - 1)
  unfold keyOf
  rw [Tryd.underlying183, e2, e5, manyTypes]
  show (if (true && true) = true then Option.map _ (Tryd.prog.keyLits (231 - 1 + 1 + 1) 183 [.int .i64 s, .int .i64 q]) else none) = _
  rw [e6]
  rfl
theorem num_inj {s q s' q' : Int} (hs : wfI s) (hq : wfI q) (hs' : wfI s') (hq' : wfI q') (h : numL s q = numL s' q') : s = s' ∧ q = q' := by
  have h1 := numLaw.inj (numKey hs hq) (by rw [h]; exact numKey hs' hq')
  simp [numV] at h1
  exact h1
theorem num_key (s q : Int) : WideAt.IsKeyLit (numL s q) := trivial

/-- the map's datum holds just these -/
structure MapIs (D : DataW Value) (ws : List TxM) : Prop where
  size : Maps.size D = ws.length
  has : ∀ m ∈ ws, Maps.has D (numL m.t.site m.t.seq) = true ∧ ∀ z, D.atKey (numL m.t.site m.t.seq) z = .held (txV m)
  no : ∀ s q, wfI s → wfI q → (∀ m ∈ ws, ¬ (m.t.site = s ∧ m.t.seq = q)) → Maps.has D (numL s q) = false
def wfN (m : TxM) : Prop := wfI m.t.site ∧ wfI m.t.seq
/-- the block of a map that holds these -/
def PMap (w : World) (bm : Nat) (ws : List TxM) : Prop := (∀ m ∈ ws, wfN m) ∧ Nums (ws.map (·.t)) ∧ ∃ D, w.ownsMap Tryd.prog 183 heldR bm ws.length D ∧ MapIs D ws
theorem PMap.lt {w : World} {bm : Nat} {ws : List TxM} (h : PMap w bm ws) : bm < w.heap.size := by
  obtain ⟨_, _, D, h, _⟩ := h
  exact h.lt
theorem PMap.kept {w w' : World} {bm : Nat} {ws : List TxM} (h : PMap w bm ws) (e : w'.heap[bm]? = w.heap[bm]?) : PMap w' bm ws := by
  obtain ⟨h1, h2, D, ⟨es, clock, hb, r⟩, h4⟩ := h
  exact ⟨h1, h2, D, ⟨es, clock, by rw [e]; exact hb, r⟩, h4⟩
theorem PMap.made (w : World) : PMap (w.alloc (.map #[] 0)) w.heap.size [] :=
  ⟨by simp, by simp [Nums], _, World.ownsMap_made w _ _ _, ⟨rfl, by simp, fun _ _ _ _ _ => rfl⟩⟩
theorem mapIs_put {D : DataW Value} {ws : List TxM} (hD : Tidy D) (h : MapIs D ws) (hw : ∀ m ∈ ws, wfN m) {m : TxM} (hm : wfN m) (hn : ∀ x ∈ ws, isNum x.t m.t = false) : MapIs (D.put (numL m.t.site m.t.seq) (.held (txV m))) (ws ++ [m]) := by
  have hno : Maps.has D (numL m.t.site m.t.seq) = false := h.no _ _ hm.1 hm.2 (fun x hx e => by
    have := hn x hx
    simp [isNum, e.1, e.2] at this)
  refine ⟨by rw [size_put hD, hno]; simp [h.size], fun x hx => ?_, fun s q hs hq hx => ?_⟩
  · rcases List.mem_append.1 hx with hx | hx
    · have hne : numL x.t.site x.t.seq ≠ numL m.t.site m.t.seq := fun e => by
        obtain ⟨e1, e2⟩ := num_inj (hw x hx).1 (hw x hx).2 hm.1 hm.2 e
        have := hn x hx
        simp [isNum, e1, e2] at this
      exact ⟨by rw [has_put_other hne]; exact (h.has x hx).1, fun z => by rw [atKey_put_other hne]; exact (h.has x hx).2 z⟩
    · obtain rfl := List.mem_singleton.1 hx
      exact ⟨has_put_same hD.isMap (num_key _ _) _, fun z => atKey_put_same hD.isMap (num_key _ _) _ z⟩
  · have hne : numL s q ≠ numL m.t.site m.t.seq := fun e => by
      obtain ⟨e1, e2⟩ := num_inj hs hq hm.1 hm.2 e
      exact hx m (by simp) ⟨e1.symm, e2.symm⟩
    rw [has_put_other hne]
    exact h.no s q hs hq (fun x h1 => hx x (by simp [h1]))
/-- without those of a number -/
def dropM (l : List TxM) (t : TxP) : List TxM := l.filter (fun x => !isNum x.t t)
theorem dropM_map (l : List TxM) (t : TxP) : (dropM l t).map (·.t) = dropW (l.map (·.t)) t := by
  unfold dropM dropW
  rw [List.filter_map]
  rfl
theorem mem_dropM {l : List TxM} {t : TxP} {x : TxM} : x ∈ dropM l t ↔ x ∈ l ∧ isNum x.t t = false := by simp [dropM, List.mem_filter]
theorem dropM_length {l : List TxM} (hn : Nums (l.map (·.t))) {m : TxM} (hm : m ∈ l) : (dropM l m.t).length + 1 = l.length := by
  have h := dropW_length hn (t := m.t) (List.mem_map.2 ⟨m, hm, rfl⟩)
  rw [← dropM_map] at h
  simpa using h
theorem mapIs_del {D : DataW Value} {ws : List TxM} (hD : Tidy D) (h : MapIs D ws) (hw : ∀ m ∈ ws, wfN m) (hn : Nums (ws.map (·.t))) {m : TxM} (hm : m ∈ ws) : MapIs (D.del (numL m.t.site m.t.seq)) (dropM ws m.t) := by
  have hl := dropM_length hn hm
  have hs := size_del (k := numL m.t.site m.t.seq) hD
  rw [(h.has m hm).1, h.size] at hs
  refine ⟨by simp at hs; omega, fun x hx => ?_, fun s q h1 h2 hx => ?_⟩
  · obtain ⟨hx, hne⟩ := mem_dropM.1 hx
    have hne : numL x.t.site x.t.seq ≠ numL m.t.site m.t.seq := fun e => by
      obtain ⟨e1, e2⟩ := num_inj (hw x hx).1 (hw x hx).2 (hw m hm).1 (hw m hm).2 e
      simp [isNum, e1, e2] at hne
    exact ⟨by rw [has_del_other hne]; exact (h.has x hx).1, fun z => by rw [atKey_del_other hne]; exact (h.has x hx).2 z⟩
  · by_cases e : numL s q = numL m.t.site m.t.seq
    · rw [e]
      exact has_del_same
    · rw [has_del_other e]
      refine h.no s q h1 h2 (fun x h3 h4 => ?_)
      refine hx x (mem_dropM.2 ⟨h3, ?_⟩) h4
      cases hi : isNum x.t m.t with
      | false => rfl
      | true =>
        obtain ⟨p1, p2⟩ := isNum_iff.1 hi
        exact absurd (by rw [← h4.1, ← h4.2, p1, p2]) e

end Go.Proofs.YtknejedgddlabaaDoor

namespace Go.Proofs.YtknejedgddlabaaDoor
open Go.RowKit

def okT (t : TxP) : Bool := okTx t.site t.seq t.wall t.count t.d0 t.d1 t.d2 t.d3 t.ws
theorem okT_parts {t : TxP} (h : okT t = true) : (0 ≤ t.site ∧ t.site ≤ 3) ∧ (1 ≤ t.seq ∧ t.seq ≤ 1099511627776) ∧ 1 ≤ t.ws.length ∧ t.ws.length ≤ 5 := by
  simp only [okT, okTx, Bool.and_eq_true, inB_iff, okWs] at h
  refine ⟨h.1.1.1.1.1, h.1.1.1.1.2, ?_⟩
  have := h.2.2
  omega
/-- a number of a vector -/
def small (x : Int) : Prop := 0 ≤ x ∧ x ≤ 1099511627776
structure InvS (S : SiteS) : Prop where
  id0 : 0 ≤ S.id
  id3 : S.id ≤ 3
  nums : Nums S.waits
  wt : ∀ x ∈ S.waits, okT x = true ∧ x.site ≠ S.id
  a0 : small S.a0
  a1 : small S.a1
  a2 : small S.a2
  a3 : small S.a3
  own : depOf S.id S.a0 S.a1 S.a2 S.a3 ≤ S.log.length
  log : S.log.length ≤ 200
  lsite : ∀ x ∈ S.log, (0 ≤ x.site ∧ x.site ≤ 3) ∧ 1 ≤ x.ws.length ∧ x.ws.length ≤ 5
  len : S.l.length ≤ 5 * S.log.length
  apart : Apart S.l
  ok : ∀ h ∈ S.l, okVer h.v = true
theorem InvS.dep {S : SiteS} (h : InvS S) (s : Int) : small (depOf s S.a0 S.a1 S.a2 S.a3) := by
  unfold depOf
  split
  · exact h.a0
  · split
    · exact h.a1
    · split
      · exact h.a2
      · exact h.a3
theorem putL_ok {l : List Hd} {key : Int} {v : Ver} (h : ∀ x ∈ l, okVer x.v = true) : ∀ x ∈ putL l key v, okVer x.v = true := by
  unfold putL
  split
  · rename_i e
    intro x hx
    rcases List.mem_append.1 hx with h1 | h1
    · exact h x h1
    · obtain rfl := List.mem_singleton.1 h1
      unfold putE at e
      split at e
      · split at e
        · rename_i h2
          exact h2
        · cases e
      · cases e
  · exact h
theorem putsT_inv (t : TxP) : ∀ (ws : List Wr) (l : List Hd), Apart l → (∀ x ∈ l, okVer x.v = true) → Apart (putsT t ws l) ∧ ∀ x ∈ putsT t ws l, okVer x.v = true
  | [], _, h1, h2 => ⟨h1, h2⟩
  | x :: ws, l, h1, h2 => putsT_inv t ws (putL l x.key (verOf t x)) (apart_put h1) (putL_ok h2)
theorem setV_dep {S : SiteS} (t : TxP) (s : Int) (h0 : 0 ≤ s) (h3 : s ≤ 3) : depOf s (applyS S t).a0 (applyS S t).a1 (applyS S t).a2 (applyS S t).a3 = if s = t.site then t.seq else depOf s S.a0 S.a1 S.a2 S.a3 := by
  have hc : s = 0 ∨ s = 1 ∨ s = 2 ∨ s = 3 := by omega
  rcases hc with rfl | rfl | rfl | rfl <;> simp [applyS, depOf, setV0, setV1, setV2, setV3, eq_comm]
theorem InvS.applied {S : SiteS} (h : InvS S) {t : TxP} (hs : 0 ≤ t.site ∧ t.site ≤ 3) (hq : small t.seq) (hw : 1 ≤ t.ws.length ∧ t.ws.length ≤ 5) (ho : t.site = S.id → t.seq ≤ S.log.length + 1) (hl : S.log.length < 200) : InvS (applyS S t) := by
  have hp := putsT_inv t t.ws S.l h.apart h.ok
  refine ⟨h.id0, h.id3, h.nums, h.wt, ?_, ?_, ?_, ?_, ?_, ?_, ?_, ?_, hp.1, hp.2⟩
  · show small (setV0 _ _ _); unfold setV0; split; exact hq; exact h.a0
  · show small (setV1 _ _ _); unfold setV1; split; exact hq; exact h.a1
  · show small (setV2 _ _ _); unfold setV2; split; exact hq; exact h.a2
  · show small (setV3 _ _ _); unfold setV3; split; exact hq; exact h.a3
  · show depOf S.id _ _ _ _ ≤ _
    rw [setV_dep t S.id h.id0 h.id3]
    have := h.own
    split
    · rename_i e
      have := ho e.symm
      simp [applyS]
      omega
    · simp [applyS]
      omega
  · simp [applyS]; omega
  · intro x hx
    rcases List.mem_append.1 (show x ∈ S.log ++ [t] from hx) with h1 | h1
    · exact h.lsite x h1
    · obtain rfl := List.mem_singleton.1 h1
      exact ⟨hs, hw⟩
  · have := putsT_length t t.ws S.l
    have := h.len
    simp [applyS]
    omega
theorem InvS.drop {S : SiteS} (h : InvS S) (t : TxP) : InvS { S with waits := dropW S.waits t } :=
  ⟨h.id0, h.id3, h.nums.drop t, fun x hx => h.wt x (mem_dropW.1 hx).1, h.a0, h.a1, h.a2, h.a3, h.own, h.log, h.lsite, h.len, h.apart, h.ok⟩
theorem InvS.wait {S : SiteS} (h : InvS S) {t : TxP} (ht : okT t = true) (hid : t.site ≠ S.id) (hn : ∀ x ∈ S.waits, isNum x t = false) : InvS { S with waits := S.waits ++ [t] } :=
  ⟨h.id0, h.id3, h.nums.snoc hn, fun x hx => by
    rcases List.mem_append.1 hx with h1 | h1
    · exact h.wt x h1
    · obtain rfl := List.mem_singleton.1 h1
      exact ⟨ht, hid⟩, h.a0, h.a1, h.a2, h.a3, h.own, h.log, h.lsite, h.len, h.apart, h.ok⟩
theorem InvS.gone {S : SiteS} (h : InvS S) {x : TxP} (hx : x ∈ S.waits) (hl : S.log.length < 200) : InvS (goneS S x) := by
  obtain ⟨h1, h2⟩ := h.wt x hx
  obtain ⟨p1, p2, p3⟩ := okT_parts h1
  exact (h.drop x).applied p1 ⟨by omega, p2.2⟩ p3 (fun e => absurd e h2) hl
theorem Goes.inv {S S' : SiteS} (h : Goes S S') : InvS S → InvS S' := by
  induction h with
  | full _ => exact id
  | none _ => exact id
  | step h1 h2 _ ih => exact fun k => ih (k.gone (nextS_mem h2).1 h1)
theorem InvS.swept {S : SiteS} (h : InvS S) (x0 x1 x2 x3 : Int) : InvS { S with l := sweepL x0 x1 x2 x3 S.l } :=
  ⟨h.id0, h.id3, h.nums, h.wt, h.a0, h.a1, h.a2, h.a3, h.own, h.log, h.lsite, Nat.le_trans sweepL_length h.len, apart_sweep h.apart, fun x hx => h.ok x (List.mem_filter.1 hx).1⟩
theorem InvS.knows {S : SiteS} (h : InvS S) (f : Nat → Int) : InvS { S with oth := f } :=
  ⟨h.id0, h.id3, h.nums, h.wt, h.a0, h.a1, h.a2, h.a3, h.own, h.log, h.lsite, h.len, h.apart, h.ok⟩
/-- a site that has nothing -/
def newS (id : Int) : SiteS := ⟨id, 0, 0, 0, 0, 0, 0, [], [], [], fun _ => 0⟩
theorem depOf_zero (s : Int) : depOf s 0 0 0 0 = 0 := by
  unfold depOf
  split
  · rfl
  · split
    · rfl
    · split <;> rfl
theorem small_zero : small 0 := ⟨by omega, by omega⟩
theorem InvS.new {id : Int} (h0 : 0 ≤ id) (h3 : id ≤ 3) : InvS (newS id) :=
  ⟨h0, h3, by simp [newS, Nums], by simp [newS], small_zero, small_zero, small_zero, small_zero, by show depOf id 0 0 0 0 ≤ _; rw [depOf_zero]; simp, by simp [newS], by simp [newS], by simp [newS], fun x hx => by simp [newS] at hx, by simp [newS]⟩

end Go.Proofs.YtknejedgddlabaaDoor

namespace Go.Proofs.YtknejedgddlabaaDoor
open Go.RowKit

theorem txsC_at : ∀ (l : List TxM) (i : Nat) (m : TxM) (r : Nat) (u : Value), l[i]? = some m → (txC m)[r]? = some u → (txsC l)[i * 9 + r]? = some u
  | [], _, _, _, _, h, _ => by simp at h
  | x :: l, 0, m, r, u, h, hu => by
    obtain rfl : x = m := by simpa using h
    have hr : r < (txC x).length := (List.getElem?_eq_some_iff.1 hu).1
    show (txC x ++ txsC l)[0 * 9 + r]? = some u
    rw [Nat.zero_mul, Nat.zero_add, List.getElem?_append_left hr]
    exact hu
  | x :: l, i + 1, m, r, u, h, hu => by
    have ih := txsC_at l i m r u (by simpa using h) hu
    show (txC x ++ txsC l)[(i + 1) * 9 + r]? = some u
    have e : (i + 1) * 9 + r = (txC x).length + (i * 9 + r) := by simp [txC]; omega
    rw [e, List.getElem?_append_right (by omega), Nat.add_sub_cancel_left]
    exact ih
/-- a slice that holds transactions: none, or its cells lie in one block -/
structure TxsIn (w : World) (a : Option Addr) (cap : Nat) (l : List TxM) : Prop where
  len : l.length ≤ cap
  cap : cap ≤ 9223372036854775807
  held : l = [] ∨ ∃ b off, a = some ⟨b, off, none⟩ ∧ ∀ i m r u, l[i]? = some m → (txC m)[r]? = some u → w.cell? ⟨b, off + (i * 9 + r), none⟩ = some u
theorem TxsIn.later {w w' : World} {a : Option Addr} {cap : Nat} {l : List TxM} (hb : Below w.heap.size w w') (h : TxsIn w a cap l) : TxsIn w' a cap l :=
  ⟨h.len, h.cap, h.held.elim .inl fun ⟨b, off, e, c⟩ => .inr ⟨b, off, e, fun i m r u hi hu => cell_later hb (c i m r u hi hu)⟩⟩
theorem txsIn_own {w : World} {B : Nat} {T : TypeId} {v : Value} {l : List TxM} (h : w.ownsRow B T 9 v l.length (txsC l)) : ∃ a cap, v = .slice a l.length cap ∧ TxsIn w a cap l := by
  rcases h.2 with ⟨rfl, h0⟩ | ⟨g, cap, cur, rfl, hb, hg, hnc, hm, hs, ht⟩
  · exact ⟨none, 0, by rw [h0], ⟨by omega, by omega, .inl (List.eq_nil_of_length_eq_zero h0)⟩⟩
  · refine ⟨_, cap, rfl, ⟨hnc, by simp only [maxLen] at hm; omega, .inr ⟨g, 0, rfl, fun i m r u hi hu => ?_⟩⟩⟩
    have hc := h.cells (g := g) rfl _ _ (txsC_at l i m r u hi hu)
    rw [addr_add] at hc
    rw [Nat.zero_add]
    exact hc

/-- it lacks it -/
def missB (h0 h1 h2 h3 : Int) (m : TxM) : Bool := decide (depOf m.t.site h0 h1 h2 h3 < m.t.seq)

end Go.Proofs.YtknejedgddlabaaDoor

namespace Go.Proofs.YtknejedgddlabaaDoor
open Go.RowKit

/-- the next stamp, and the error -/
def nextP (lw lc now : Int) : Int × Int × Int :=
  if (timeB lw && timeB lc) = false then (0, 0, 2) else if timeB now = false then (0, 0, 2) else if lw < now then (now, 0, 0) else if 1099511627776 < lc + 1 then (0, 0, 12) else (lw, lc + 1, 0)
/-- what a commit answers: the error -/
def commitE (S : SiteS) (n : Nat) (now d0 d1 d2 d3 : Int) (ws : List Wr) : Int :=
  if okWs ws = false then 1 else if timesB d0 d1 d2 d3 = false then 10 else if covB S.a0 S.a1 S.a2 S.a3 d0 d1 d2 d3 = false then 10 else if 200 ≤ n then 12 else (nextP S.lw S.lc now).2.2
/-- and the transaction -/
def commitT (S : SiteS) (now d0 d1 d2 d3 : Int) (ws : List Wr) : TxP :=
  ⟨S.id, depOf S.id S.a0 S.a1 S.a2 S.a3 + 1, (nextP S.lw S.lc now).1, (nextP S.lw S.lc now).2.1, setV0 S.id (depOf S.id S.a0 S.a1 S.a2 S.a3) d0, setV1 S.id (depOf S.id S.a0 S.a1 S.a2 S.a3) d1, setV2 S.id (depOf S.id S.a0 S.a1 S.a2 S.a3) d2, setV3 S.id (depOf S.id S.a0 S.a1 S.a2 S.a3) d3, ws⟩

def txZ : List Value := [.int .i64 0, .int .i64 0, .int .i64 0, .int .i64 0, .int .i64 0, .int .i64 0, .int .i64 0, .int .i64 0, .slice none 0 0]
abbrev setTx (w : World) (b : Nat) (x0 x1 x2 x3 x4 x5 x6 x7 : Int) (v : Value) : World :=
  ((((((((w.setCell ⟨b, 0, none⟩ (.int .i64 x0)).setCell ⟨b, 1, none⟩ (.int .i64 x1)).setCell ⟨b, 2, none⟩ (.int .i64 x2)).setCell ⟨b, 3, none⟩ (.int .i64 x3)).setCell ⟨b, 4, none⟩ (.int .i64 x4)).setCell ⟨b, 5, none⟩ (.int .i64 x5)).setCell ⟨b, 6, none⟩ (.int .i64 x6)).setCell ⟨b, 7, none⟩ (.int .i64 x7)).setCell ⟨b, 8, none⟩ v
theorem tx_far {w W : World} {b : Nat} (h : Below w.heap.size w W) (hB : w.heap.size ≤ b) (x0 x1 x2 x3 x4 x5 x6 x7 : Int) (v : Value) : Below w.heap.size w (setTx W b x0 x1 x2 x3 x4 x5 x6 x7 v) :=
  ((((((((h.setCell hB _).setCell hB _).setCell hB _).setCell hB _).setCell hB _).setCell hB _).setCell hB _).setCell hB _).setCell hB _
theorem tx_set {W : World} {b : Nat} {xs : List Value} (h : RowL W b xs) (hx : xs.length = 9) (x0 x1 x2 x3 x4 x5 x6 x7 : Int) (v : Value) : RowL (setTx W b x0 x1 x2 x3 x4 x5 x6 x7 v) b [.int .i64 x0, .int .i64 x1, .int .i64 x2, .int .i64 x3, .int .i64 x4, .int .i64 x5, .int .i64 x6, .int .i64 x7, v] := by
  match xs, hx with
  | [_, _, _, _, _, _, _, _, _], _ => exact ((((((((h.set 0 _ (by simp)).set 1 _ (by simp)).set 2 _ (by simp)).set 3 _ (by simp)).set 4 _ (by simp)).set 5 _ (by simp)).set 6 _ (by simp)).set 7 _ (by simp)).set 8 _ (by simp)
theorem vec_free {w : World} {b : Nat} {a0 a1 a2 a3 s : Int} (h : Row4 w b a0 a1 a2 a3) (h0 : 0 ≤ s) (h3 : s ≤ 3) : w.frozen? ⟨b, s.toNat, none⟩ = false := by
  have hc : s = 0 ∨ s = 1 ∨ s = 2 ∨ s = 3 := by omega
  rcases hc with rfl | rfl | rfl | rfl
  · exact h.f0
  · exact h.f1
  · exact h.f2
  · exact h.f3
theorem vec_set {w : World} {b : Nat} {a0 a1 a2 a3 s : Int} (h : Row4 w b a0 a1 a2 a3) (h0 : 0 ≤ s) (h3 : s ≤ 3) (x : Int) : Row4 (w.setCell ⟨b, s.toNat, none⟩ (.int .i64 x)) b (setV0 s x a0) (setV1 s x a1) (setV2 s x a2) (setV3 s x a3) := by
  have hc : s = 0 ∨ s = 1 ∨ s = 2 ∨ s = 3 := by omega
  rcases hc with rfl | rfl | rfl | rfl
  · exact h.set0 x
  · exact h.set1 x
  · exact h.set2 x
  · exact h.set3 x
theorem site_at {w : World} {b : Nat} {S : SiteS} {lv wv sv : Value} {s : Int} (h : RowL w b (siteC S lv wv sv)) (h0 : 0 ≤ s) (h3 : s ≤ 3) : w.cell? ⟨b, 1 + s.toNat, none⟩ = some (.int .i64 (depOf s S.a0 S.a1 S.a2 S.a3)) := by
  have hc : s = 0 ∨ s = 1 ∨ s = 2 ∨ s = 3 := by omega
  rcases hc with rfl | rfl | rfl | rfl
  · exact h.cell 1 _ rfl
  · exact h.cell 2 _ rfl
  · exact h.cell 3 _ rfl
  · exact h.cell 4 _ rfl

end Go.Proofs.YtknejedgddlabaaDoor

namespace Go.Proofs.YtknejedgddlabaaDoor
open Go.RowKit

theorem commitE_zero {S : SiteS} {n : Nat} {now d0 d1 d2 d3 : Int} {ws : List Wr} (h : commitE S n now d0 d1 d2 d3 ws = 0) : okWs ws = true ∧ timesB d0 d1 d2 d3 = true ∧ covB S.a0 S.a1 S.a2 S.a3 d0 d1 d2 d3 = true ∧ ¬ 200 ≤ n ∧ (nextP S.lw S.lc now).2.2 = 0 := by
  unfold commitE at h
  cases h1 : okWs ws
  · rw [if_pos h1] at h; cases h
  · rw [if_neg (by rw [h1]; decide)] at h
    cases h2 : timesB d0 d1 d2 d3
    · rw [if_pos h2] at h; cases h
    · rw [if_neg (by rw [h2]; decide)] at h
      cases h3 : covB S.a0 S.a1 S.a2 S.a3 d0 d1 d2 d3
      · rw [if_pos h3] at h; cases h
      · rw [if_neg (by rw [h3]; decide)] at h
        by_cases h4 : 200 ≤ n
        · rw [if_pos h4] at h; cases h
        · rw [if_neg h4] at h
          exact ⟨rfl, rfl, rfl, h4, h⟩

theorem news_wr {w : World} {b off : Nat} {l : List Wr} (h : WrCells w b off l) : ∀ j u, (wrsC l)[j]? = some u → w.cell? ((⟨b, off, none⟩ : Addr).add j) = some u := fun j u hu => by
  have hadd : (⟨b, off, none⟩ : Addr).add j = ⟨b, off + j, none⟩ := by unfold Addr.add; split <;> simp_all
  have hj : j < l.length * 3 := by
    have := (List.getElem?_eq_some_iff.1 hu).1
    rw [wrsC_length] at this
    exact this
  have hi : j / 3 < l.length := by omega
  obtain ⟨a0, a1, a2⟩ := wrsC_at l (j / 3) hi
  obtain ⟨c0, c1, c2⟩ := h (j / 3) hi
  rw [hadd]
  have hr : j = j / 3 * 3 ∨ j = j / 3 * 3 + 1 ∨ j = j / 3 * 3 + 2 := by omega
  rcases hr with e | e | e
  · rw [← e] at a0 c0
    rw [a0] at hu
    injection hu with hu
    rw [← hu]
    exact c0
  · rw [← e] at a1
    rw [Nat.add_assoc, ← e] at c1
    rw [a1] at hu
    injection hu with hu
    rw [← hu]
    exact c1
  · rw [show j / 3 * 3 + 1 + 1 = j / 3 * 3 + 2 from rfl, ← e] at a2
    rw [show off + j / 3 * 3 + 1 + 1 = off + (j / 3 * 3 + 2) by omega, ← e] at c2
    rw [a2] at hu
    injection hu with hu
    rw [← hu]
    exact c2
theorem wrsC_one (l : List Wr) : ∀ u ∈ wrsC l, u.oneCell' = true := by
  intro u hu
  obtain ⟨x, _, hx⟩ := List.mem_flatMap.1 hu
  simp [wrC] at hx
  rcases hx with rfl | rfl | rfl <;> rfl
theorem wrInfo : (Tryd.prog.info? 115).map (fun i => (i.zero, i.size, i.bytes)) = some (some (.agg #[.int .i64 0, .string ⟨#[]⟩, .bool false]), 3, 32) := by kernel_rfl
theorem own_none (w : World) {n : Nat} (T : TypeId) (hn : w.heap.size = n) (B : Nat) (hB : B ≤ n) : (w.alloc (.cells #[] T)).ownsRow B T 3 (.slice (some ⟨n, 0, none⟩) 0 0) 0 [] := by
  subst hn
  exact ⟨rfl, .inr ⟨w.heap.size, 0, #[], rfl, hB, heap_alloc_new w (.cells #[] T), Nat.le_refl _, by decide, rfl, rfl⟩⟩

end Go.Proofs.YtknejedgddlabaaDoor

namespace Go.Proofs.YtknejedgddlabaaDoor
open Go.RowKit

theorem txsC_length (l : List TxM) : (txsC l).length = l.length * 9 := by
  induction l with
  | nil => rfl
  | cons x l ih =>
    show (txC x ++ txsC l).length = _
    rw [List.length_append, ih]
    simp [txC]
    omega
theorem txsC_one (l : List TxM) : ∀ u ∈ txsC l, u.oneCell' = true := by
  intro u hu
  obtain ⟨x, _, hx⟩ := List.mem_flatMap.1 hu
  exact txC_one x u hx
theorem txsC_inv : ∀ (l : List TxM) (j : Nat) (u : Value), (txsC l)[j]? = some u → ∃ m, l[j / 9]? = some m ∧ (txC m)[j % 9]? = some u
  | [], j, u, h => by simp [txsC] at h
  | x :: l, j, u, h => by
    have e : txsC (x :: l) = txC x ++ txsC l := rfl
    rw [e] at h
    have hx : (txC x).length = 9 := rfl
    by_cases hj : j < 9
    · rw [List.getElem?_append_left (by rw [hx]; exact hj)] at h
      exact ⟨x, by rw [Nat.div_eq_of_lt hj]; rfl, by rw [Nat.mod_eq_of_lt hj]; exact h⟩
    · rw [List.getElem?_append_right (by rw [hx]; omega), hx] at h
      obtain ⟨m, h1, h2⟩ := txsC_inv l (j - 9) u h
      refine ⟨m, ?_, ?_⟩
      · rw [show j / 9 = (j - 9) / 9 + 1 by omega]
        simpa using h1
      · rw [show j % 9 = (j - 9) % 9 by omega]
        exact h2
/-- the source's cells -/
theorem txs_news {w : World} {wb off : Nat} {l : List TxM} (h : ∀ i m r u, l[i]? = some m → (txC m)[r]? = some u → w.cell? ⟨wb, off + (i * 9 + r), none⟩ = some u) : ∀ j u, (txsC l)[j]? = some u → w.cell? ((⟨wb, off, none⟩ : Addr).add j) = some u := fun j u hu => by
  obtain ⟨m, h1, h2⟩ := txsC_inv l j u hu
  have hadd : (⟨wb, off, none⟩ : Addr).add j = ⟨wb, off + j, none⟩ := by unfold Addr.add; split <;> simp_all
  rw [hadd]
  have := h (j / 9) m (j % 9) u h1 h2
  rw [show j / 9 * 9 + j % 9 = j by omega] at this
  exact this

/-- of a nil source nothing comes -/
theorem run_append_none (w : World) (ty : TypeId) (g n cap c : Nat) (hc : n ≤ cap) : (Builtin.append_ #[98, 98] ty #[.slice (some ⟨g, 0, none⟩) n cap, .slice none 0 c]).run Tryd.prog w = .ok (.slice (some ⟨g, 0, none⟩) n cap) w := by
  simp [Builtin.append_, go_sem, Builtin.lenOf, Builtin.firstCells, hc]

/-- behind a row that is no nil one -/
theorem run_append_txs (w : World) (ty : TypeId) {g n cap : Nat} {xs : List Value} (hown : w.ownsRow 0 40 9 (.slice (some ⟨g, 0, none⟩) n cap) n xs) {a : Option Addr} {c : Nat} {l : List TxM} (hT : TxsIn w a c l) (hl : n + l.length ≤ 2000) :
    ∃ g' cap' w', (Builtin.append_ #[98, 98] ty #[.slice (some ⟨g, 0, none⟩) n cap, .slice a l.length c]).run Tryd.prog w = .ok (.slice (some ⟨g', 0, none⟩) (n + l.length) cap') w' ∧
      w'.ownsRow 0 40 9 (.slice (some ⟨g', 0, none⟩) (n + l.length) cap') (n + l.length) (xs ++ txsC l) ∧ w.grownBy w' (some g) ∧ (g' = g ∨ g' = w.heap.size) ∧ g' < w'.heap.size := by
  obtain ⟨i0, hi, hz0, hz1, hz2⟩ := info_parts txInfo
  have hgl : g < w.heap.size := (hown.lt g (by simp [Value.ownBlock])).2
  have hcap : n ≤ cap := by
    rcases hown.2 with ⟨h, _⟩ | ⟨g2, cap2, cur, e, _, _, h3, _⟩
    · cases h
    · injection e with _ _ e3
      rw [e3]
      exact h3
  cases a with
  | none =>
    have h0 : l = [] := by
      rcases hT.held with h | ⟨_, _, h, _⟩
      · exact h
      · cases h
    subst h0
    refine ⟨g, cap, w, run_append_none w ty g n cap c hcap, ?_, ⟨rfl, rfl, rfl, Nat.le_refl _, fun _ _ _ => rfl⟩, .inl rfl, hgl⟩
    show w.ownsRow 0 _ 9 _ n (xs ++ [])
    rw [List.append_nil]
    exact hown
  | some ad =>
    have hn : ∀ j u, (txsC l)[j]? = some u → w.cell? (ad.add j) = some u := by
      rcases hT.held with h | ⟨wb, off, h, hc⟩
      · subst h
        intro j u hu
        simp [txsC] at hu
      · injection h with h
        subst h
        exact txs_news hc
    obtain ⟨v', w', hr, h2, h3, h4, h5⟩ := run_append_own_at (P := Tryd.prog) w 0 98 ty 40 i0 (.agg #[.int .i64 0, .int .i64 0, .int .i64 0, .int .i64 0, .int .i64 0, .int .i64 0, .int .i64 0, .int .i64 0, .slice none 0 0]) 9 88 Tryd.underlying98 hi hz0 hz1 hz2 rfl (by decide) (.slice (some ⟨g, 0, none⟩) n cap) n xs hown ad l.length c (txsC l) (txsC_length l) hn (txsC_one l) (by simp only [maxLen]; omega) (by omega) (Nat.zero_le _)
    rcases h2.2 with ⟨e, _⟩ | ⟨g', cap', cur, rfl, _, _⟩
    · have := (h4.1 e).1
      cases this
    · refine ⟨g', cap', w', hr, h2, h3, ?_, (h2.lt g' (by simp [Value.ownBlock])).2⟩
      rcases h5 with h | h
      · exact .inl (by simpa [Value.ownBlock] using h)
      · exact .inr (by simpa [Value.ownBlock] using h)

theorem step_append_txs {ops : Array Oper} {o : Oper} {a : Act} {K : Act → World → Prop} {Q : Exit → Act → World → Prop} {E : Prop} (w : World) (hgd : o.guard = none) (s x : Operand) (ho : o.op = .call { callee := .builtin .append, args := #[s, x], argTypes := #[98, 98] })
    {g n cap : Nat} {xs : List Value} (hs : a.eval s = .slice (some ⟨g, 0, none⟩) n cap) (hown : w.ownsRow 0 40 9 (.slice (some ⟨g, 0, none⟩) n cap) n xs) {sa : Option Addr} {c : Nat} {l : List TxM} (hx : a.eval x = .slice sa l.length c) (hT : TxsIn w sa c l) (hl : n + l.length ≤ 2000)
    (h : ∀ g' cap' w', w'.ownsRow 0 40 9 (.slice (some ⟨g', 0, none⟩) (n + l.length) cap') (n + l.length) (xs ++ txsC l) → w.grownBy w' (some g) → (g' = g ∨ g' = w.heap.size) → g' < w'.heap.size → K (a.put o.dst (.slice (some ⟨g', 0, none⟩) (n + l.length) cap')) w') :
    if Region.wanted o (yielded ops a.tmps) = true then Oper.wp Tryd.prog o a w K Q else E := by
  have hw : Region.wanted o (yielded ops a.tmps) = true := by simp [Region.wanted, hgd]
  rw [if_pos hw]
  obtain ⟨g', cap', w', hr, h2, h3, h4, h5⟩ := run_append_txs w o.type hown hT hl
  unfold Oper.wp execOp
  simp only [ho, resolve, invoke, builtin, Sem.run_bind, Sem.run_pure, Result.andThen_ok, List.map_toArray, List.map_cons, List.map_nil, hs, hx, hr]
  exact h g' cap' w' h2 h3 h4 h5

end Go.Proofs.YtknejedgddlabaaDoor

namespace Go.Proofs.YtknejedgddlabaaDoor
open Go.RowKit

theorem own_none9 (w : World) {n : Nat} (T : TypeId) (hn : w.heap.size = n) : (w.alloc (.cells #[] T)).ownsRow 0 T 9 (.slice (some ⟨n, 0, none⟩) 0 0) 0 [] := by
  subst hn
  exact ⟨rfl, .inr ⟨w.heap.size, 0, #[], rfl, Nat.zero_le _, heap_alloc_new w (.cells #[] T), Nat.le_refl _, by decide, rfl, rfl⟩⟩
/-- a row of one -/
theorem TxsIn.one {w : World} {M : Nat} {m : TxM} (h : RowL w M (txC m)) : TxsIn w (some ⟨M, 0, none⟩) 1 [m] := by
  refine ⟨Nat.le_refl _, by omega, .inr ⟨M, 0, rfl, fun i x r u hi hr => ?_⟩⟩
  have h0 : i = 0 := by
    have := (List.getElem?_eq_some_iff.1 hi).1
    simp at this
    exact this
  subst h0
  simp at hi
  subst hi
  simpa using h.cell r u hr
theorem TxsIn.kept {w w' : World} {a : Option Addr} {c : Nat} {l : List TxM} (h : TxsIn w a c l) (hk : ∀ k off, a = some ⟨k, off, none⟩ → w'.heap[k]? = w.heap[k]?) : TxsIn w' a c l := by
  refine ⟨h.len, h.cap, ?_⟩
  rcases h.held with h0 | ⟨wb, off, e, hc⟩
  · exact .inl h0
  · exact .inr ⟨wb, off, e, fun i m r u h1 h2 => by rw [World.cell?_of_block (w := w) (hk wb off e)]; exact hc i m r u h1 h2⟩
theorem TxsIn.take {w : World} {wb off c : Nat} {l : List TxM} (h : TxsIn w (some ⟨wb, off, none⟩) c l) (k : Nat) (hk : k ≤ l.length) : TxsIn w (some ⟨wb, off, none⟩) c (l.take k) := by
  refine ⟨by rw [List.length_take]; have := h.len; omega, h.cap, ?_⟩
  rcases h.held with h0 | ⟨wb', off', e, hc⟩
  · exact .inl (by rw [h0]; simp)
  · refine .inr ⟨wb', off', e, fun i m r u h1 h2 => hc i m r u ?_ h2⟩
    rw [List.getElem?_take] at h1
    split at h1
    · exact h1
    · cases h1
theorem TxsIn.drop {w : World} {wb off c : Nat} {l : List TxM} (h : TxsIn w (some ⟨wb, off, none⟩) c l) (k : Nat) (hk : k ≤ l.length) : TxsIn w (some ⟨wb, off + k * 9, none⟩) (c - k) (l.drop k) := by
  refine ⟨by rw [List.length_drop]; have := h.len; omega, by have := h.cap; omega, ?_⟩
  rcases h.held with h0 | ⟨wb', off', e, hc⟩
  · exact .inl (by rw [h0]; simp)
  · injection e with e
    injection e with e1 e2
    subst e1 e2
    refine .inr ⟨_, _, rfl, fun i m r u h1 h2 => ?_⟩
    rw [List.getElem?_drop] at h1
    have := hc (k + i) m r u h1 h2
    rw [show off + k * 9 + (i * 9 + r) = off + ((k + i) * 9 + r) by omega]
    exact this
theorem txsC_append (l l' : List TxM) : txsC (l ++ l') = txsC l ++ txsC l' := by simp [txsC]
theorem wpList_append_txs {ops : Array Oper} {rest : List Oper} {o : Oper} {a : Act} {Q : Exit → Act → World → Prop} (w : World) (hgd : o.guard = none) (s x : Operand) (ho : o.op = .call { callee := .builtin .append, args := #[s, x], argTypes := #[98, 98] })
    {g n cap : Nat} {xs : List Value} (hs : a.eval s = .slice (some ⟨g, 0, none⟩) n cap) (hown : w.ownsRow 0 40 9 (.slice (some ⟨g, 0, none⟩) n cap) n xs) {sa : Option Addr} {c : Nat} {l : List TxM} (hx : a.eval x = .slice sa l.length c) (hT : TxsIn w sa c l) (hl : n + l.length ≤ 2000)
    (h : ∀ g' cap' w', w'.ownsRow 0 40 9 (.slice (some ⟨g', 0, none⟩) (n + l.length) cap') (n + l.length) (xs ++ txsC l) → w.grownBy w' (some g) → (g' = g ∨ g' = w.heap.size) → g' < w'.heap.size → wpList Tryd.prog ops Q rest (a.put o.dst (.slice (some ⟨g', 0, none⟩) (n + l.length) cap')) w') : wpList Tryd.prog ops Q (o :: rest) a w := by
  refine wpList_plain hgd fun K hK => ?_
  obtain ⟨g', cap', w', hr, h2, h3, h4, h5⟩ := run_append_txs w o.type hown hT hl
  unfold Oper.wp execOp
  simp only [ho, resolve, invoke, builtin, Sem.run_bind, Sem.run_pure, Result.andThen_ok, List.map_toArray, List.map_cons, List.map_nil, hs, hx, hr]
  exact hK _ _ (h g' cap' w' h2 h3 h4 h5)

end Go.Proofs.YtknejedgddlabaaDoor

namespace Go.Proofs.YtknejedgddlabaaDoor
open Go.RowKit

noncomputable def soR36 : Code := ((Tryd.f8.body.bind (findRegion 36)).getD .skip)
set_option maxRecDepth 1000000 in
set_option maxHeartbeats 16000000 in
theorem soR36_any {z : Int} {i : Nat} {wb off vc : Nat} {left : List TxM} {y0 y1 y2 y3 y4 y5 y6 y7 y8 y9 y10 y11 y12 y13 y14 y16 y18 y19 y20 y21 y22 y23 y24 y25 y26 y27 y28 y29 y30 y31 y32 y33 y34 y35 y36 y37 y38 y39 y40 y41 y42 y43 y44 y45 y46 y47 y48 y49 y50 y51 y52 y53 y54 y55 y56 y57 y58 y59 y60 y61 y62 y63 y64 y65 y66 y67 y68 y69 y70 y71 y72 y73 y74 y75 y76 y77 y78 y79 y80 y81 y82 y83 y84 y85 y86 y87 y88 y89 y90 y91 y92 y93 y94 y95 y96 y97 y98 y99 y100 y101 y102 y103 y104 y105 y106 y107 y108 y109 y110 y111 y112 y113 y114 y115 y116 y117 y118 y119 y120 y121 y122 y123 y124 y125 y126 y127 y128 y129 y130 y131 y132 y133 y134 y135 y136 y137 y138 y139 y140 y141 y142 y143 y144 y145 y146 y147 y148 y149 y150 y151 y152 y153 y154 y155 y156 y157 y158 y159 y160 y161 y162 y163 y164 y165 y166 y167 y168 y169 y170 y171 y172 y173 y174 y175 y176 y177 y178 y179 y180 y181 y182 y183 y184 y185 y186 y187 y188 y189 y190 y191 y192 y193 y194 y195 y196 y197 y198 y199 y200 y201 y202 y203 y204 y205 y206 y207 y208 y209 y210 y211 y212 y213 y214 y215 : Value} (W5 : World) (HV5 : Hid (TxsIn W5 (some ⟨wb, off, none⟩) vc left)) (HLN : Hid (left.length ≤ 1000)) (HZ : Hid (z = i ∧ i < left.length)) (R : Act → World → Prop)
    (hR : ∀ (u132 u133 u134 u135 u136 u137 u138 u139 u140 u141 : Value) (w7 : World) (g2 c2 n2 : Nat), Below W5.heap.size W5 w7 → W5.heap.size ≤ g2 → g2 < w7.heap.size → n2 = (left.take i ++ left.drop (i + 1)).length → w7.ownsRow 0 40 9 (.slice (some ⟨g2, 0, none⟩) n2 c2) n2 (txsC (left.take i ++ left.drop (i + 1))) → R ⟨List.toArray (y0 :: y1 :: y2 :: y3 :: y4 :: y5 :: y6 :: y7 :: y8 :: y9 :: y10 :: y11 :: y12 :: y13 :: y14 :: (.slice (some ⟨g2, 0, none⟩) n2 c2) :: y16 :: (.int .i64 z) :: y18 :: y19 :: y20 :: y21 :: y22 :: y23 :: y24 :: y25 :: y26 :: y27 :: y28 :: y29 :: y30 :: y31 :: y32 :: y33 :: y34 :: y35 :: y36 :: y37 :: y38 :: y39 :: y40 :: y41 :: y42 :: y43 :: y44 :: y45 :: y46 :: y47 :: y48 :: y49 :: y50 :: y51 :: y52 :: y53 :: y54 :: y55 :: y56 :: y57 :: y58 :: y59 :: y60 :: y61 :: y62 :: y63 :: y64 :: y65 :: y66 :: y67 :: y68 :: y69 :: y70 :: y71 :: y72 :: y73 :: y74 :: y75 :: y76 :: y77 :: y78 :: y79 :: y80 :: y81 :: y82 :: y83 :: y84 :: y85 :: y86 :: y87 :: y88 :: y89 :: y90 :: y91 :: y92 :: y93 :: y94 :: y95 :: y96 :: y97 :: y98 :: y99 :: y100 :: y101 :: y102 :: y103 :: y104 :: y105 :: y106 :: y107 :: y108 :: y109 :: y110 :: y111 :: y112 :: y113 :: y114 :: y115 :: y116 :: y117 :: y118 :: y119 :: y120 :: y121 :: y122 :: y123 :: y124 :: y125 :: y126 :: y127 :: y128 :: y129 :: y130 :: y131 :: u132 :: u133 :: u134 :: u135 :: u136 :: u137 :: u138 :: u139 :: u140 :: u141 :: y142 :: y143 :: y144 :: y145 :: y146 :: y147 :: y148 :: y149 :: y150 :: y151 :: y152 :: y153 :: y154 :: y155 :: y156 :: y157 :: y158 :: y159 :: y160 :: y161 :: y162 :: y163 :: y164 :: y165 :: y166 :: y167 :: y168 :: y169 :: y170 :: y171 :: y172 :: y173 :: y174 :: y175 :: y176 :: y177 :: y178 :: y179 :: y180 :: y181 :: y182 :: y183 :: y184 :: y185 :: y186 :: y187 :: y188 :: y189 :: y190 :: y191 :: y192 :: y193 :: y194 :: y195 :: y196 :: y197 :: y198 :: y199 :: y200 :: y201 :: y202 :: y203 :: y204 :: y205 :: y206 :: y207 :: y208 :: y209 :: y210 :: y211 :: y212 :: y213 :: y214 :: y215 :: []), []⟩ w7) :
    Code.wp Tryd.prog soR36 (Exit.then R (fun _ _ _ => False)) ⟨List.toArray (y0 :: y1 :: y2 :: y3 :: y4 :: y5 :: y6 :: y7 :: y8 :: y9 :: y10 :: y11 :: y12 :: y13 :: y14 :: (.slice (some ⟨wb, off, none⟩) left.length vc) :: y16 :: (.int .i64 z) :: y18 :: y19 :: y20 :: y21 :: y22 :: y23 :: y24 :: y25 :: y26 :: y27 :: y28 :: y29 :: y30 :: y31 :: y32 :: y33 :: y34 :: y35 :: y36 :: y37 :: y38 :: y39 :: y40 :: y41 :: y42 :: y43 :: y44 :: y45 :: y46 :: y47 :: y48 :: y49 :: y50 :: y51 :: y52 :: y53 :: y54 :: y55 :: y56 :: y57 :: y58 :: y59 :: y60 :: y61 :: y62 :: y63 :: y64 :: y65 :: y66 :: y67 :: y68 :: y69 :: y70 :: y71 :: y72 :: y73 :: y74 :: y75 :: y76 :: y77 :: y78 :: y79 :: y80 :: y81 :: y82 :: y83 :: y84 :: y85 :: y86 :: y87 :: y88 :: y89 :: y90 :: y91 :: y92 :: y93 :: y94 :: y95 :: y96 :: y97 :: y98 :: y99 :: y100 :: y101 :: y102 :: y103 :: y104 :: y105 :: y106 :: y107 :: y108 :: y109 :: y110 :: y111 :: y112 :: y113 :: y114 :: y115 :: y116 :: y117 :: y118 :: y119 :: y120 :: y121 :: y122 :: y123 :: y124 :: y125 :: y126 :: y127 :: y128 :: y129 :: y130 :: y131 :: y132 :: y133 :: y134 :: y135 :: y136 :: y137 :: y138 :: y139 :: y140 :: y141 :: y142 :: y143 :: y144 :: y145 :: y146 :: y147 :: y148 :: y149 :: y150 :: y151 :: y152 :: y153 :: y154 :: y155 :: y156 :: y157 :: y158 :: y159 :: y160 :: y161 :: y162 :: y163 :: y164 :: y165 :: y166 :: y167 :: y168 :: y169 :: y170 :: y171 :: y172 :: y173 :: y174 :: y175 :: y176 :: y177 :: y178 :: y179 :: y180 :: y181 :: y182 :: y183 :: y184 :: y185 :: y186 :: y187 :: y188 :: y189 :: y190 :: y191 :: y192 :: y193 :: y194 :: y195 :: y196 :: y197 :: y198 :: y199 :: y200 :: y201 :: y202 :: y203 :: y204 :: y205 :: y206 :: y207 :: y208 :: y209 :: y210 :: y211 :: y212 :: y213 :: y214 :: y215 :: []), []⟩ W5 := by
  have hvl := HV5.out.len
  have hvc := HV5.out.cap
  have z0 : 0 ≤ z := by have := HZ.out; omega
  have z1 : z.toNat = i := by have := HZ.out; omega
  have z2 : z < (left.length : Int) := by have := HZ.out; omega
  have z3 : z ≤ (left.length : Int) := by omega
  have z4 : (z + 1) ≤ (left.length : Int) := by omega
  have z5 : 0 ≤ z + 1 := by omega
  have z6 : (z + 1).toNat = i + 1 := by omega
  have z7 : z ≤ (vc : Int) := by omega
  have hlen := HLN.out
  have hwz : IntKind.i64.wrap (z + 1) = z + 1 := by unfold IntKind.wrap; simp [IntKind.signed, IntKind.bits]; omega
  have HR : Hid _ := hR
  clear hR hlen
  conv => arg 2; whnf
  by_cases hvz : vc = i + 1
  · subst hvz
    have z8 : z ≤ (i : Int) + 1 := by omega
    go_region_law (first
     | (refine step_append_txs _ rfl (.tmp 132) (.tmp 135) rfl (g := W5.heap.size) (n := 0) (cap := 0) (xs := []) (by simp [Act.eval]) (own_none9 W5 40 rfl) (sa := some ⟨wb, off, none⟩) (c := i + 1) (l := left.take i) (by simp [Act.eval] <;> omega) ((HV5.out.take i (by have := HZ.out; omega)).later (by repeat (first | (with_reducible assumption) | (with_reducible exact Below.refl _ _) | (with_reducible refine boxed ?_ _) | (with_reducible refine Below.drew ?_)))) (by have := HLN.out; simp; omega) ?_
        intro g1 c1_ w6 own6 gr6 eg6 lt6
        have HG6 : Hid (W5.heap.size ≤ g1 ∧ g1 < w6.heap.size) := ⟨by simp at eg6; omega, lt6⟩
        have hb6 : Below W5.heap.size W5 w6 := Below.grown (by repeat (first | (with_reducible assumption) | (with_reducible exact Below.refl _ _) | (with_reducible refine boxed ?_ _) | (with_reducible refine Below.drew ?_))) gr6 (by simp <;> omega) (fun j hj => by simp at hj; omega))
     | (refine step_append_txs _ rfl (.tmp 136) (.tmp 140) rfl (by simp [Act.eval]) own6 (sa := some ⟨wb, off, none⟩) (c := 0) (l := left.drop (i + 1)) (by simp [Act.eval] <;> omega) (⟨by simp; omega, by omega, .inl (List.drop_eq_nil_of_le (by omega))⟩) (by have := HLN.out; simp; omega) ?_
        intro g2 c2_ w7 own7 gr7 eg7 lt7
        have hb7 : Below W5.heap.size W5 w7 := Below.grown hb6 gr7 hb6.size (fun j hj => by have := HG6.out; simp at hj; omega)
        have HG7 : Hid (W5.heap.size ≤ g2 ∧ g2 < w7.heap.size) := ⟨by have := HG6.out; have := hb6.size; omega, lt7⟩))
    all_goals
      refine HR.out _ _ _ _ _ _ _ _ _ _ w7 g2 c2_ _ hb7 HG7.out.1 HG7.out.2 ?_ ?_
      · simp <;> omega
      · rw [List.nil_append, ← txsC_append] at own7
        have e9 : ∀ n, n = 0 + (left.take i).length + (left.drop (i + 1)).length → w7.ownsRow 0 40 9 (.slice (some ⟨g2, 0, none⟩) n c2_) n (txsC (left.take i ++ left.drop (i + 1))) := fun n hn => by subst hn; exact own7
        exact e9 _ (by simp <;> omega)
  · skip
    go_region_law (first
     | (refine step_append_txs _ rfl (.tmp 132) (.tmp 135) rfl (g := W5.heap.size) (n := 0) (cap := 0) (xs := []) (by simp [Act.eval]) (own_none9 W5 40 rfl) (sa := some ⟨wb, off, none⟩) (c := vc) (l := left.take i) (by simp [Act.eval] <;> omega) ((HV5.out.take i (by have := HZ.out; omega)).later (by repeat (first | (with_reducible assumption) | (with_reducible exact Below.refl _ _) | (with_reducible refine boxed ?_ _) | (with_reducible refine Below.drew ?_)))) (by have := HLN.out; simp; omega) ?_
        intro g1 c1_ w6 own6 gr6 eg6 lt6
        have HG6 : Hid (W5.heap.size ≤ g1 ∧ g1 < w6.heap.size) := ⟨by simp at eg6; omega, lt6⟩
        have hb6 : Below W5.heap.size W5 w6 := Below.grown (by repeat (first | (with_reducible assumption) | (with_reducible exact Below.refl _ _) | (with_reducible refine boxed ?_ _) | (with_reducible refine Below.drew ?_))) gr6 (by simp <;> omega) (fun j hj => by simp at hj; omega))
     | (refine step_append_txs _ rfl (.tmp 136) (.tmp 140) rfl (by simp [Act.eval]) own6 (sa := some ⟨wb, off + (i + 1) * 9, none⟩) (c := vc - (i + 1)) (l := left.drop (i + 1)) (by simp [Act.eval] <;> omega) ((HV5.out.drop (i + 1) (by have := HZ.out; omega)).later hb6) (by have := HLN.out; simp; omega) ?_
        intro g2 c2_ w7 own7 gr7 eg7 lt7
        have hb7 : Below W5.heap.size W5 w7 := Below.grown hb6 gr7 hb6.size (fun j hj => by have := HG6.out; simp at hj; omega)
        have HG7 : Hid (W5.heap.size ≤ g2 ∧ g2 < w7.heap.size) := ⟨by have := HG6.out; have := hb6.size; omega, lt7⟩))
    all_goals
      refine HR.out _ _ _ _ _ _ _ _ _ _ w7 g2 c2_ _ hb7 HG7.out.1 HG7.out.2 ?_ ?_
      · simp <;> omega
      · rw [List.nil_append, ← txsC_append] at own7
        have e9 : ∀ n, n = 0 + (left.take i).length + (left.drop (i + 1)).length → w7.ownsRow 0 40 9 (.slice (some ⟨g2, 0, none⟩) n c2_) n (txsC (left.take i ++ left.drop (i + 1))) := fun n hn => by subst hn; exact own7
        exact e9 _ (by simp <;> omega)

end Go.Proofs.YtknejedgddlabaaDoor

namespace Go.Proofs.YtknejedgddlabaaDoor
open Go.RowKit

/-- what is read at a site: the version, and the error -/
def readS (S : SiteS) (key a0 a1 a2 a3 : Int) : Ver × Int := if covB S.a0 S.a1 S.a2 S.a3 a0 a1 a2 a3 = true then readV key a0 a1 a2 a3 S.l else (ver0, 10)

/-- a version is written into a box behind a world's end -/
theorem ver_far {w W : World} {b : Nat} (h : Below w.heap.size w W) (hB : w.heap.size ≤ b) (x0 x1 x2 x3 : Int) (x4 : ByteArray) (x5 : Bool) : Below w.heap.size w ((((((W.setCell ⟨b, 0, none⟩ (.int .i64 x0)).setCell ⟨b, 1, none⟩ (.int .i64 x1)).setCell ⟨b, 2, none⟩ (.int .i64 x2)).setCell ⟨b, 3, none⟩ (.int .i64 x3)).setCell ⟨b, 4, none⟩ (.string x4)).setCell ⟨b, 5, none⟩ (.bool x5)) :=
  (((((h.setCell hB _).setCell hB _).setCell hB _).setCell hB _).setCell hB _).setCell hB _
theorem row4_ver {W : World} {b c : Nat} {a0 a1 a2 a3 : Int} (h : Row4 W b a0 a1 a2 a3) (hn : c ≠ b) (x0 x1 x2 x3 : Int) (x4 : ByteArray) (x5 : Bool) : Row4 ((((((W.setCell ⟨c, 0, none⟩ (.int .i64 x0)).setCell ⟨c, 1, none⟩ (.int .i64 x1)).setCell ⟨c, 2, none⟩ (.int .i64 x2)).setCell ⟨c, 3, none⟩ (.int .i64 x3)).setCell ⟨c, 4, none⟩ (.string x4)).setCell ⟨c, 5, none⟩ (.bool x5)) b a0 a1 a2 a3 :=
  (((((h.far ⟨c, 0, none⟩ _ hn).far ⟨c, 1, none⟩ _ hn).far ⟨c, 2, none⟩ _ hn).far ⟨c, 3, none⟩ _ hn).far ⟨c, 4, none⟩ _ hn).far ⟨c, 5, none⟩ _ hn
theorem ver_set {W : World} {b : Nat} (h : RowL W b (verL ver0)) (x0 x1 x2 x3 : Int) (x4 : ByteArray) (x5 : Bool) : RowL ((((((W.setCell ⟨b, 0, none⟩ (.int .i64 x0)).setCell ⟨b, 1, none⟩ (.int .i64 x1)).setCell ⟨b, 2, none⟩ (.int .i64 x2)).setCell ⟨b, 3, none⟩ (.int .i64 x3)).setCell ⟨b, 4, none⟩ (.string x4)).setCell ⟨b, 5, none⟩ (.bool x5)) b (verL ⟨x0, x1, x2, x3, x4, x5⟩) :=
  (((((h.set 0 _ (by simp [verL])).set 1 _ (by simp [verL])).set 2 _ (by simp [verL])).set 3 _ (by simp [verL])).set 4 _ (by simp [verL])).set 5 _ (by simp [verL])

end Go.Proofs.YtknejedgddlabaaDoor
