/-
  What the document's own Sweep of a store is, as the model runs it (copseref.Store.Sweep).
  What the document's own Told of a store is, as the model runs it (copseref.Store.Told).
  A site, as the document has it: what it applied, what waits, what it knows; no Go in sight.
  The document's store inside another struct, at an offset: Put (copseref.Store.Put).
  The document's store inside another struct, at an offset: Put of a version that may be (copseref.Store.Put).
  A site of the document in memory: its box, the rows of what it applied and of what waits, its store; transactions' writes lie in blocks that are nobody's to change.
  The arguments' shapes, opened: a slice of what is done to a site (copselaw.Do), each with a transaction and its writes.
  The arguments' shapes, opened: a slice of what a client does (copselaw.Turn), each with a write, and with a transaction and its writes.
  What it is to read at a site of the document, as the model runs it (copseref.Site.Read).
  What waits at a site, and is applied: that of the least site first, until there is none, or no room; no Go in sight.
  What waits at a site of the program: a map by site and number, as a list of transactions whose numbers are apart.
  Versions of keys: what the last one is, whatever the order in which they are looked at; what a sweep leaves; no Go in sight.
  What laws of stores have in common: an error's value, blocks that are kept, how many versions there are behind a put or a sweep.
  What it is to apply a transaction at a site of the document, as the model runs it (copseref.Site.Applies).
  What is always so of a site: what it applied, what waits; how much it has; no Go in sight.
  What a site of the document has that another lacks, as the model runs it (copseref.Site.Missing).
  What it is to commit at a site of the document, as the model runs it (copseref.Site.Commit).
  Towards a commit that goes well, at a site of the document (copseref.Site.Commit): what it asks, and a caller's writes as what is appended.
  An error of the program against a number of the document.
-/
import Derived.Test.YtpncedpfoakfkaaGreatDoorRefPut
import Derived.Laws.StructEq
import Derived.Lib.SmallJoins
import Derived.Test.YtpncedpfoakfkaaGreatDoorSiteA
import Derived.Test.YtpncedpfoakfkaaGreatDoorORead
import Derived.Deep.RegionHeld3
import Derived.Maps.OwnSet
import Derived.DeepKeys4
import Derived.Test.YtpncedpfoakfkaaGreatDoorRefClock
import Derived.Shelf.RegionOpen
import Derived.Test.YtpncedpfoakfkaaGreatDoorRefRightW
import Derived.Test.YtpncedpfoakfkaaGreatDoorSiteB
import Derived.Test.YtpncedpfoakfkaaGreatDoorSiteC
namespace Go.Proofs.YtpncedpfoakfkaaGreatDoor
open Go.RowKit

/-- two versions are the same -/
def eqV (a b : Ver) : Bool := (a.wall == b.wall && a.count == b.count) && a.site == b.site && a.seq == b.seq && a.data.toList == b.data.toList && a.gone == b.gone

theorem eqStamp9 (a b c d : Int) (w : World) : (Op.equalIn 9999 34 (.agg #[.int .i64 a, .int .i64 b]) (.agg #[.int .i64 c, .int .i64 d])).run Tryz.prog w = .ok (a == c && b == d) w := by
  have u3 := Tryz.underlying3
  have a3 := Tryz.isAgg3
  have z3 := Tryz.sizeOf3
  have hS : Tryz.prog.underlying 34 = some (.struct (Tryz.prog.fieldsOf 34)) := by kernel_rfl
  have hp : Tryz.prog.stoodInHeld 34 = false := by kernel_rfl
  rw [show (9999 : Nat) = 9998 + 1 from rfl, run_equalIn_agg w 9998 34 _ _ hS hp]
  simp only [Program.fieldsOf, Tryz.underlying34]
  go_simp
  by_cases h1 : a = c <;> by_cases h2 : b = d <;> simp [h1, h2]

theorem eqVerB (a b : Ver) (w : World) : (binOp .eql 59 (.agg #[.int .i64 a.wall, .int .i64 a.count, .int .i64 a.site, .int .i64 a.seq, .string a.data, .bool a.gone]) (.agg #[.int .i64 b.wall, .int .i64 b.count, .int .i64 b.site, .int .i64 b.seq, .string b.data, .bool b.gone])).run Tryz.prog w = .ok (.bool (eqV a b)) w := by
  have u3 := Tryz.underlying3
  have a3 := Tryz.isAgg3
  have z3 := Tryz.sizeOf3
  have u4 := Tryz.underlying4
  have a4 := Tryz.isAgg4
  have z4 := Tryz.sizeOf4
  have u9 := Tryz.underlying9
  have a9 := Tryz.isAgg9
  have z9 := Tryz.sizeOf9
  have hS : Tryz.prog.underlying 59 = some (.struct (Tryz.prog.fieldsOf 59)) := by kernel_rfl
  have hp : Tryz.prog.stoodInHeld 59 = false := by kernel_rfl
  have s9 := eqStamp9
  have aS := Tryz.isAgg34
  have zS := Tryz.sizeOf34
  rw [run_eql_struct]
  rw [show (10000 : Nat) = 9999 + 1 from rfl, run_equalIn_agg w 9999 59 _ _ hS hp]
  simp only [Program.fieldsOf, Tryz.underlying59]
  go_simp
  by_cases h1 : a.wall = b.wall <;> by_cases h2 : a.count = b.count <;> by_cases h3 : a.site = b.site <;> by_cases h4 : a.seq = b.seq <;> by_cases h5 : a.data.toList = b.data.toList <;> by_cases h6 : a.gone = b.gone <;> simp [eqV, h1, h2, h3, h4, h5, h6]

/-- what stays behind a sweep -/
def keepV (a0 a1 a2 a3 : Int) (l : List Hd) (h : Hd) : Bool := !(someB (lastV h.key a0 a1 a2 a3 l)) || eqV ((lastV h.key a0 a1 a2 a3 l).getD ver0) h.v || !(hasV a0 a1 a2 a3 h.v)
def sweepL (a0 a1 a2 a3 : Int) (l : List Hd) : List Hd := l.filter (keepV a0 a1 a2 a3 l)
theorem take_hd {l : List Hd} {k : Nat} (hk : k < l.length) : l.take (k + 1) = l.take k ++ [hdAt l k] := by
  rw [List.take_succ_eq_append_getElem hk]
  simp [hdAt, List.getD, List.getElem?_eq_getElem hk]
theorem kept_length {l kept : List Hd} {k : Nat} {p : Hd → Bool} (h : (l.take k).filter p = kept) : kept.length ≤ l.length := by
  rw [← h]
  exact Nat.le_trans (List.length_filter_le _ _) (by rw [List.length_take]; omega)
theorem Row4.grown4 {w w' : World} {r : Option Nat} {b : Nat} {a0 a1 a2 a3 : Int} (h : Row4 w b a0 a1 a2 a3) (hg : w.grownBy w' r) (hne : some b ≠ r) : Row4 w' b a0 a1 a2 a3 := by
  have e := hg.block b h.lt hne
  constructor
  · rw [World.cell?_of_block (w := w) e]; exact h.c0
  · rw [World.cell?_of_block (w := w) e]; exact h.c1
  · rw [World.cell?_of_block (w := w) e]; exact h.c2
  · rw [World.cell?_of_block (w := w) e]; exact h.c3
  · rw [World.frozen?_of_block (w := w) e]; exact h.f0
  · rw [World.frozen?_of_block (w := w) e]; exact h.f1
  · rw [World.frozen?_of_block (w := w) e]; exact h.f2
  · rw [World.frozen?_of_block (w := w) e]; exact h.f3

set_option maxHeartbeats 8000000 in
theorem refSweep_any {sb : Nat} {sv : Value} {l : List Hd} (a0 a1 a2 a3 : Int) (w : World) (hS : RefSt w sb sv l) (hl : l.length ≤ 1000) :
    Calls Tryz.prog 16 #[.pointer (some ⟨sb, 0, none⟩), .agg #[.int .i64 a0, .int .i64 a1, .int .i64 a2, .int .i64 a3]] w fun e w' => e = .returned (.tuple #[]) ∧ PutPost w sb sv (sweepL a0 a1 a2 a3 l) w' := by
  have hne := Later.one
  obtain ⟨a, cap, rfl, hH⟩ := hdIn_own hS.own
  have RA := Row4.new w 32 a0 a1 a2 a3
  have hb := boxed (Below.refl _ w) (.cells #[.int .i64 a0, .int .i64 a1, .int .i64 a2, .int .i64 a3] 32)
  have S1 := hS.later hb
  have s0 : (w.alloc (.cells #[.int .i64 a0, .int .i64 a1, .int .i64 a2, .int .i64 a3] 32)).cell? ⟨sb, 0, none⟩ = some (.slice a l.length cap) := S1.box.cell 0 _ rfl
  have hsb : sb < w.heap.size := hS.box.lt
  go_enter Tryz.func16, Tryz.ntmps16
  go_wp2_with fail
  clear s0 S1
  obtain ⟨W, hWW⟩ : ∃ W, w.alloc (.cells #[.int .i64 a0, .int .i64 a1, .int .i64 a2, .int .i64 a3] 32) = W := ⟨_, rfl⟩
  rw [hWW] at RA hb ⊢
  clear hWW
  go_loopw [4, 14] (fun sl iv wr => ∃ (k : Nat) (z : Int) (kept : List Hd) (lv : Value), lv = sl ∧ k ≤ l.length ∧ z = k ∧ iv = .int .i64 z ∧ (l.take k).filter (keepV a0 a1 a2 a3 l) = kept ∧ wr.ownsRow (w.heap.size + 1) 124 7 lv kept.length (hdsL kept) ∧ Row4 wr w.heap.size a0 a1 a2 a3 ∧ Below w.heap.size w wr) (fun _ i _ => l.length - (intOf i).toNat)
  case atStart => exact ⟨0, 0, [], _, rfl, by omega, rfl, rfl, rfl, World.ownsRow_nil _ _ _ _, RA, hb⟩
  case round =>
    clear RA hb
    obtain ⟨k, z, kept, lv, hsl, hk, hz, rfl, hkp, ownk, RA, hb⟩ := hrel
    subst hsl
    have HKP : Hid ((l.take k).filter (keepV a0 a1 a2 a3 l) = kept) := hkp
    have HZ : Hid (z = k) := hz
    clear hkp
    by_cases hlt : k < l.length
    · have h1 : z < (l.length : Int) := by omega
      have h2 : z.toNat = k := by omega
      have h3 : 0 ≤ z := by omega
      clear hz
      have S4 := hS.later hb
      have hH4 := hH.later hb
      obtain ⟨b, off, rfl, hcc⟩ : ∃ b off, a = some ⟨b, off, none⟩ ∧ ∀ i r u, i < l.length → (hdL (hdAt l i))[r]? = some u → wr.cell? ⟨b, off + (i * 7 + r), none⟩ = some u := by
        rcases hH4.held with h0 | h0
        · rw [h0] at hlt; simp at hlt
        · exact h0
      obtain ⟨⟨hk_, ⟨hw, hc, hs, hq, hd, hg⟩⟩, hx⟩ : ∃ x, hdAt l k = x := ⟨_, rfl⟩
      have x0 : wr.cell? ⟨b, off + k * 7, none⟩ = some (.int .i64 hk_) := hcc k 0 _ hlt (by rw [hx]; rfl)
      have x1 : wr.cell? ⟨b, off + k * 7 + 1, none⟩ = some (.int .i64 hw) := hcc k 1 _ hlt (by rw [hx]; rfl)
      have x2 : wr.cell? ⟨b, off + k * 7 + 2, none⟩ = some (.int .i64 hc) := hcc k 2 _ hlt (by rw [hx]; rfl)
      have x3 : wr.cell? ⟨b, off + k * 7 + 3, none⟩ = some (.int .i64 hs) := hcc k 3 _ hlt (by rw [hx]; rfl)
      have x4 : wr.cell? ⟨b, off + k * 7 + 4, none⟩ = some (.int .i64 hq) := hcc k 4 _ hlt (by rw [hx]; rfl)
      have x5 : wr.cell? ⟨b, off + k * 7 + 5, none⟩ = some (.string hd) := hcc k 5 _ hlt (by rw [hx]; rfl)
      have x6 : wr.cell? ⟨b, off + k * 7 + 6, none⟩ = some (.bool hg) := hcc k 6 _ hlt (by rw [hx]; rfl)
      have hsite := okVer_site (hS.ok (hdAt l k) (by simp only [hdAt, List.getD, List.getElem?_eq_getElem hlt, Option.getD_some]; exact List.getElem_mem hlt))
      rw [hx] at hsite
      simp only at hsite
      obtain ⟨t0, t1⟩ := hsite
      have t2 : hs < 4 := by omega
      have HX : Hid (hdAt l k = ⟨hk_, ⟨hw, hc, hs, hq, hd, hg⟩⟩) := hx
      clear hx hcc
      replace S4 := S4.later (boxed (Below.refl _ wr) (.cells #[.int .i64 hk_, .int .i64 hw, .int .i64 hc, .int .i64 hs, .int .i64 hq, .string hd, .bool hg] 124))
      replace hH4 := hH4.later (boxed (Below.refl _ wr) (.cells #[.int .i64 hk_, .int .i64 hw, .int .i64 hc, .int .i64 hs, .int .i64 hq, .string hd, .bool hg] 124))
      replace RA := RA.boxed (.cells #[.int .i64 hk_, .int .i64 hw, .int .i64 hc, .int .i64 hs, .int .i64 hq, .string hd, .bool hg] 124)
      replace ownk := ownk.alloc (.cells #[.int .i64 hk_, .int .i64 hw, .int .i64 hc, .int .i64 hs, .int .i64 hq, .string hd, .bool hg] 124)
      replace hb := boxed hb (.cells #[.int .i64 hk_, .int .i64 hw, .int .i64 hc, .int .i64 hs, .int .i64 hq, .string hd, .bool hg] 124)
      have RY := RowL.new (w := wr) (T := 124) [.int .i64 hk_, .int .i64 hw, .int .i64 hc, .int .i64 hs, .int .i64 hq, .string hd, .bool hg] rfl
      have c0 := RA.c0
      have c1 := RA.c1
      have c2 := RA.c2
      have c3 := RA.c3
      have y0 := RY.cell 0 _ rfl
      go_wp2_with fail
      clear x0 x1 x2 x3 x4 x5 x6
      refine (refLast_any hk_ a0 a1 a2 a3 _ (S4.box.cell 0 _ rfl) hH4 hS.ok (by omega)).mono ?_
      rintro e w2 ⟨rfl, hb2⟩
      clear c0 c1 c2 c3 y0 S4 hH4
      obtain ⟨best, hbest⟩ : ∃ best, lastV hk_ a0 a1 a2 a3 l = best := ⟨_, rfl⟩
      have KE : Hid (keepV a0 a1 a2 a3 l (hdAt l k) = (!(someB best) || eqV (best.getD ver0) ⟨hw, hc, hs, hq, hd, hg⟩ || !(hasV a0 a1 a2 a3 ⟨hw, hc, hs, hq, hd, hg⟩))) := by
        show keepV a0 a1 a2 a3 l (hdAt l k) = _
        rw [HX.out, ← hbest]
        rfl
      rw [hbest, bestL_eq]
      clear hbest
      obtain ⟨sbv, hsbv⟩ : ∃ s, someB best = s := ⟨_, rfl⟩
      obtain ⟨bv, hbv⟩ : ∃ v, best.getD ver0 = v := ⟨_, rfl⟩
      rw [hsbv, hbv] at KE ⊢
      clear hsbv hbv
      obtain ⟨bw, bc, bs, bq, bd, bg⟩ := bv
      rw [show verL ⟨bw, bc, bs, bq, bd, bg⟩ = [.int .i64 bw, .int .i64 bc, .int .i64 bs, .int .i64 bq, .string bd, .bool bg] from rfl]
      replace RA := (RA.later hb2).boxed (.cells #[.int .i64 bw, .int .i64 bc, .int .i64 bs, .int .i64 bq, .string bd, .bool bg] 59)
      replace RY := (RY.later hb2).boxed (.cells #[.int .i64 bw, .int .i64 bc, .int .i64 bs, .int .i64 bq, .string bd, .bool bg] 59)
      replace ownk := (own_below7 ownk hb2).alloc (.cells #[.int .i64 bw, .int .i64 bc, .int .i64 bs, .int .i64 bq, .string bd, .bool bg] 59)
      replace hb := boxed (behind hb hb2) (.cells #[.int .i64 bw, .int .i64 bc, .int .i64 bs, .int .i64 bq, .string bd, .bool bg] 59)
      have RB := RowL.new (w := w2) (T := 59) [.int .i64 bw, .int .i64 bc, .int .i64 bs, .int .i64 bq, .string bd, .bool bg] rfl
      clear hb2
      have hat := Later.cell (vec_at RA t0 t1)
      have w0 := Later.cell (RY.cell 0 _ rfl)
      have w1 := Later.cell (RY.cell 1 _ rfl)
      have w2' := Later.cell (RY.cell 2 _ rfl)
      have w3 := Later.cell (RY.cell 3 _ rfl)
      have w4 := Later.cell (RY.cell 4 _ rfl)
      have w5' := Later.cell (RY.cell 5 _ rfl)
      have w6 := Later.cell (RY.cell 6 _ rfl)
      have v0 := Later.cell (RB.cell 0 _ rfl)
      have v1 := Later.cell (RB.cell 1 _ rfl)
      have v2 := Later.cell (RB.cell 2 _ rfl)
      have v3 := Later.cell (RB.cell 3 _ rfl)
      have v4 := Later.cell (RB.cell 4 _ rfl)
      have v5 := Later.cell (RB.cell 5 _ rfl)
      cases sbv
      · go_wp2_with fail
        refine wp_region_later (by kernel_rfl) (by kernel_rfl) ?_
        repeat (go_big_quiet_step (fail))
        refine wpQuiet_nil ?_
        rintro w5 ⟨⟨_, hb5⟩, rfl⟩
        replace RA := RA.later hb5
        replace RY := RY.later hb5
        replace ownk := own_below7 ownk hb5
        replace hb := behind hb hb5
        clear hb5
        have KF : Hid ((l.take (k + 1)).filter (keepV a0 a1 a2 a3 l) = kept ++ [⟨hk_, ⟨hw, hc, hs, hq, hd, hg⟩⟩]) := by
          have e : keepV a0 a1 a2 a3 l (hdAt l k) = true := by rw [KE.out]; rfl
          show (l.take (k + 1)).filter (keepV a0 a1 a2 a3 l) = _
          rw [take_hd hlt, List.filter_append, HKP.out, ← HX.out]
          simp [e]
        have y0 := RY.cell 0 _ rfl
        have y1 := RY.cell 1 _ rfl
        have y2 := RY.cell 2 _ rfl
        have y3 := RY.cell 3 _ rfl
        have y4 := RY.cell 4 _ rfl
        have y5 := RY.cell 5 _ rfl
        have y6 := RY.cell 6 _ rfl
        obtain ⟨i0, hi, hz0, hz1, hz2⟩ := info_parts heldInfo
        have hk6 := kept_length HKP.out
        have hsz5 : w.heap.size + 1 ≤ w5.heap.size := by have := RA.lt; omega
        go_wp2_with (at_builtin; refine wpList_append_lies _ rfl (.tmp 45) (.tmp 47) 36 rfl (w.heap.size + 1) 124 i0 (.agg #[.int .i64 0, .int .i64 0, .int .i64 0, .int .i64 0, .int .i64 0, .string ⟨#[]⟩, .bool false]) 7 64 Tryz.underlying36 hi hz0 hz1 hz2 rfl (by decide) lv kept.length (hdsL kept) rfl (ownk.alloc _) ⟨w5.heap.size, 0, none⟩ 1 1 (hdL ⟨hk_, ⟨hw, hc, hs, hq, hd, hg⟩⟩) rfl rfl (World.news_of_block (heap_alloc_new w5 (.cells #[.int .i64 hk_, .int .i64 hw, .int .i64 hc, .int .i64 hs, .int .i64 hq, .string hd, .bool hg] 124))) (by intro u hu; simp [hdL] at hu; rcases hu with rfl | rfl | rfl | rfl | rfl | rfl | rfl <;> rfl) (by decide) (by simp only [maxLen]; omega) (by omega) (by simp; omega) _ rfl ?_; intro g cap9 wE ownE grE egE ltE)
        have rowsg : ∀ j, lv.ownBlock = some j → w.heap.size + 1 ≤ j := fun j hj => (ownk.lt j hj).1
        have RAE := (RA.boxed (.cells #[.int .i64 hk_, .int .i64 hw, .int .i64 hc, .int .i64 hs, .int .i64 hq, .string hd, .bool hg] 124)).grown4 grE (fun e => by have := rowsg _ e.symm; omega)
        have hbE := (boxed hb (.cells #[.int .i64 hk_, .int .i64 hw, .int .i64 hc, .int .i64 hs, .int .i64 hq, .string hd, .bool hg] 124)).grown grE (by have := hb.size; simp; omega) (fun j hj => by have := rowsg j hj; omega)
        go_roundw
        case rel => exact ⟨k + 1, z + 1, kept ++ [⟨hk_, ⟨hw, hc, hs, hq, hd, hg⟩⟩], _, rfl, by omega, by have := HZ.out; omega, by go_num, KF.out, by rw [hdsL_snoc, List.length_append]; exact ownE, RAE, hbE⟩
        case measure => simp [intOf]; omega
      · cases ev : eqV ⟨bw, bc, bs, bq, bd, bg⟩ ⟨hw, hc, hs, hq, hd, hg⟩
        · have eqv2 := fun w => (eqVerB ⟨bw, bc, bs, bq, bd, bg⟩ ⟨hw, hc, hs, hq, hd, hg⟩ w).trans (by rw [ev])
          cases hh : hasV a0 a1 a2 a3 ⟨hw, hc, hs, hq, hd, hg⟩
          · have dh : decide (depOf hs a0 a1 a2 a3 < hq) = true := decide_eq_true (by have := of_decide_eq_false (show decide (hq ≤ depOf hs a0 a1 a2 a3) = false from hh); omega)
            go_wp2_with fail
            refine wp_region_later (by kernel_rfl) (by kernel_rfl) ?_
            repeat (go_big_quiet_step (fail))
            refine wpQuiet_nil ?_
            rintro w5 ⟨⟨_, hb5⟩, rfl⟩
            replace RA := RA.later hb5
            replace RY := RY.later hb5
            replace ownk := own_below7 ownk hb5
            replace hb := behind hb hb5
            clear hb5
            have KF : Hid ((l.take (k + 1)).filter (keepV a0 a1 a2 a3 l) = kept ++ [⟨hk_, ⟨hw, hc, hs, hq, hd, hg⟩⟩]) := by
              have e : keepV a0 a1 a2 a3 l (hdAt l k) = true := by rw [KE.out]; rw [ev, hh]; rfl
              show (l.take (k + 1)).filter (keepV a0 a1 a2 a3 l) = _
              rw [take_hd hlt, List.filter_append, HKP.out, ← HX.out]
              simp [e]
            have y0 := RY.cell 0 _ rfl
            have y1 := RY.cell 1 _ rfl
            have y2 := RY.cell 2 _ rfl
            have y3 := RY.cell 3 _ rfl
            have y4 := RY.cell 4 _ rfl
            have y5 := RY.cell 5 _ rfl
            have y6 := RY.cell 6 _ rfl
            obtain ⟨i0, hi, hz0, hz1, hz2⟩ := info_parts heldInfo
            have hk6 := kept_length HKP.out
            have hsz5 : w.heap.size + 1 ≤ w5.heap.size := by have := RA.lt; omega
            go_wp2_with (at_builtin; refine wpList_append_lies _ rfl (.tmp 45) (.tmp 47) 36 rfl (w.heap.size + 1) 124 i0 (.agg #[.int .i64 0, .int .i64 0, .int .i64 0, .int .i64 0, .int .i64 0, .string ⟨#[]⟩, .bool false]) 7 64 Tryz.underlying36 hi hz0 hz1 hz2 rfl (by decide) lv kept.length (hdsL kept) rfl (ownk.alloc _) ⟨w5.heap.size, 0, none⟩ 1 1 (hdL ⟨hk_, ⟨hw, hc, hs, hq, hd, hg⟩⟩) rfl rfl (World.news_of_block (heap_alloc_new w5 (.cells #[.int .i64 hk_, .int .i64 hw, .int .i64 hc, .int .i64 hs, .int .i64 hq, .string hd, .bool hg] 124))) (by intro u hu; simp [hdL] at hu; rcases hu with rfl | rfl | rfl | rfl | rfl | rfl | rfl <;> rfl) (by decide) (by simp only [maxLen]; omega) (by omega) (by simp; omega) _ rfl ?_; intro g cap9 wE ownE grE egE ltE)
            have rowsg : ∀ j, lv.ownBlock = some j → w.heap.size + 1 ≤ j := fun j hj => (ownk.lt j hj).1
            have RAE := (RA.boxed (.cells #[.int .i64 hk_, .int .i64 hw, .int .i64 hc, .int .i64 hs, .int .i64 hq, .string hd, .bool hg] 124)).grown4 grE (fun e => by have := rowsg _ e.symm; omega)
            have hbE := (boxed hb (.cells #[.int .i64 hk_, .int .i64 hw, .int .i64 hc, .int .i64 hs, .int .i64 hq, .string hd, .bool hg] 124)).grown grE (by have := hb.size; simp; omega) (fun j hj => by have := rowsg j hj; omega)
            go_roundw
            case rel => exact ⟨k + 1, z + 1, kept ++ [⟨hk_, ⟨hw, hc, hs, hq, hd, hg⟩⟩], _, rfl, by omega, by have := HZ.out; omega, by go_num, KF.out, by rw [hdsL_snoc, List.length_append]; exact ownE, RAE, hbE⟩
            case measure => simp [intOf]; omega
          · have dh : decide (depOf hs a0 a1 a2 a3 < hq) = false := decide_eq_false (by have := of_decide_eq_true (show decide (hq ≤ depOf hs a0 a1 a2 a3) = true from hh); omega)
            go_wp2_with fail
            refine wp_region_later (by kernel_rfl) (by kernel_rfl) ?_
            repeat (go_big_quiet_step (fail))
            refine wpQuiet_nil ?_
            rintro w5 ⟨⟨_, hb5⟩, rfl⟩
            replace RA := RA.later hb5
            replace RY := RY.later hb5
            replace ownk := own_below7 ownk hb5
            replace hb := behind hb hb5
            clear hb5
            have KF : Hid ((l.take (k + 1)).filter (keepV a0 a1 a2 a3 l) = kept) := by
              have e : keepV a0 a1 a2 a3 l (hdAt l k) = false := by rw [KE.out]; rw [ev, hh]; rfl
              show (l.take (k + 1)).filter (keepV a0 a1 a2 a3 l) = kept
              rw [take_hd hlt, List.filter_append, HKP.out]
              simp [e]
            go_wp2_with fail
            go_roundw
            case rel => exact ⟨k + 1, z + 1, kept, _, rfl, by omega, by have := HZ.out; omega, by go_num, KF.out, ownk, RA, hb⟩
            case measure => simp [intOf]; omega
        · have eqv2 := fun w => (eqVerB ⟨bw, bc, bs, bq, bd, bg⟩ ⟨hw, hc, hs, hq, hd, hg⟩ w).trans (by rw [ev])
          go_wp2_with fail
          refine wp_region_later (by kernel_rfl) (by kernel_rfl) ?_
          repeat (go_big_quiet_step (fail))
          refine wpQuiet_nil ?_
          rintro w5 ⟨⟨_, hb5⟩, rfl⟩
          replace RA := RA.later hb5
          replace RY := RY.later hb5
          replace ownk := own_below7 ownk hb5
          replace hb := behind hb hb5
          clear hb5
          have KF : Hid ((l.take (k + 1)).filter (keepV a0 a1 a2 a3 l) = kept ++ [⟨hk_, ⟨hw, hc, hs, hq, hd, hg⟩⟩]) := by
            have e : keepV a0 a1 a2 a3 l (hdAt l k) = true := by rw [KE.out]; rw [ev]; rfl
            show (l.take (k + 1)).filter (keepV a0 a1 a2 a3 l) = _
            rw [take_hd hlt, List.filter_append, HKP.out, ← HX.out]
            simp [e]
          have y0 := RY.cell 0 _ rfl
          have y1 := RY.cell 1 _ rfl
          have y2 := RY.cell 2 _ rfl
          have y3 := RY.cell 3 _ rfl
          have y4 := RY.cell 4 _ rfl
          have y5 := RY.cell 5 _ rfl
          have y6 := RY.cell 6 _ rfl
          obtain ⟨i0, hi, hz0, hz1, hz2⟩ := info_parts heldInfo
          have hk6 := kept_length HKP.out
          have hsz5 : w.heap.size + 1 ≤ w5.heap.size := by have := RA.lt; omega
          go_wp2_with (at_builtin; refine wpList_append_lies _ rfl (.tmp 45) (.tmp 47) 36 rfl (w.heap.size + 1) 124 i0 (.agg #[.int .i64 0, .int .i64 0, .int .i64 0, .int .i64 0, .int .i64 0, .string ⟨#[]⟩, .bool false]) 7 64 Tryz.underlying36 hi hz0 hz1 hz2 rfl (by decide) lv kept.length (hdsL kept) rfl (ownk.alloc _) ⟨w5.heap.size, 0, none⟩ 1 1 (hdL ⟨hk_, ⟨hw, hc, hs, hq, hd, hg⟩⟩) rfl rfl (World.news_of_block (heap_alloc_new w5 (.cells #[.int .i64 hk_, .int .i64 hw, .int .i64 hc, .int .i64 hs, .int .i64 hq, .string hd, .bool hg] 124))) (by intro u hu; simp [hdL] at hu; rcases hu with rfl | rfl | rfl | rfl | rfl | rfl | rfl <;> rfl) (by decide) (by simp only [maxLen]; omega) (by omega) (by simp; omega) _ rfl ?_; intro g cap9 wE ownE grE egE ltE)
          have rowsg : ∀ j, lv.ownBlock = some j → w.heap.size + 1 ≤ j := fun j hj => (ownk.lt j hj).1
          have RAE := (RA.boxed (.cells #[.int .i64 hk_, .int .i64 hw, .int .i64 hc, .int .i64 hs, .int .i64 hq, .string hd, .bool hg] 124)).grown4 grE (fun e => by have := rowsg _ e.symm; omega)
          have hbE := (boxed hb (.cells #[.int .i64 hk_, .int .i64 hw, .int .i64 hc, .int .i64 hs, .int .i64 hq, .string hd, .bool hg] 124)).grown grE (by have := hb.size; simp; omega) (fun j hj => by have := rowsg j hj; omega)
          go_roundw
          case rel => exact ⟨k + 1, z + 1, kept ++ [⟨hk_, ⟨hw, hc, hs, hq, hd, hg⟩⟩], _, rfl, by omega, by have := HZ.out; omega, by go_num, KF.out, by rw [hdsL_snoc, List.length_append]; exact ownE, RAE, hbE⟩
          case measure => simp [intOf]; omega
    · have h4 : ¬ z < (l.length : Int) := by omega
      have e : k = l.length := by omega
      have KP : Hid (sweepL a0 a1 a2 a3 l = kept) := by
        show sweepL a0 a1 a2 a3 l = kept
        have := HKP.out
        rw [e, List.take_length] at this
        exact this
      clear hz e
      have S4 := hS.later hb
      have s0 : wr.cell? ⟨sb, 0, none⟩ = some (.slice a l.length cap) := S4.box.cell 0 _ rfl
      have s1 : wr.frozen? ⟨sb, 0, none⟩ = false := S4.box.free 0 (by simp)
      have rowsg : ∀ j, lv.ownBlock = some j → w.heap.size + 1 ≤ j := fun j hj => (ownk.lt j hj).1
      obtain ⟨a9, cap9, rfl, _⟩ := hdIn_own ownk
      have BZ := S4.box.set 0 (.slice a9 kept.length cap9) (by simp)
      have nsb : (Value.slice a9 kept.length cap9).ownBlock ≠ some sb := fun e => by have := rowsg sb e; omega
      have ownZ := Joins.ownsRow_le (ownk.kept (row := some sb) (onlyCell sb 0 wr (.slice a9 kept.length cap9)) (.inr nsb)) (Nat.zero_le _)
      have TZ : Touch (footR sb (.slice a l.length cap)) w (wr.setCell ⟨sb, 0, none⟩ (.slice a9 kept.length cap9)) := (Touch.ofBelow hb).trans (Touch.setCell wr ⟨sb, 0, none⟩ _ (.inl rfl))
      have FIN : Hid (PutPost w sb (.slice a l.length cap) kept (wr.setCell ⟨sb, 0, none⟩ (.slice a9 kept.length cap9))) :=
        ⟨_, ⟨BZ, ownZ, nsb, fun x hx => by
          rw [← KP.out] at hx
          exact hS.ok x (List.mem_filter.1 hx).1⟩, fun j hj => .inr (by have := rowsg j hj; omega), TZ⟩
      clear BZ ownZ TZ
      go_wp2_with fail
      go_end0
      exact ⟨rfl, by rw [KP.out]; exact FIN.out⟩

end Go.Proofs.YtpncedpfoakfkaaGreatDoor

namespace Go.Proofs.YtpncedpfoakfkaaGreatDoor
open Go.RowKit

theorem stepV_cases (key a0 a1 a2 a3 : Int) (best : Option Ver) (h : Hd) : stepV key a0 a1 a2 a3 best h = best ∨ (stepV key a0 a1 a2 a3 best h = some h.v ∧ h.key = key ∧ hasV a0 a1 a2 a3 h.v = true) := by
  by_cases hc : h.key = key ∧ hasV a0 a1 a2 a3 h.v = true ∧ (match best with | none => true | some b => beforeV b h.v) = true
  · exact .inr ⟨stepV_some hc, hc.1, hc.2.1⟩
  · exact .inl (stepV_none hc)
theorem foldl_step (key a0 a1 a2 a3 : Int) (v : Ver) : ∀ (l : List Hd) (best : Option Ver), l.foldl (stepV key a0 a1 a2 a3) best = some v → best = some v ∨ ∃ h ∈ l, h.v = v ∧ h.key = key ∧ hasV a0 a1 a2 a3 v = true
  | [], best, h => .inl h
  | x :: l, best, h => by
    rcases foldl_step key a0 a1 a2 a3 v l _ h with e | ⟨y, hy, e⟩
    · rcases stepV_cases key a0 a1 a2 a3 best x with hc | ⟨hc, h1, h2⟩
      · rw [hc] at e
        exact .inl e
      · rw [hc] at e
        injection e with e
        subst e
        exact .inr ⟨x, by simp, rfl, h1, h2⟩
    · exact .inr ⟨y, by simp [hy], e⟩
/-- the last one is one of those that are held -/
theorem lastV_mem {key a0 a1 a2 a3 : Int} {l : List Hd} {v : Ver} (h : lastV key a0 a1 a2 a3 l = some v) : ∃ x ∈ l, x.v = v ∧ x.key = key ∧ hasV a0 a1 a2 a3 v = true := by
  rcases foldl_step key a0 a1 a2 a3 v l none h with e | e
  · cases e
  · exact e
theorem okVer_size {v : Ver} (h : okVer v = true) : v.data.size ≤ 12 := by
  simp only [okVer, Bool.and_eq_true, decide_eq_true_eq] at h
  have := h.1.2
  omega
theorem readV_size {key a0 a1 a2 a3 : Int} {l : List Hd} (hok : ∀ h ∈ l, okVer h.v = true) : (readV key a0 a1 a2 a3 l).1.data.size ≤ 12 := by
  have z : ver0.data.size ≤ 12 := by decide
  unfold readV
  split
  · cases e : lastV key a0 a1 a2 a3 l with
    | none => exact z
    | some v =>
      obtain ⟨x, hx, e2, _⟩ := lastV_mem e
      show (if v.gone = true then (ver0, (8 : Int)) else (v, 0)).1.data.size ≤ 12
      split
      · exact z
      · rw [← e2]; exact okVer_size (hok x hx)
  · exact z

/-- what is told of a key -/
def toldV (a0 a1 a2 a3 : Int) (l : List Hd) (key : Int) : ByteArray := if (readV key a0 a1 a2 a3 l).2 = 0 then (⟨#[61]⟩ : ByteArray) ++ (readV key a0 a1 a2 a3 l).1.data else ⟨#[]⟩
/-- .. of the first k keys, as cells -/
def toldC (a0 a1 a2 a3 : Int) (l : List Hd) (k : Nat) : List Value := (List.range k).map fun (i : Nat) => Value.string (toldV a0 a1 a2 a3 l i)
theorem toldC_succ (a0 a1 a2 a3 : Int) (l : List Hd) (k : Nat) : toldC a0 a1 a2 a3 l (k + 1) = toldC a0 a1 a2 a3 l k ++ [.string (toldV a0 a1 a2 a3 l k)] := by
  unfold toldC
  rw [List.range_succ, List.map_append]
  rfl

theorem strInfo : (Tryz.prog.info? 9).map (fun i => (i.zero, i.size, i.bytes)) = some (some (.string ⟨#[]⟩), 1, 16) := by kernel_rfl

set_option maxHeartbeats 8000000 in
theorem refTold_any {sb : Nat} {sv : Value} {l : List Hd} (a0 a1 a2 a3 : Int) (w : World) (hS : RefSt w sb sv l) (hl : l.length ≤ 1000) :
    Calls Tryz.prog 27 #[.pointer (some ⟨sb, 0, none⟩), .agg #[.int .i64 a0, .int .i64 a1, .int .i64 a2, .int .i64 a3]] w fun e w' => ∃ v, e = .returned v ∧ w'.ownsRow (w.heap.size + 1) 9 1 v 8 (toldC a0 a1 a2 a3 l 8) ∧ Below w.heap.size w w' := by
  obtain ⟨a, cap, rfl, hH⟩ := hdIn_own hS.own
  have RA := Row4.new w 32 a0 a1 a2 a3
  have hb := boxed (Below.refl _ w) (.cells #[.int .i64 a0, .int .i64 a1, .int .i64 a2, .int .i64 a3] 32)
  go_enter Tryz.func27, Tryz.ntmps27
  go_wp2_with fail
  obtain ⟨W, hWW⟩ : ∃ W, w.alloc (.cells #[.int .i64 a0, .int .i64 a1, .int .i64 a2, .int .i64 a3] 32) = W := ⟨_, rfl⟩
  rw [hWW] at RA hb ⊢
  clear hWW
  go_loopw [5, 9] (fun sl iv wr => ∃ (k : Nat) (z : Int) (lv : Value), lv = sl ∧ k ≤ 8 ∧ z = k ∧ iv = .int .i64 z ∧ wr.ownsRow (w.heap.size + 1) 9 1 lv k (toldC a0 a1 a2 a3 l k) ∧ Row4 wr w.heap.size a0 a1 a2 a3 ∧ Below w.heap.size w wr) (fun _ i _ => 8 - (intOf i).toNat)
  case atStart => exact ⟨0, 0, _, rfl, by omega, rfl, rfl, World.ownsRow_nil _ _ _ _, RA, hb⟩
  case round =>
    clear RA hb
    obtain ⟨k, z, lv, hsl, hk, hz, rfl, ownk, RA, hb⟩ := hrel
    subst hsl
    have HZ : Hid (z = k) := hz
    by_cases hlt : k < 8
    · have h1 : z < 8 := by omega
      have h3 : 0 ≤ z := by omega
      have S4 := hS.later hb
      have hH4 := hH.later hb
      have c0 := RA.c0
      have c1 := RA.c1
      have c2 := RA.c2
      have c3 := RA.c3
      clear hz
      go_wp2_with fail
      refine (refRead_any z a0 a1 a2 a3 _ (S4.box.cell 0 _ rfl) hH4 hS.ok (by omega)).mono ?_
      rintro e w2 ⟨rfl, hb2⟩
      clear c0 c1 c2 c3 S4 hH4
      have hsize := readV_size (key := z) (a0 := a0) (a1 := a1) (a2 := a2) (a3 := a3) hS.ok
      have TK0 : Hid (toldV a0 a1 a2 a3 l k = if (readV z a0 a1 a2 a3 l).2 = 0 then (⟨#[61]⟩ : ByteArray) ++ (readV z a0 a1 a2 a3 l).1.data else ⟨#[]⟩) := by
        show toldV a0 a1 a2 a3 l k = _
        rw [HZ.out]
        rfl
      obtain ⟨⟨rv, re⟩, hrd⟩ : ∃ x, readV z a0 a1 a2 a3 l = x := ⟨_, rfl⟩
      rw [hrd] at TK0 hsize ⊢
      simp only at TK0 hsize ⊢
      clear hrd
      obtain ⟨bw, bc, bs, bq, bd, bg⟩ := rv
      simp only at TK0 hsize
      rw [show verL ⟨bw, bc, bs, bq, bd, bg⟩ = [.int .i64 bw, .int .i64 bc, .int .i64 bs, .int .i64 bq, .string bd, .bool bg] from rfl]
      replace RA := (RA.later hb2).boxed (.cells #[.int .i64 bw, .int .i64 bc, .int .i64 bs, .int .i64 bq, .string bd, .bool bg] 59)
      have ownk1 : w2.ownsRow (w.heap.size + 1) 9 1 lv k (toldC a0 a1 a2 a3 l k) := ownk.kept (row := none) ⟨hb2.os, hb2.tape, hb2.output, hb2.size, fun j hj _ => hb2.block j hj⟩ (by cases lv.ownBlock <;> simp)
      replace ownk := ownk1.alloc (.cells #[.int .i64 bw, .int .i64 bc, .int .i64 bs, .int .i64 bq, .string bd, .bool bg] 59)
      replace hb := boxed (behind hb hb2) (.cells #[.int .i64 bw, .int .i64 bc, .int .i64 bs, .int .i64 bq, .string bd, .bool bg] 59)
      have RB := RowL.new (w := w2) (T := 59) [.int .i64 bw, .int .i64 bc, .int .i64 bs, .int .i64 bq, .string bd, .bool bg] rfl
      clear hb2 ownk1
      have d3 := RB.cell 4 _ rfl
      obtain ⟨i0, hi, hz0, hz1, hz2⟩ := info_parts strInfo
      have hsz : w.heap.size + 1 ≤ w2.heap.size + 1 := by have h := RA.lt; rw [World.size_alloc] at h; omega
      by_cases he0 : re = 0
      · have ee : (re == 0) = true := by simp [he0]
        have TK : Hid (toldV a0 a1 a2 a3 l k = (⟨#[61]⟩ : ByteArray) ++ bd) := by show toldV a0 a1 a2 a3 l k = _; rw [TK0.out, if_pos he0]
        have ad := fun w => addS (P := Tryz.prog) (⟨#[61]⟩ : ByteArray) bd (by have z : (⟨#[61]⟩ : ByteArray).size = 1 := rfl; omega) w
        clear he0 TK0
        have nw : ((w2.alloc (.cells #[.int .i64 bw, .int .i64 bc, .int .i64 bs, .int .i64 bq, .string bd, .bool bg] 59)).alloc (.cells #[.string ((⟨#[61]⟩ : ByteArray) ++ bd)] 9)).heap[w2.heap.size + 1]? = some (.cells #[.string ((⟨#[61]⟩ : ByteArray) ++ bd)] 9) := by have h := heap_alloc_new (w2.alloc (.cells #[.int .i64 bw, .int .i64 bc, .int .i64 bs, .int .i64 bq, .string bd, .bool bg] 59)) (.cells #[.string ((⟨#[61]⟩ : ByteArray) ++ bd)] 9); rw [World.size_alloc] at h; exact h
        go_wp2_with (at_builtin; refine wpList_append_lies _ rfl (.tmp 21) (.tmp 25) 68 rfl (w.heap.size + 1) 9 i0 (.string ⟨#[]⟩) 1 16 Tryz.underlying68 hi hz0 hz1 hz2 rfl (by decide) lv k (toldC a0 a1 a2 a3 l k) rfl (ownk.alloc _) ⟨w2.heap.size + 1, 0, none⟩ 1 1 [.string ((⟨#[61]⟩ : ByteArray) ++ bd)] rfl rfl (World.news_of_block nw) (by intro u hu; simp at hu; rw [hu]; rfl) (by decide) (by simp only [maxLen]; omega) (by omega) (by simp; omega) _ rfl ?_; intro g cap9 wE ownE grE egE ltE)
        have rowsg : ∀ j, lv.ownBlock = some j → w.heap.size + 1 ≤ j := fun j hj => (ownk.lt j hj).1
        have RAE := (RA.boxed (.cells #[.string ((⟨#[61]⟩ : ByteArray) ++ bd)] 9)).grown4 grE (fun e => by have := rowsg _ e.symm; omega)
        have hbE := (boxed hb (.cells #[.string ((⟨#[61]⟩ : ByteArray) ++ bd)] 9)).grown grE (by have := hb.size; simp; omega) (fun j hj => by have := rowsg j hj; omega)
        go_roundw
        case rel => exact ⟨k + 1, z + 1, _, rfl, by omega, by have := HZ.out; omega, by go_num, by rw [toldC_succ, TK.out]; exact ownE, RAE, hbE⟩
        case measure => simp [intOf]; omega
      · have ee : (re == 0) = false := beq_eq_false_iff_ne.2 he0
        have TK : Hid (toldV a0 a1 a2 a3 l k = ⟨#[]⟩) := by show toldV a0 a1 a2 a3 l k = _; rw [TK0.out, if_neg he0]
        clear he0 TK0
        have nw : ((w2.alloc (.cells #[.int .i64 bw, .int .i64 bc, .int .i64 bs, .int .i64 bq, .string bd, .bool bg] 59)).alloc (.cells #[.string ⟨#[]⟩] 9)).heap[w2.heap.size + 1]? = some (.cells #[.string ⟨#[]⟩] 9) := by have h := heap_alloc_new (w2.alloc (.cells #[.int .i64 bw, .int .i64 bc, .int .i64 bs, .int .i64 bq, .string bd, .bool bg] 59)) (.cells #[.string ⟨#[]⟩] 9); rw [World.size_alloc] at h; exact h
        go_wp2_with (at_builtin; refine wpList_append_lies _ rfl (.tmp 27) (.tmp 28) 68 rfl (w.heap.size + 1) 9 i0 (.string ⟨#[]⟩) 1 16 Tryz.underlying68 hi hz0 hz1 hz2 rfl (by decide) lv k (toldC a0 a1 a2 a3 l k) rfl (ownk.alloc _) ⟨w2.heap.size + 1, 0, none⟩ 1 1 [.string ⟨#[]⟩] rfl rfl (World.news_of_block nw) (by intro u hu; simp at hu; rw [hu]; rfl) (by decide) (by simp only [maxLen]; omega) (by omega) (by simp; omega) _ rfl ?_; intro g cap9 wE ownE grE egE ltE)
        have rowsg : ∀ j, lv.ownBlock = some j → w.heap.size + 1 ≤ j := fun j hj => (ownk.lt j hj).1
        have RAE := (RA.boxed (.cells #[.string ⟨#[]⟩] 9)).grown4 grE (fun e => by have := rowsg _ e.symm; omega)
        have hbE := (boxed hb (.cells #[.string ⟨#[]⟩] 9)).grown grE (by have := hb.size; simp; omega) (fun j hj => by have := rowsg j hj; omega)
        go_roundw
        case rel => exact ⟨k + 1, z + 1, _, rfl, by omega, by have := HZ.out; omega, by go_num, by rw [toldC_succ, TK.out]; exact ownE, RAE, hbE⟩
        case measure => simp [intOf]; omega
    · obtain rfl : k = 8 := by omega
      go_wp2_with fail
      go_ret
      exact ⟨lv, rfl, ownk, hb⟩

end Go.Proofs.YtpncedpfoakfkaaGreatDoor

namespace Go.Proofs.YtpncedpfoakfkaaGreatDoor
open Go.RowKit

/-- a transaction -/
structure TxP where
  site : Int
  seq : Int
  wall : Int
  count : Int
  d0 : Int
  d1 : Int
  d2 : Int
  d3 : Int
  ws : List Wr
/-- a write of it, as a version -/
def verOf (t : TxP) (x : Wr) : Ver := ⟨t.wall, t.count, t.site, t.seq, x.data, x.gone⟩
/-- its writes are put -/
def putsT (t : TxP) (ws : List Wr) (l : List Hd) : List Hd := ws.foldl (fun l x => putL l x.key (verOf t x)) l
theorem putsT_snoc {t : TxP} {ws : List Wr} {l : List Hd} {k : Nat} (hk : k < ws.length) : putsT t (ws.take (k + 1)) l = putL (putsT t (ws.take k) l) (wrAt ws k).key (verOf t (wrAt ws k)) := by
  unfold putsT
  rw [List.take_succ_eq_append_getElem hk, List.foldl_append]
  simp [wrAt, List.getD, List.getElem?_eq_getElem hk]
theorem putsT_length (t : TxP) : ∀ (ws : List Wr) (l : List Hd), (putsT t ws l).length ≤ l.length + ws.length
  | [], _ => by simp [putsT]
  | x :: ws, l => by
    have ih := putsT_length t ws (putL l x.key (verOf t x))
    have h : (putL l x.key (verOf t x)).length ≤ l.length + 1 := by
      unfold putL
      split
      · simp
      · omega
    show (putsT t ws (putL l x.key (verOf t x))).length ≤ _
    simp only [List.length_cons]
    omega

/-- a vector with one number another -/
def setV0 (s x a0 : Int) : Int := if s = 0 then x else a0
def setV1 (s x a1 : Int) : Int := if s = 1 then x else a1
def setV2 (s x a2 : Int) : Int := if s = 2 then x else a2
def setV3 (s x a3 : Int) : Int := if s = 3 then x else a3

/-- a site -/
structure SiteS where
  id : Int
  a0 : Int
  a1 : Int
  a2 : Int
  a3 : Int
  lw : Int
  lc : Int
  log : List TxP
  waits : List TxP
  l : List Hd
  oth : Nat → Int
/-- a transaction is applied -/
def applyS (S : SiteS) (t : TxP) : SiteS :=
  { S with a0 := setV0 t.site t.seq S.a0, a1 := setV1 t.site t.seq S.a1, a2 := setV2 t.site t.seq S.a2, a3 := setV3 t.site t.seq S.a3,
           lw := if 0 < cmpS t.wall t.count S.lw S.lc then t.wall else S.lw, lc := if 0 < cmpS t.wall t.count S.lw S.lc then t.count else S.lc,
           log := S.log ++ [t], l := putsT t t.ws S.l }
/-- it may be applied -/
def readyS (S : SiteS) (t : TxP) : Bool := decide (t.seq = depOf t.site S.a0 S.a1 S.a2 S.a3 + 1) && covB S.a0 S.a1 S.a2 S.a3 t.d0 t.d1 t.d2 t.d3

end Go.Proofs.YtpncedpfoakfkaaGreatDoor

namespace Go.Proofs.YtpncedpfoakfkaaGreatDoor
open Go.RowKit

/-- one cell of a block -/
structure Cell1 (w : World) (b o : Nat) (v : Value) : Prop where
  cell : w.cell? ⟨b, o, none⟩ = some v
  free : w.frozen? ⟨b, o, none⟩ = false
  lt : b < w.heap.size
theorem Cell1.kept {w w' : World} {b o : Nat} {v : Value} (h : Cell1 w b o v) (e : w'.heap[b]? = w.heap[b]?) (hs : w.heap.size ≤ w'.heap.size) : Cell1 w' b o v :=
  ⟨by rw [World.cell?_of_block (w := w) e]; exact h.cell, by rw [World.frozen?_of_block (w := w) e]; exact h.free, Nat.lt_of_lt_of_le h.lt hs⟩
theorem Cell1.later {w w' : World} {b o : Nat} {v : Value} (h : Cell1 w b o v) (hb : Below w.heap.size w w') : Cell1 w' b o v := h.kept (hb.block b h.lt) hb.size
theorem Cell1.grown {w w' : World} {r : Option Nat} {b o : Nat} {v : Value} (h : Cell1 w b o v) (hO : w.grownBy w' r) (hne : some b ≠ r) : Cell1 w' b o v := h.kept (hO.block b h.lt hne) hO.size
theorem Cell1.boxed {w : World} {b o : Nat} {v : Value} (h : Cell1 w b o v) (x : Obj) : Cell1 (w.alloc x) b o v := h.kept (Below.heap_alloc _ _ _ h.lt) (by simp)
theorem Cell1.drew {w : World} {b o : Nat} {v : Value} (h : Cell1 w b o v) : Cell1 w.drew b o v := h.kept rfl (Nat.le_refl _)
theorem Cell1.set {w : World} {b o : Nat} {v : Value} (h : Cell1 w b o v) (u : Value) : Cell1 (w.setCell ⟨b, o, none⟩ u) b o u :=
  ⟨World.cell?_setCell_same _ _ _ h.cell, by rw [World.frozen?_setCell]; exact h.free, by simpa [World.setCell] using h.lt⟩

/-- a store of the document, at an offset of a block -/
structure ORefSt (w : World) (sb so : Nat) (v : Value) (l : List Hd) : Prop where
  box : Cell1 w sb so v
  own : w.ownsRow 0 124 7 v l.length (hdsL l)
  apart : v.ownBlock ≠ some sb
  ok : ∀ h ∈ l, okVer h.v = true
/-- the other cells of its block are as they were -/
def Rest1 (sb so : Nat) (w w' : World) : Prop := ∀ j, j ≠ so → w'.cell? ⟨sb, j, none⟩ = w.cell? ⟨sb, j, none⟩ ∧ w'.frozen? ⟨sb, j, none⟩ = w.frozen? ⟨sb, j, none⟩
theorem Rest1.ofBlock {sb so : Nat} {w w' : World} (e : w'.heap[sb]? = w.heap[sb]?) : Rest1 sb so w w' := fun _ _ => ⟨World.cell?_of_block (w := w) e, World.frozen?_of_block (w := w) e⟩
theorem Rest1.trans {sb so : Nat} {a b c : World} (h : Rest1 sb so a b) (k : Rest1 sb so b c) : Rest1 sb so a c := fun j hj => ⟨(k j hj).1.trans (h j hj).1, (k j hj).2.trans (h j hj).2⟩
theorem Rest1.set (sb so : Nat) (w : World) (u : Value) : Rest1 sb so w (w.setCell ⟨sb, so, none⟩ u) := fun j hj => ⟨World.cell?_setCell_other _ _ _ _ (by intro e; injection e with _ e _; exact hj e.symm), World.frozen?_setCell _ _ _ _⟩
/-- what is left behind a change -/
def OPost (w : World) (sb so : Nat) (v : Value) (l' : List Hd) (w' : World) : Prop :=
  ∃ v', ORefSt w' sb so v' l' ∧ (∀ k, v'.ownBlock = some k → v.ownBlock = some k ∨ w.heap.size ≤ k) ∧ Touch (footR sb v) w w' ∧ Rest1 sb so w w'
theorem ORefSt.later {w w' : World} {sb so : Nat} {v : Value} {l : List Hd} (h : ORefSt w sb so v l) (hb : Below w.heap.size w w') : ORefSt w' sb so v l := ⟨h.box.later hb, own_below7 h.own hb, h.apart, h.ok⟩
theorem OPost.same {w w' : World} {sb so : Nat} {v : Value} {l : List Hd} (h : ORefSt w sb so v l) (hb : Below w.heap.size w w') : OPost w sb so v l w' :=
  ⟨v, h.later hb, fun _ hk => .inl hk, Touch.ofBelow hb, Rest1.ofBlock (hb.block sb h.box.lt)⟩

set_option maxHeartbeats 4000000 in
theorem oPut_range {sb so : Nat} {sv : Value} {l : List Hd} {key : Int} (h : inB key 0 7 = false) (v : Ver) (w : World) (hS : ORefSt w sb so sv l) :
    Calls Tryz.prog 82 #[.pointer (some ⟨sb, so, none⟩), .int .i64 key, .agg #[.int .i64 v.wall, .int .i64 v.count, .int .i64 v.site, .int .i64 v.seq, .string v.data, .bool v.gone]] w fun e w' => e = .returned (.int .i64 (putE l key v)) ∧ OPost w sb so sv (putL l key v) w' := by
  have e : putE l key v = 2 := by unfold putE; rw [h]; rfl
  have e2 : putL l key v = l := by unfold putL; rw [e]; rfl
  rw [e, e2]
  have H : Hid (inB key 0 7 = false) := h
  clear h e e2
  go_enter Tryz.func82, Tryz.ntmps82
  go_wp2_with fail
  refine (inB_is H.out _).mono ?_
  rintro e w1 ⟨rfl, hb1⟩
  go_wp2_with fail
  go_ret
  exact ⟨rfl, OPost.same hS (behind (boxed (Below.refl _ _) _) hb1)⟩

set_option maxHeartbeats 8000000 in
theorem oPut_arg {sb so : Nat} {sv : Value} {l : List Hd} {key : Int} (h : inB key 0 7 = true) (v : Ver) (hv : okVer v = false) (w : World) (hS : ORefSt w sb so sv l) :
    Calls Tryz.prog 82 #[.pointer (some ⟨sb, so, none⟩), .int .i64 key, .agg #[.int .i64 v.wall, .int .i64 v.count, .int .i64 v.site, .int .i64 v.seq, .string v.data, .bool v.gone]] w fun e w' => e = .returned (.int .i64 (putE l key v)) ∧ OPost w sb so sv (putL l key v) w' := by
  have e : putE l key v = 1 := by unfold putE; rw [h, hv]; rfl
  have e2 : putL l key v = l := by unfold putL; rw [e]; rfl
  rw [e, e2]
  have H : Hid (inB key 0 7 = true) := h
  clear h e e2
  obtain ⟨wl, ct, st, sq, dt, gn⟩ := v
  have R := RowL.new (w := w) (T := 59) [.int .i64 wl, .int .i64 ct, .int .i64 st, .int .i64 sq, .string dt, .bool gn] rfl
  have hb := boxed (Below.refl _ w) (.cells #[.int .i64 wl, .int .i64 ct, .int .i64 st, .int .i64 sq, .string dt, .bool gn] 59)
  go_enter Tryz.func82, Tryz.ntmps82
  go_wp2_with fail
  refine (inB_is H.out _).mono ?_
  rintro e w1 ⟨rfl, hb1⟩
  replace R := R.later hb1
  replace hb := behind hb hb1
  clear hb1
  have c0 := R.cell 0 _ rfl
  have c1 := R.cell 1 _ rfl
  cases p1 : (timeB wl && timeB ct)
  · have P1 : Hid ((timeB wl && timeB ct) = false) := p1
    clear p1
    go_wp2_with fail
    refine (refRight_is P1.out _).mono ?_
    rintro e w2 ⟨rfl, hb2⟩
    replace hb := behind hb hb2
    go_wp2_with fail
    go_ret
    exact ⟨rfl, OPost.same hS hb⟩
  · have P1 : Hid ((timeB wl && timeB ct) = true) := p1
    go_wp2_with fail
    refine (refRight_is P1.out _).mono ?_
    rintro e w2 ⟨rfl, hb2⟩
    replace R := R.later hb2
    replace hb := behind hb hb2
    clear hb2 c0 c1
    have c2 := R.cell 2 _ rfl
    cases p2 : inB st 0 3
    · have P2 : Hid (inB st 0 3 = false) := p2
      clear p1 p2
      go_wp2_with fail
      refine (inB_is P2.out _).mono ?_
      rintro e w3 ⟨rfl, hb3⟩
      replace hb := behind hb hb3
      go_wp2_with fail
      go_ret
      exact ⟨rfl, OPost.same hS hb⟩
    · have P2 : Hid (inB st 0 3 = true) := p2
      go_wp2_with fail
      refine (inB_is P2.out _).mono ?_
      rintro e w3 ⟨rfl, hb3⟩
      replace R := R.later hb3
      replace hb := behind hb hb3
      clear hb3 c2
      have c3 := R.cell 3 _ rfl
      cases p3 : inB sq 1 1099511627776
      · have P3 : Hid (inB sq 1 1099511627776 = false) := p3
        clear p1 p2 p3
        go_wp2_with fail
        refine (inB_is P3.out _).mono ?_
        rintro e w4 ⟨rfl, hb4⟩
        replace hb := behind hb hb4
        go_wp2_with fail
        go_ret
        exact ⟨rfl, OPost.same hS hb⟩
      · have P3 : Hid (inB sq 1 1099511627776 = true) := p3
        go_wp2_with fail
        refine (inB_is P3.out _).mono ?_
        rintro e w4 ⟨rfl, hb4⟩
        replace R := R.later hb4
        replace hb := behind hb hb4
        clear hb4 c3
        have c4 := R.cell 4 _ rfl
        have c5 := R.cell 5 _ rfl
        by_cases p4 : 12 < (dt.size : Int)
        · clear p1 p2 p3
          go_wp2_with fail
          go_ret
          exact ⟨rfl, OPost.same hS hb⟩
        · have d4 : decide ((dt.size : Int) ≤ 12) = true := decide_eq_true (by omega)
          cases gn
          · simp only [okVer, p1, p2, p3, d4, Bool.and_self, Bool.false_and, Bool.not_false] at hv
            cases hv
          · cases he : dt.toList.isEmpty
            · clear p1 p2 p3
              go_wp2_with fail
              go_ret
              exact ⟨rfl, OPost.same hS hb⟩
            · simp only [okVer, p1, p2, p3, d4, he, Bool.and_self, Bool.not_true, Bool.and_false, Bool.not_false] at hv
              cases hv

end Go.Proofs.YtpncedpfoakfkaaGreatDoor

namespace Go.Proofs.YtpncedpfoakfkaaGreatDoor
open Go.RowKit

set_option maxHeartbeats 8000000 in
theorem oPut_ok {sb so : Nat} {sv : Value} {l : List Hd} {key : Int} (h : inB key 0 7 = true) (v : Ver) (hv : okVer v = true) (w : World) (hS : ORefSt w sb so sv l) (hl : l.length ≤ 1000) :
    Calls Tryz.prog 82 #[.pointer (some ⟨sb, so, none⟩), .int .i64 key, .agg #[.int .i64 v.wall, .int .i64 v.count, .int .i64 v.site, .int .i64 v.seq, .string v.data, .bool v.gone]] w fun e w' => e = .returned (.int .i64 (putE l key v)) ∧ OPost w sb so sv (putL l key v) w' := by
  have he := eqStampB
  have H : Hid (inB key 0 7 = true) := h
  have HV : Hid (okVer v = true) := hv
  clear h
  obtain ⟨wl, ct, st, sq, dt, gn⟩ := v
  have hp := hv
  simp only [okVer, Bool.and_eq_true] at hp
  obtain ⟨⟨⟨⟨p1, p2⟩, p3⟩, p4⟩, p5⟩ := hp
  have P1 : Hid ((timeB wl && timeB ct) = true) := by show (timeB wl && timeB ct) = true; rw [p1.1, p1.2]; rfl
  have P2 : Hid (inB st 0 3 = true) := p2
  have P3 : Hid (inB sq 1 1099511627776 = true) := p3
  have hdt : ¬ 12 < (dt.size : Int) := by have := of_decide_eq_true p4; omega
  have P5 : Hid ((!(gn && !dt.toList.isEmpty)) = true) := p5
  clear p1 p2 p3 p4 p5 hv
  have R := RowL.new (w := w) (T := 59) [.int .i64 wl, .int .i64 ct, .int .i64 st, .int .i64 sq, .string dt, .bool gn] rfl
  have hb := boxed (Below.refl _ w) (.cells #[.int .i64 wl, .int .i64 ct, .int .i64 st, .int .i64 sq, .string dt, .bool gn] 59)
  go_enter Tryz.func82, Tryz.ntmps82
  go_wp2_with fail
  refine (inB_is H.out _).mono ?_
  rintro e w1 ⟨rfl, hb1⟩
  replace R := R.later hb1
  replace hb := behind hb hb1
  have c0 := R.cell 0 _ rfl
  have c1 := R.cell 1 _ rfl
  go_wp2_with fail
  refine (refRight_is P1.out _).mono ?_
  rintro e w2 ⟨rfl, hb2⟩
  replace R := R.later hb2
  replace hb := behind hb hb2
  clear hb1 hb2 c0 c1
  have c2 := R.cell 2 _ rfl
  go_wp2_with fail
  refine (inB_is P2.out _).mono ?_
  rintro e w3 ⟨rfl, hb3⟩
  replace R := R.later hb3
  replace hb := behind hb hb3
  clear hb3 c2
  have c3 := R.cell 3 _ rfl
  go_wp2_with fail
  refine (inB_is P3.out _).mono ?_
  rintro e w4 ⟨rfl, hb4⟩
  replace R := R.later hb4
  replace hb := behind hb hb4
  clear hb4 c3
  have c4 := R.cell 4 _ rfl
  have c5 := R.cell 5 _ rfl
  cases gn
  · skip
    obtain ⟨a, cap, rfl, hH⟩ := hdIn_own hS.own
    have hH4 := hH.later hb
    have box4 := hS.box.later hb
    have s0 : w4.cell? ⟨sb, so, none⟩ = some (.slice a l.length cap) := box4.cell
    go_wp2_with fail
    clear s0 box4
    go_loopw [48] (fun iv wr => ∃ (k : Nat) (z : Int), k ≤ l.length ∧ z = k ∧ iv = .int .i64 z ∧ (∀ j, j < k → twinB key ⟨wl, ct, st, sq, dt, false⟩ (hdAt l j) = false) ∧ RowL wr w.heap.size [.int .i64 wl, .int .i64 ct, .int .i64 st, .int .i64 sq, .string dt, .bool false] ∧ Below w.heap.size w wr) (fun i _ => l.length - (intOf i).toNat)
    case atStart => exact ⟨0, 0, by omega, rfl, rfl, fun j hj => by omega, R, hb⟩
    case round =>
      clear R hb hH4
      obtain ⟨k, z, hk, hz, rfl, hnt, R, hb⟩ := hrel
      have NT : Hid (∀ j, j < k → twinB key ⟨wl, ct, st, sq, dt, false⟩ (hdAt l j) = false) := hnt
      clear hnt
      have HZ : Hid (z = k) := hz
      have hH4 := hH.later hb
      by_cases hlt : k < l.length
      · have h1 : z < (l.length : Int) := by omega
        have h2 : z.toNat = k := by omega
        have h3 : 0 ≤ z := by omega
        clear hz
        obtain ⟨b, off, rfl, hcc⟩ : ∃ b off, a = some ⟨b, off, none⟩ ∧ ∀ i r u, i < l.length → (hdL (hdAt l i))[r]? = some u → wr.cell? ⟨b, off + (i * 7 + r), none⟩ = some u := by
          rcases hH4.held with h0 | h0
          · rw [h0] at hlt; simp at hlt
          · exact h0
        obtain ⟨⟨hk_, ⟨hw, hc, hs, hq, hd, hg⟩⟩, hx⟩ : ∃ x, hdAt l k = x := ⟨_, rfl⟩
        have x0 : wr.cell? ⟨b, off + k * 7, none⟩ = some (.int .i64 hk_) := hcc k 0 _ hlt (by rw [hx]; rfl)
        have x1 : wr.cell? ⟨b, off + k * 7 + 1, none⟩ = some (.int .i64 hw) := hcc k 1 _ hlt (by rw [hx]; rfl)
        have x2 : wr.cell? ⟨b, off + k * 7 + 2, none⟩ = some (.int .i64 hc) := hcc k 2 _ hlt (by rw [hx]; rfl)
        have x3 : wr.cell? ⟨b, off + k * 7 + 3, none⟩ = some (.int .i64 hs) := hcc k 3 _ hlt (by rw [hx]; rfl)
        have x4 : wr.cell? ⟨b, off + k * 7 + 4, none⟩ = some (.int .i64 hq) := hcc k 4 _ hlt (by rw [hx]; rfl)
        have x5 : wr.cell? ⟨b, off + k * 7 + 5, none⟩ = some (.string hd) := hcc k 5 _ hlt (by rw [hx]; rfl)
        have x6 : wr.cell? ⟨b, off + k * 7 + 6, none⟩ = some (.bool hg) := hcc k 6 _ hlt (by rw [hx]; rfl)
        have HX : Hid (hdAt l k = ⟨hk_, ⟨hw, hc, hs, hq, hd, hg⟩⟩) := hx
        clear hx hcc hH4
        have TW : Hid (twinB key ⟨wl, ct, st, sq, dt, false⟩ (hdAt l k) = ((hk_ == key) && same2 hw hc wl ct && (hs == st))) := by
          show twinB key ⟨wl, ct, st, sq, dt, false⟩ (hdAt l k) = _
          rw [HX.out]
          simp only [twinB, same2]
          rw [Bool.eq_iff_iff]
          simp
        have R' := R.boxed (.cells #[.int .i64 hk_, .int .i64 hw, .int .i64 hc, .int .i64 hs, .int .i64 hq, .string hd, .bool hg] 124)
        have hb' := boxed hb (.cells #[.int .i64 hk_, .int .i64 hw, .int .i64 hc, .int .i64 hs, .int .i64 hq, .string hd, .bool hg] 124)
        have c0 := R'.cell 0 _ rfl
        have c1 := R'.cell 1 _ rfl
        have c2 := R'.cell 2 _ rfl
        cases e1 : (hk_ == key)
        · have NT2 : Hid (∀ j, j < k + 1 → twinB key ⟨wl, ct, st, sq, dt, false⟩ (hdAt l j) = false) := fun j hj => by
            rcases Nat.lt_or_ge j k with g | g
            · exact NT.out j g
            · obtain rfl : j = k := by omega
              rw [TW.out, e1]; rfl
          go_wp2_with fail
          go_roundw
          case rel => exact ⟨k + 1, z + 1, by omega, by have := HZ.out; omega, by go_num, NT2.out, R', hb'⟩
          case measure => simp [intOf]; omega
        · cases e2 : same2 hw hc wl ct
          · have NT2 : Hid (∀ j, j < k + 1 → twinB key ⟨wl, ct, st, sq, dt, false⟩ (hdAt l j) = false) := fun j hj => by
              rcases Nat.lt_or_ge j k with g | g
              · exact NT.out j g
              · obtain rfl : j = k := by omega
                rw [TW.out, e1, e2]; rfl
            go_wp2_with fail
            go_roundw
            case rel => exact ⟨k + 1, z + 1, by omega, by have := HZ.out; omega, by go_num, NT2.out, R', hb'⟩
            case measure => simp [intOf]; omega
          · cases e3 : (hs == st)
            · have NT2 : Hid (∀ j, j < k + 1 → twinB key ⟨wl, ct, st, sq, dt, false⟩ (hdAt l j) = false) := fun j hj => by
                rcases Nat.lt_or_ge j k with g | g
                · exact NT.out j g
                · obtain rfl : j = k := by omega
                  rw [TW.out, e1, e2, e3]; rfl
              go_wp2_with fail
              go_roundw
              case rel => exact ⟨k + 1, z + 1, by omega, by have := HZ.out; omega, by go_num, NT2.out, R', hb'⟩
              case measure => simp [intOf]; omega
            · have PE : Hid (putE l key ⟨wl, ct, st, sq, dt, false⟩ = 9) := by
                have tt : twinB key ⟨wl, ct, st, sq, dt, false⟩ (hdAt l k) = true := by rw [TW.out, e1, e2, e3]; rfl
                have ta : l.any (twinB key ⟨wl, ct, st, sq, dt, false⟩) = true := List.any_eq_true.2 ⟨hdAt l k, by simp only [hdAt, List.getD, List.getElem?_eq_getElem hlt, Option.getD_some]; exact List.getElem_mem hlt, tt⟩
                show putE l key ⟨wl, ct, st, sq, dt, false⟩ = 9
                unfold putE
                rw [H.out, HV.out, ta]
                rfl
              have PL : Hid (putL l key ⟨wl, ct, st, sq, dt, false⟩ = l) := by show putL l key ⟨wl, ct, st, sq, dt, false⟩ = l; unfold putL; rw [PE.out]; rfl
              go_wp2_with fail
              go_ret
              exact ⟨by rw [PE.out]; rfl, by rw [PL.out]; exact OPost.same hS hb'⟩
      · have h4 : ¬ z < (l.length : Int) := by omega
        have PE : Hid (putE l key ⟨wl, ct, st, sq, dt, false⟩ = 0) := by
          have ta : l.any (twinB key ⟨wl, ct, st, sq, dt, false⟩) = false := by
            rw [List.any_eq_false]
            intro x hx
            obtain ⟨i, hi, rfl⟩ := List.mem_iff_getElem.1 hx
            have e := NT.out i (by omega)
            simp only [hdAt, List.getD, List.getElem?_eq_getElem hi, Option.getD_some] at e
            simp [e]
          show putE l key ⟨wl, ct, st, sq, dt, false⟩ = 0
          unfold putE
          rw [H.out, HV.out, ta]
          rfl
        have PL : Hid (putL l key ⟨wl, ct, st, sq, dt, false⟩ = l ++ [⟨key, ⟨wl, ct, st, sq, dt, false⟩⟩]) := by show putL l key ⟨wl, ct, st, sq, dt, false⟩ = _; unfold putL; rw [PE.out]; rfl
        clear hz
        have S4 := hS.later hb
        have s0 : wr.cell? ⟨sb, so, none⟩ = some (.slice a l.length cap) := S4.box.cell
        have s1 : wr.frozen? ⟨sb, so, none⟩ = false := S4.box.free
        have hsb : sb < wr.heap.size := S4.box.lt
        have c0 := R.cell 0 _ rfl
        have c1 := R.cell 1 _ rfl
        have c2 := R.cell 2 _ rfl
        have c3 := R.cell 3 _ rfl
        have c4 := R.cell 4 _ rfl
        have c5 := R.cell 5 _ rfl
        have ownd : wr.drew.ownsRow 0 124 7 (.slice a l.length cap) l.length (hdsL l) := S4.own
        obtain ⟨i0, hi, hz0, hz1, hz2⟩ := info_parts heldInfo
        go_wp2_with fail
        go_region_law (refine step_append_lies _ rfl (.tmp 77) (.tmp 81) 36 rfl 0 124 i0 (.agg #[.int .i64 0, .int .i64 0, .int .i64 0, .int .i64 0, .int .i64 0, .string ⟨#[]⟩, .bool false]) 7 64 Tryz.underlying36 hi hz0 hz1 hz2 rfl (by decide) (.slice a l.length cap) l.length (hdsL l) (by simp [Act.eval]) (ownd.alloc _) ⟨wr.heap.size, 0, none⟩ 1 1 (hdL ⟨key, ⟨wl, ct, st, sq, dt, false⟩⟩) (by simp [Act.eval]) rfl (World.news_of_block (heap_alloc_new wr.drew (.cells #[.int .i64 key, .int .i64 wl, .int .i64 ct, .int .i64 st, .int .i64 sq, .string dt, .bool false] 124))) (by intro u hu; simp [hdL] at hu; rcases hu with rfl | rfl | rfl | rfl | rfl | rfl | rfl <;> rfl) (by decide) (by simp only [maxLen]; omega) (by omega) (by simp) _ rfl ?_
                       intro g cap9 wE ownE grE egE ltE
                       have BE := ((S4.box.drew).boxed (.cells #[.int .i64 key, .int .i64 wl, .int .i64 ct, .int .i64 st, .int .i64 sq, .string dt, .bool false] 124)).grown grE (fun e => S4.apart e.symm)
                       have s0E : wE.cell? ⟨sb, so, none⟩ = some (.slice a l.length cap) := BE.cell
                       have s1E : wE.frozen? ⟨sb, so, none⟩ = false := BE.free)
        all_goals
          have BZ := BE.set (.slice (some ⟨g, 0, none⟩) (l.length + 1) cap9)
          have gne : g ≠ sb := by
            rcases egE with e | e
            · intro h
              rw [h] at e
              exact S4.apart e
            · simp at e
              omega
          have gnew : (Value.slice a l.length cap).ownBlock = some g ∨ w.heap.size ≤ g := by
            rcases egE with e | e
            · exact .inl e
            · right
              have := hb.size
              simp at e
              omega
          have ownZ := ownE.kept (row := some sb) (onlyCell sb so wE (.slice (some ⟨g, 0, none⟩) (l.length + 1) cap9)) (.inr (fun e => gne (by simpa [Value.ownBlock] using e)))
          have TZ : Touch (footR sb (.slice a l.length cap)) w (wE.setCell ⟨sb, so, none⟩ (.slice (some ⟨g, 0, none⟩) (l.length + 1) cap9)) :=
            (((Touch.ofBelow hb).trans (Touch.ofBelow (boxed ((Below.refl _ wr).drew) (.cells #[.int .i64 key, .int .i64 wl, .int .i64 ct, .int .i64 st, .int .i64 sq, .string dt, .bool false] 124)))).trans (Touch.grown grE (fun k hk => .inr hk))).trans (Touch.setCell wE ⟨sb, so, none⟩ _ (.inl rfl))
          have RZ : Rest1 sb so w (wE.setCell ⟨sb, so, none⟩ (.slice (some ⟨g, 0, none⟩) (l.length + 1) cap9)) :=
            (((Rest1.ofBlock (hb.block sb hS.box.lt)).trans (Rest1.ofBlock (w := wr) (Below.heap_alloc wr.drew _ sb hsb))).trans (Rest1.ofBlock (grE.block sb (by simp; omega) (fun e => S4.apart e.symm)))).trans (Rest1.set sb so wE _)
          have FIN : Hid (OPost w sb so (.slice a l.length cap) (l ++ [⟨key, ⟨wl, ct, st, sq, dt, false⟩⟩]) (wE.setCell ⟨sb, so, none⟩ (.slice (some ⟨g, 0, none⟩) (l.length + 1) cap9))) :=
            ⟨_, ⟨BZ, by rw [hdsL_snoc, List.length_append]; exact ownZ, fun e => gne (by simpa [Value.ownBlock] using e), fun x hx => by
              rcases List.mem_append.1 hx with h | h
              · exact hS.ok x h
              · obtain rfl := List.mem_singleton.1 h
                exact HV.out⟩, fun k hk => by
              have e : g = k := by simpa [Value.ownBlock] using hk
              rw [← e]
              exact gnew, TZ, RZ⟩
          clear BZ ownZ TZ gnew gne
          go_wp2_with fail
          go_ret
          exact ⟨by rw [PE.out]; rfl, by rw [PL.out]; exact FIN.out⟩
  · have em : dt.toList.isEmpty = true := by
      have := P5.out
      cases hx : dt.toList.isEmpty
      · rw [hx] at this; cases this
      · rfl
    obtain ⟨a, cap, rfl, hH⟩ := hdIn_own hS.own
    have hH4 := hH.later hb
    have box4 := hS.box.later hb
    have s0 : w4.cell? ⟨sb, so, none⟩ = some (.slice a l.length cap) := box4.cell
    go_wp2_with fail
    clear s0 box4
    go_loopw [48] (fun iv wr => ∃ (k : Nat) (z : Int), k ≤ l.length ∧ z = k ∧ iv = .int .i64 z ∧ (∀ j, j < k → twinB key ⟨wl, ct, st, sq, dt, true⟩ (hdAt l j) = false) ∧ RowL wr w.heap.size [.int .i64 wl, .int .i64 ct, .int .i64 st, .int .i64 sq, .string dt, .bool true] ∧ Below w.heap.size w wr) (fun i _ => l.length - (intOf i).toNat)
    case atStart => exact ⟨0, 0, by omega, rfl, rfl, fun j hj => by omega, R, hb⟩
    case round =>
      clear R hb hH4
      obtain ⟨k, z, hk, hz, rfl, hnt, R, hb⟩ := hrel
      have NT : Hid (∀ j, j < k → twinB key ⟨wl, ct, st, sq, dt, true⟩ (hdAt l j) = false) := hnt
      clear hnt
      have HZ : Hid (z = k) := hz
      have hH4 := hH.later hb
      by_cases hlt : k < l.length
      · have h1 : z < (l.length : Int) := by omega
        have h2 : z.toNat = k := by omega
        have h3 : 0 ≤ z := by omega
        clear hz
        obtain ⟨b, off, rfl, hcc⟩ : ∃ b off, a = some ⟨b, off, none⟩ ∧ ∀ i r u, i < l.length → (hdL (hdAt l i))[r]? = some u → wr.cell? ⟨b, off + (i * 7 + r), none⟩ = some u := by
          rcases hH4.held with h0 | h0
          · rw [h0] at hlt; simp at hlt
          · exact h0
        obtain ⟨⟨hk_, ⟨hw, hc, hs, hq, hd, hg⟩⟩, hx⟩ : ∃ x, hdAt l k = x := ⟨_, rfl⟩
        have x0 : wr.cell? ⟨b, off + k * 7, none⟩ = some (.int .i64 hk_) := hcc k 0 _ hlt (by rw [hx]; rfl)
        have x1 : wr.cell? ⟨b, off + k * 7 + 1, none⟩ = some (.int .i64 hw) := hcc k 1 _ hlt (by rw [hx]; rfl)
        have x2 : wr.cell? ⟨b, off + k * 7 + 2, none⟩ = some (.int .i64 hc) := hcc k 2 _ hlt (by rw [hx]; rfl)
        have x3 : wr.cell? ⟨b, off + k * 7 + 3, none⟩ = some (.int .i64 hs) := hcc k 3 _ hlt (by rw [hx]; rfl)
        have x4 : wr.cell? ⟨b, off + k * 7 + 4, none⟩ = some (.int .i64 hq) := hcc k 4 _ hlt (by rw [hx]; rfl)
        have x5 : wr.cell? ⟨b, off + k * 7 + 5, none⟩ = some (.string hd) := hcc k 5 _ hlt (by rw [hx]; rfl)
        have x6 : wr.cell? ⟨b, off + k * 7 + 6, none⟩ = some (.bool hg) := hcc k 6 _ hlt (by rw [hx]; rfl)
        have HX : Hid (hdAt l k = ⟨hk_, ⟨hw, hc, hs, hq, hd, hg⟩⟩) := hx
        clear hx hcc hH4
        have TW : Hid (twinB key ⟨wl, ct, st, sq, dt, true⟩ (hdAt l k) = ((hk_ == key) && same2 hw hc wl ct && (hs == st))) := by
          show twinB key ⟨wl, ct, st, sq, dt, true⟩ (hdAt l k) = _
          rw [HX.out]
          simp only [twinB, same2]
          rw [Bool.eq_iff_iff]
          simp
        have R' := R.boxed (.cells #[.int .i64 hk_, .int .i64 hw, .int .i64 hc, .int .i64 hs, .int .i64 hq, .string hd, .bool hg] 124)
        have hb' := boxed hb (.cells #[.int .i64 hk_, .int .i64 hw, .int .i64 hc, .int .i64 hs, .int .i64 hq, .string hd, .bool hg] 124)
        have c0 := R'.cell 0 _ rfl
        have c1 := R'.cell 1 _ rfl
        have c2 := R'.cell 2 _ rfl
        cases e1 : (hk_ == key)
        · have NT2 : Hid (∀ j, j < k + 1 → twinB key ⟨wl, ct, st, sq, dt, true⟩ (hdAt l j) = false) := fun j hj => by
            rcases Nat.lt_or_ge j k with g | g
            · exact NT.out j g
            · obtain rfl : j = k := by omega
              rw [TW.out, e1]; rfl
          go_wp2_with fail
          go_roundw
          case rel => exact ⟨k + 1, z + 1, by omega, by have := HZ.out; omega, by go_num, NT2.out, R', hb'⟩
          case measure => simp [intOf]; omega
        · cases e2 : same2 hw hc wl ct
          · have NT2 : Hid (∀ j, j < k + 1 → twinB key ⟨wl, ct, st, sq, dt, true⟩ (hdAt l j) = false) := fun j hj => by
              rcases Nat.lt_or_ge j k with g | g
              · exact NT.out j g
              · obtain rfl : j = k := by omega
                rw [TW.out, e1, e2]; rfl
            go_wp2_with fail
            go_roundw
            case rel => exact ⟨k + 1, z + 1, by omega, by have := HZ.out; omega, by go_num, NT2.out, R', hb'⟩
            case measure => simp [intOf]; omega
          · cases e3 : (hs == st)
            · have NT2 : Hid (∀ j, j < k + 1 → twinB key ⟨wl, ct, st, sq, dt, true⟩ (hdAt l j) = false) := fun j hj => by
                rcases Nat.lt_or_ge j k with g | g
                · exact NT.out j g
                · obtain rfl : j = k := by omega
                  rw [TW.out, e1, e2, e3]; rfl
              go_wp2_with fail
              go_roundw
              case rel => exact ⟨k + 1, z + 1, by omega, by have := HZ.out; omega, by go_num, NT2.out, R', hb'⟩
              case measure => simp [intOf]; omega
            · have PE : Hid (putE l key ⟨wl, ct, st, sq, dt, true⟩ = 9) := by
                have tt : twinB key ⟨wl, ct, st, sq, dt, true⟩ (hdAt l k) = true := by rw [TW.out, e1, e2, e3]; rfl
                have ta : l.any (twinB key ⟨wl, ct, st, sq, dt, true⟩) = true := List.any_eq_true.2 ⟨hdAt l k, by simp only [hdAt, List.getD, List.getElem?_eq_getElem hlt, Option.getD_some]; exact List.getElem_mem hlt, tt⟩
                show putE l key ⟨wl, ct, st, sq, dt, true⟩ = 9
                unfold putE
                rw [H.out, HV.out, ta]
                rfl
              have PL : Hid (putL l key ⟨wl, ct, st, sq, dt, true⟩ = l) := by show putL l key ⟨wl, ct, st, sq, dt, true⟩ = l; unfold putL; rw [PE.out]; rfl
              go_wp2_with fail
              go_ret
              exact ⟨by rw [PE.out]; rfl, by rw [PL.out]; exact OPost.same hS hb'⟩
      · have h4 : ¬ z < (l.length : Int) := by omega
        have PE : Hid (putE l key ⟨wl, ct, st, sq, dt, true⟩ = 0) := by
          have ta : l.any (twinB key ⟨wl, ct, st, sq, dt, true⟩) = false := by
            rw [List.any_eq_false]
            intro x hx
            obtain ⟨i, hi, rfl⟩ := List.mem_iff_getElem.1 hx
            have e := NT.out i (by omega)
            simp only [hdAt, List.getD, List.getElem?_eq_getElem hi, Option.getD_some] at e
            simp [e]
          show putE l key ⟨wl, ct, st, sq, dt, true⟩ = 0
          unfold putE
          rw [H.out, HV.out, ta]
          rfl
        have PL : Hid (putL l key ⟨wl, ct, st, sq, dt, true⟩ = l ++ [⟨key, ⟨wl, ct, st, sq, dt, true⟩⟩]) := by show putL l key ⟨wl, ct, st, sq, dt, true⟩ = _; unfold putL; rw [PE.out]; rfl
        clear hz
        have S4 := hS.later hb
        have s0 : wr.cell? ⟨sb, so, none⟩ = some (.slice a l.length cap) := S4.box.cell
        have s1 : wr.frozen? ⟨sb, so, none⟩ = false := S4.box.free
        have hsb : sb < wr.heap.size := S4.box.lt
        have c0 := R.cell 0 _ rfl
        have c1 := R.cell 1 _ rfl
        have c2 := R.cell 2 _ rfl
        have c3 := R.cell 3 _ rfl
        have c4 := R.cell 4 _ rfl
        have c5 := R.cell 5 _ rfl
        have ownd : wr.drew.ownsRow 0 124 7 (.slice a l.length cap) l.length (hdsL l) := S4.own
        obtain ⟨i0, hi, hz0, hz1, hz2⟩ := info_parts heldInfo
        go_wp2_with fail
        go_region_law (refine step_append_lies _ rfl (.tmp 77) (.tmp 81) 36 rfl 0 124 i0 (.agg #[.int .i64 0, .int .i64 0, .int .i64 0, .int .i64 0, .int .i64 0, .string ⟨#[]⟩, .bool false]) 7 64 Tryz.underlying36 hi hz0 hz1 hz2 rfl (by decide) (.slice a l.length cap) l.length (hdsL l) (by simp [Act.eval]) (ownd.alloc _) ⟨wr.heap.size, 0, none⟩ 1 1 (hdL ⟨key, ⟨wl, ct, st, sq, dt, true⟩⟩) (by simp [Act.eval]) rfl (World.news_of_block (heap_alloc_new wr.drew (.cells #[.int .i64 key, .int .i64 wl, .int .i64 ct, .int .i64 st, .int .i64 sq, .string dt, .bool true] 124))) (by intro u hu; simp [hdL] at hu; rcases hu with rfl | rfl | rfl | rfl | rfl | rfl | rfl <;> rfl) (by decide) (by simp only [maxLen]; omega) (by omega) (by simp) _ rfl ?_
                       intro g cap9 wE ownE grE egE ltE
                       have BE := ((S4.box.drew).boxed (.cells #[.int .i64 key, .int .i64 wl, .int .i64 ct, .int .i64 st, .int .i64 sq, .string dt, .bool true] 124)).grown grE (fun e => S4.apart e.symm)
                       have s0E : wE.cell? ⟨sb, so, none⟩ = some (.slice a l.length cap) := BE.cell
                       have s1E : wE.frozen? ⟨sb, so, none⟩ = false := BE.free)
        all_goals
          have BZ := BE.set (.slice (some ⟨g, 0, none⟩) (l.length + 1) cap9)
          have gne : g ≠ sb := by
            rcases egE with e | e
            · intro h
              rw [h] at e
              exact S4.apart e
            · simp at e
              omega
          have gnew : (Value.slice a l.length cap).ownBlock = some g ∨ w.heap.size ≤ g := by
            rcases egE with e | e
            · exact .inl e
            · right
              have := hb.size
              simp at e
              omega
          have ownZ := ownE.kept (row := some sb) (onlyCell sb so wE (.slice (some ⟨g, 0, none⟩) (l.length + 1) cap9)) (.inr (fun e => gne (by simpa [Value.ownBlock] using e)))
          have TZ : Touch (footR sb (.slice a l.length cap)) w (wE.setCell ⟨sb, so, none⟩ (.slice (some ⟨g, 0, none⟩) (l.length + 1) cap9)) :=
            (((Touch.ofBelow hb).trans (Touch.ofBelow (boxed ((Below.refl _ wr).drew) (.cells #[.int .i64 key, .int .i64 wl, .int .i64 ct, .int .i64 st, .int .i64 sq, .string dt, .bool true] 124)))).trans (Touch.grown grE (fun k hk => .inr hk))).trans (Touch.setCell wE ⟨sb, so, none⟩ _ (.inl rfl))
          have RZ : Rest1 sb so w (wE.setCell ⟨sb, so, none⟩ (.slice (some ⟨g, 0, none⟩) (l.length + 1) cap9)) :=
            (((Rest1.ofBlock (hb.block sb hS.box.lt)).trans (Rest1.ofBlock (w := wr) (Below.heap_alloc wr.drew _ sb hsb))).trans (Rest1.ofBlock (grE.block sb (by simp; omega) (fun e => S4.apart e.symm)))).trans (Rest1.set sb so wE _)
          have FIN : Hid (OPost w sb so (.slice a l.length cap) (l ++ [⟨key, ⟨wl, ct, st, sq, dt, true⟩⟩]) (wE.setCell ⟨sb, so, none⟩ (.slice (some ⟨g, 0, none⟩) (l.length + 1) cap9))) :=
            ⟨_, ⟨BZ, by rw [hdsL_snoc, List.length_append]; exact ownZ, fun e => gne (by simpa [Value.ownBlock] using e), fun x hx => by
              rcases List.mem_append.1 hx with h | h
              · exact hS.ok x h
              · obtain rfl := List.mem_singleton.1 h
                exact HV.out⟩, fun k hk => by
              have e : g = k := by simpa [Value.ownBlock] using hk
              rw [← e]
              exact gnew, TZ, RZ⟩
          clear BZ ownZ TZ gnew gne
          go_wp2_with fail
          go_ret
          exact ⟨by rw [PE.out]; rfl, by rw [PL.out]; exact FIN.out⟩

/-- Put, of whatever key and version -/
theorem oPut_any {sb so : Nat} {sv : Value} {l : List Hd} (key : Int) (v : Ver) (w : World) (hS : ORefSt w sb so sv l) (hl : l.length ≤ 1000) :
    Calls Tryz.prog 82 #[.pointer (some ⟨sb, so, none⟩), .int .i64 key, .agg #[.int .i64 v.wall, .int .i64 v.count, .int .i64 v.site, .int .i64 v.seq, .string v.data, .bool v.gone]] w fun e w' => e = .returned (.int .i64 (putE l key v)) ∧ OPost w sb so sv (putL l key v) w' := by
  cases h : inB key 0 7
  · exact oPut_range h v w hS
  · cases hv : okVer v
    · exact oPut_arg h v hv w hS
    · exact oPut_ok h v hv w hS hl

end Go.Proofs.YtpncedpfoakfkaaGreatDoor

namespace Go.Proofs.YtpncedpfoakfkaaGreatDoor
open Go.RowKit

/-- a transaction in memory: where its writes lie -/
structure TxM where
  t : TxP
  wa : Option Addr
  wc : Nat
def txC (m : TxM) : List Value := [.int .i64 m.t.site, .int .i64 m.t.seq, .int .i64 m.t.wall, .int .i64 m.t.count, .int .i64 m.t.d0, .int .i64 m.t.d1, .int .i64 m.t.d2, .int .i64 m.t.d3, .slice m.wa m.t.ws.length m.wc]
def txsC (l : List TxM) : List Value := l.flatMap txC
theorem txsC_snoc (l : List TxM) (m : TxM) : txsC (l ++ [m]) = txsC l ++ txC m := by simp [txsC]
theorem txC_one (m : TxM) : ∀ u ∈ txC m, u.oneCell' = true := by
  intro u hu
  simp [txC] at hu
  rcases hu with rfl | rfl | rfl | rfl | rfl | rfl | rfl | rfl | rfl <;> rfl
/-- the block of its writes -/
def TxM.blk (m : TxM) (k : Nat) : Prop := m.t.ws ≠ [] ∧ ∃ off, m.wa = some ⟨k, off, none⟩

/-- a site's cells -/
def siteC (S : SiteS) (lv wv sv : Value) : List Value :=
  [.int .i64 S.id, .int .i64 S.a0, .int .i64 S.a1, .int .i64 S.a2, .int .i64 S.a3, .int .i64 S.lw, .int .i64 S.lc, lv, wv, sv,
   .int .i64 (S.oth 0), .int .i64 (S.oth 1), .int .i64 (S.oth 2), .int .i64 (S.oth 3), .int .i64 (S.oth 4), .int .i64 (S.oth 5), .int .i64 (S.oth 6), .int .i64 (S.oth 7),
   .int .i64 (S.oth 8), .int .i64 (S.oth 9), .int .i64 (S.oth 10), .int .i64 (S.oth 11), .int .i64 (S.oth 12), .int .i64 (S.oth 13), .int .i64 (S.oth 14), .int .i64 (S.oth 15)]

def footS (b : Nat) (lv wv sv : Value) (k : Nat) : Prop := k = b ∨ lv.ownBlock = some k ∨ wv.ownBlock = some k ∨ sv.ownBlock = some k

/-- all but how the lists are the site's -/
structure SMem (w : World) (b : Nat) (lv wv sv : Value) (S : SiteS) (log waits : List TxM) : Prop where
  box : RowL w b (siteC S lv wv sv)
  rlog : w.ownsRow 0 44 9 lv log.length (txsC log)
  rwait : w.ownsRow 0 44 9 wv waits.length (txsC waits)
  own : w.ownsRow 0 124 7 sv S.l.length (hdsL S.l)
  ok : ∀ h ∈ S.l, okVer h.v = true
  nl : lv.ownBlock ≠ some b
  nw : wv.ownBlock ≠ some b
  ns : sv.ownBlock ≠ some b
  lw : ∀ k, lv.ownBlock = some k → wv.ownBlock ≠ some k
  ls : ∀ k, lv.ownBlock = some k → sv.ownBlock ≠ some k
  ws : ∀ k, wv.ownBlock = some k → sv.ownBlock ≠ some k
  hold : ∀ m ∈ log ++ waits, WrIn w m.wa m.wc m.t.ws ∧ ∀ k, m.blk k → ¬ footS b lv wv sv k

theorem SMem.lt {w : World} {b : Nat} {lv wv sv : Value} {S : SiteS} {log waits : List TxM} (h : SMem w b lv wv sv S log waits) : ∀ k, footS b lv wv sv k → k < w.heap.size := fun k hk => by
  rcases hk with rfl | hk | hk | hk
  · exact h.box.lt
  · exact (h.rlog.lt k hk).2
  · exact (h.rwait.lt k hk).2
  · exact (h.own.lt k hk).2
theorem own_keptN {w w' : World} {B n N : Nat} {T : TypeId} {v : Value} {xs : List Value} (h : w.ownsRow B T N v n xs) (hk : ∀ k, v.ownBlock = some k → w'.heap[k]? = w.heap[k]?) : w'.ownsRow B T N v n xs := by
  refine ⟨h.1, ?_⟩
  rcases h.2 with hn | ⟨g, cap, cur, rfl, hb, hg, rest⟩
  · exact .inl hn
  · exact .inr ⟨g, cap, cur, rfl, hb, by rw [hk g rfl]; exact hg, rest⟩
theorem WrIn.kept {w w' : World} {m : TxM} (h : WrIn w m.wa m.wc m.t.ws) (hk : ∀ k, m.blk k → w'.heap[k]? = w.heap[k]?) : WrIn w' m.wa m.wc m.t.ws := by
  refine ⟨h.len, h.cap, ?_⟩
  rcases h.held with h0 | ⟨b, off, e, c⟩
  · exact .inl h0
  · by_cases h0 : m.t.ws = []
    · exact .inl h0
    · refine .inr ⟨b, off, e, fun i hi => ?_⟩
      have eb := hk b ⟨h0, off, e⟩
      have := c i hi
      rw [World.cell?_of_block (w := w) (a := ⟨b, off + i * 3, none⟩) eb, World.cell?_of_block (w := w) (a := ⟨b, off + i * 3 + 1, none⟩) eb, World.cell?_of_block (w := w) (a := ⟨b, off + i * 3 + 1 + 1, none⟩) eb]
      exact this
theorem WrIn.blk_lt {w : World} {m : TxM} (h : WrIn w m.wa m.wc m.t.ws) : ∀ k, m.blk k → k < w.heap.size := fun k ⟨h0, off, e⟩ => by
  rcases h.held with h1 | ⟨b, off', e', c⟩
  · exact absurd h1 h0
  · rw [e] at e'
    injection e' with e'
    injection e' with e1 e2
    subst e1
    have hl : 0 < m.t.ws.length := by
      rcases Nat.eq_zero_or_pos m.t.ws.length with g | g
      · exact absurd (List.eq_nil_of_length_eq_zero g) h0
      · exact g
    exact World.block_lt_of_cell? _ _ (c 0 hl).1
theorem SMem.kept {w w' : World} {b : Nat} {lv wv sv : Value} {S : SiteS} {log waits : List TxM} (h : SMem w b lv wv sv S log waits) (hk : ∀ k, k < w.heap.size → w'.heap[k]? = w.heap[k]?) (hs : w.heap.size ≤ w'.heap.size) : SMem w' b lv wv sv S log waits :=
  ⟨h.box.kept (hk b h.box.lt) hs, own_keptN h.rlog (fun k e => hk k (h.rlog.lt k e).2), own_keptN h.rwait (fun k e => hk k (h.rwait.lt k e).2), own_keptN h.own (fun k e => hk k (h.own.lt k e).2), h.ok, h.nl, h.nw, h.ns, h.lw, h.ls, h.ws,
    fun m hm => ⟨(h.hold m hm).1.kept (fun k e => hk k ((h.hold m hm).1.blk_lt k e)), (h.hold m hm).2⟩⟩
theorem SMem.later {w w' : World} {b : Nat} {lv wv sv : Value} {S : SiteS} {log waits : List TxM} (h : SMem w b lv wv sv S log waits) (hb : Below w.heap.size w w') : SMem w' b lv wv sv S log waits := h.kept hb.block hb.size
theorem SMem.st {w : World} {b : Nat} {lv wv sv : Value} {S : SiteS} {log waits : List TxM} (h : SMem w b lv wv sv S log waits) : ORefSt w b 9 sv S.l := ⟨⟨h.box.cell 9 _ rfl, h.box.free 9 (by simp [siteC]), h.box.lt⟩, h.own, h.ns, h.ok⟩

/-- the store is another -/
theorem SMem.store {w w' : World} {b : Nat} {lv wv sv : Value} {S : SiteS} {log waits : List TxM} {l' : List Hd} (h : SMem w b lv wv sv S log waits) (hp : OPost w b 9 sv l' w') :
    ∃ sv', SMem w' b lv wv sv' { S with l := l' } log waits ∧ (∀ k, footS b lv wv sv' k → footS b lv wv sv k ∨ w.heap.size ≤ k) ∧ Touch (footS b lv wv sv) w w' := by
  obtain ⟨sv', st, hn, ht, hr⟩ := hp
  have kb : ∀ k, k < w.heap.size → k ≠ b → sv.ownBlock ≠ some k → w'.heap[k]? = w.heap[k]? := fun k hk h1 h2 => ht.block k hk (fun e => by
    rcases e with e | e
    · exact h1 e
    · exact h2 e)
  have kl : ∀ k, lv.ownBlock = some k → w'.heap[k]? = w.heap[k]? := fun k e => kb k (h.rlog.lt k e).2 (fun x => h.nl (by rw [← x]; exact e)) (h.ls k e)
  have kw : ∀ k, wv.ownBlock = some k → w'.heap[k]? = w.heap[k]? := fun k e => kb k (h.rwait.lt k e).2 (fun x => h.nw (by rw [← x]; exact e)) (h.ws k e)
  have nf : ∀ k, footS b lv wv sv' k → footS b lv wv sv k ∨ w.heap.size ≤ k := fun k hk => by
    rcases hk with hk | hk | hk | hk
    · exact .inl (.inl hk)
    · exact .inl (.inr (.inl hk))
    · exact .inl (.inr (.inr (.inl hk)))
    · rcases hn k hk with h1 | h1
      · exact .inl (.inr (.inr (.inr h1)))
      · exact .inr h1
  refine ⟨sv', ⟨⟨fun j v hv => ?_, fun j hj => ?_, st.box.lt⟩, own_keptN h.rlog kl, own_keptN h.rwait kw, st.own, st.ok, h.nl, h.nw, st.apart, h.lw, fun k e => ?_, fun k e => ?_, fun m hm => ⟨(h.hold m hm).1.kept (fun k e => ?_), fun k e hf => ?_⟩⟩, nf, ⟨ht.os, ht.tape, ht.output, ht.size, fun k hk hf => kb k hk (fun e => hf (.inl e)) (fun e => hf (.inr (.inr (.inr e))))⟩⟩
  · by_cases e : j = 9
    · subst e
      have hv' : v = sv' := by simpa [siteC] using hv.symm
      rw [hv']
      exact st.box.cell
    · rw [(hr j e).1]
      refine h.box.cell j v ?_
      rw [← hv]
      unfold siteC
      match j, e with
      | 0, _ => rfl
      | 1, _ => rfl
      | 2, _ => rfl
      | 3, _ => rfl
      | 4, _ => rfl
      | 5, _ => rfl
      | 6, _ => rfl
      | 7, _ => rfl
      | 8, _ => rfl
      | j + 10, _ => rfl
  · by_cases e : j = 9
    · subst e
      exact st.box.free
    · rw [(hr j e).2]
      exact h.box.free j hj
  · intro e2
    rcases hn k e2 with h1 | h1
    · exact h.ls k e h1
    · have := (h.rlog.lt k e).2
      omega
  · intro e2
    rcases hn k e2 with h1 | h1
    · exact h.ws k e h1
    · have := (h.rwait.lt k e).2
      omega
  · have lt := (h.hold m hm).1.blk_lt k e
    have nf0 := (h.hold m hm).2 k e
    exact kb k lt (fun x => nf0 (.inl x)) (fun x => nf0 (.inr (.inr (.inr x))))
  · rcases nf k hf with h1 | h1
    · exact (h.hold m hm).2 k e h1
    · have := (h.hold m hm).1.blk_lt k e
      omega

end Go.Proofs.YtpncedpfoakfkaaGreatDoor

namespace Go.Proofs.YtpncedpfoakfkaaGreatDoor
open Go.ChangeShapes Go.WideShapes Go.ChangeAt Go.RowKit Go.Joins Go.Deep
set_option maxRecDepth 100000

/-- what is done to a site -/
structure DoV where
  what : Int
  n : Int
  a0 : Int
  a1 : Int
  a2 : Int
  a3 : Int
  m : TxM
/-- its cells -/
def doC (p : DoV) : List Value := [.int .i64 p.what, .int .i64 p.n, .int .i64 p.a0, .int .i64 p.a1, .int .i64 p.a2, .int .i64 p.a3] ++ txC p.m
def do0 : DoV := ⟨0, 0, 0, 0, 0, 0, ⟨⟨0, 0, 0, 0, 0, 0, 0, 0, []⟩, none, 0⟩⟩
def doAt (l : List DoV) (i : Nat) : DoV := l.getD i do0

/-- a slice that holds them: none, or its cells lie in one block; their transactions' writes lie where they say -/
structure DoIn (w : World) (a : Option Addr) (cap : Nat) (l : List DoV) : Prop where
  len : l.length ≤ cap
  cap : cap ≤ 9223372036854775807
  held : l = [] ∨ ∃ b off, a = some ⟨b, off, none⟩ ∧ ∀ i r u, i < l.length → (doC (doAt l i))[r]? = some u → w.cell? ⟨b, off + (i * 15 + r), none⟩ = some u
  wr : ∀ i, i < l.length → WrIn w (doAt l i).m.wa (doAt l i).m.wc (doAt l i).m.t.ws
theorem DoIn.later {w w' : World} {a : Option Addr} {cap : Nat} {l : List DoV} (hb : Below w.heap.size w w') (h : DoIn w a cap l) : DoIn w' a cap l :=
  ⟨h.len, h.cap, h.held.elim .inl fun ⟨b, off, e, c⟩ => .inr ⟨b, off, e, fun i r u hi hu => cell_later hb (c i r u hi hu)⟩, fun i hi => (h.wr i hi).later hb⟩

theorem cellsDo : Tryz.prog.cellsOf 46 = 15 := by kernel_rfl
theorem list4d {α : Type} {l : List α} (h : l.length = 4) : ∃ a b c d, l = [a, b, c, d] := by
  match l, h with
  | [a, b, c, d], _ => exact ⟨a, b, c, d, rfl⟩
theorem list15 {α : Type} {l : List α} (h : l.length = 15) : ∃ c0 c1 c2 c3 c4 c5 c6 c7 c8 c9 c10 c11 c12 c13 c14, l = [c0, c1, c2, c3, c4, c5, c6, c7, c8, c9, c10, c11, c12, c13, c14] := by
  match l, h with
  | [c0, c1, c2, c3, c4, c5, c6, c7, c8, c9, c10, c11, c12, c13, c14], _ => exact ⟨c0, c1, c2, c3, c4, c5, c6, c7, c8, c9, c10, c11, c12, c13, c14, rfl⟩

section
variable {H : Type} {enc : TypeId × Value → H} {W : World}

/-- a transaction's nine cells -/
theorem open_tx9 {fuel : Nat} {c0 c1 c2 c3 c4 c5 c6 c7 c8 : Value} {x : DataW H × List MemPlace} (h : DataW.trod enc Tryz.prog W 0 (fun _ => true) true fuel 44 [c0, c1, c2, c3, c4, c5, c6, c7, c8] = some x) :
    ∃ m : TxM, [c0, c1, c2, c3, c4, c5, c6, c7, c8] = txC m ∧ WrIn W m.wa m.wc m.t.ws := by
  obtain ⟨xs, n, _, _, _, hlen, hfl⟩ := DataW.trod_struct Tryz.underlying44 h
  obtain ⟨y0, y1, y2, y3, y4, rfl⟩ := list5 hlen
  · have f0 := hfl 0 _ rfl
    have f1 := hfl 1 _ rfl
    have f2 := hfl 2 _ rfl
    have f3 := hfl 3 _ rfl
    have f4 := hfl 4 _ rfl
    simp [cellsInt, cellsS, cellsV, cellsWs] at f0 f1 f2 f3 f4
    obtain ⟨site, e0, _, _⟩ := DataW.trod_int Tryz.underlying3 f0
    obtain ⟨seq, e1, _, _⟩ := DataW.trod_int Tryz.underlying3 f1
    obtain ⟨z0, z1, n2, _, _, g0, g1⟩ := trod_struct2 Tryz.underlying34 f2
    obtain ⟨wall, e2, _, _⟩ := DataW.trod_int Tryz.underlying3 g0
    obtain ⟨count, e3, _, _⟩ := DataW.trod_int Tryz.underlying3 g1
    obtain ⟨u0, u1, u2, u3, m, _, q0, q1, q2, q3⟩ := trod_array4 Tryz.underlying32 cellsInt f3
    obtain ⟨d0, e4, _, _⟩ := DataW.trod_int Tryz.underlying3 q0
    obtain ⟨d1, e5, _, _⟩ := DataW.trod_int Tryz.underlying3 q1
    obtain ⟨d2, e6, _, _⟩ := DataW.trod_int Tryz.underlying3 q2
    obtain ⟨d3, e7, _, _⟩ := DataW.trod_int Tryz.underlying3 q3
    obtain ⟨a, cap, l, e8, hW⟩ := open_writes f4
    simp [cellsInt] at e0 e1 e2 e3 e4 e5 e6 e7
    subst e0 e1 e2 e3 e4 e5 e6 e7 e8
    exact ⟨⟨⟨site, seq, wall, count, d0, d1, d2, d3, l⟩, a, cap⟩, rfl, hW⟩

/-- fifteen cells -/
theorem open_do {fuel : Nat} {cs : List Value} {x : DataW H × List MemPlace} (h : DataW.trod enc Tryz.prog W 0 (fun _ => true) true fuel 46 cs = some x) : ∃ p : DoV, cs = doC p ∧ WrIn W p.m.wa p.m.wc p.m.t.ws := by
  obtain ⟨xs, n, _, _, hl, hlen, hfl⟩ := DataW.trod_struct Tryz.underlying46 h
  rw [cellsDo] at hl
  obtain ⟨c0, c1, c2, c3, c4, c5, c6, c7, c8, c9, c10, c11, c12, c13, c14, rfl⟩ := list15 hl
  obtain ⟨y0, y1, y2, y3, rfl⟩ := list4d hlen
  have f0 := hfl 0 _ rfl
  have f1 := hfl 1 _ rfl
  have f2 := hfl 2 _ rfl
  have f3 := hfl 3 _ rfl
  simp [cellsInt, cellsTx, cellsV] at f0 f1 f2 f3
  obtain ⟨what, e0, _, _⟩ := DataW.trod_int Tryz.underlying3 f0
  obtain ⟨nn, e1, _, _⟩ := DataW.trod_int Tryz.underlying3 f1
  obtain ⟨u0, u1, u2, u3, m, _, q0, q1, q2, q3⟩ := trod_array4 Tryz.underlying32 cellsInt f2
  obtain ⟨a0, e4, _, _⟩ := DataW.trod_int Tryz.underlying3 q0
  obtain ⟨a1, e5, _, _⟩ := DataW.trod_int Tryz.underlying3 q1
  obtain ⟨a2, e6, _, _⟩ := DataW.trod_int Tryz.underlying3 q2
  obtain ⟨a3, e7, _, _⟩ := DataW.trod_int Tryz.underlying3 q3
  obtain ⟨mm, ev, hW⟩ := open_tx9 f3
  simp at e0 e1 e4 e5 e6 e7
  refine ⟨⟨what, nn, a0, a1, a2, a3, mm⟩, ?_, hW⟩
  unfold doC
  rw [← ev, e0, e1, e4, e5, e6, e7]
  rfl

/-- a slice of them: they, where they lie -/
theorem open_dos {r : Reach} {b0 : Nat} {v : Value} {d : DataW H} {p : List MemPlace}
    (hv : Value.okWide Tryz.prog W r b0 22 v) (h : DataW.Trod enc Tryz.prog W 0 (fun _ => true) true 22 v d p) :
    ∃ (a : Option Addr) (cap : Nat) (l : List DoV), v = .slice a l.length cap ∧ DoIn W a cap l := by
  obtain ⟨a0, len0, cap0, rfl⟩ := okWide_slice Tryz.underlying22 hv
  obtain ⟨fuel, hf⟩ := h
  rcases open_slice Tryz.underlying22 hf with ⟨hc, _⟩ | ⟨a, len, cap, m, n, D, Pl, hc, _, hl, hm, hmm, _, hx⟩
  · have e : Value.slice a0 len0 cap0 = .slice none 0 0 := by simpa [Value.cells] using hc
    rw [e]
    exact ⟨none, 0, [], rfl, ⟨by simp, by omega, .inl rfl, fun i hi => by simp at hi⟩⟩
  · have e : Value.slice a0 len0 cap0 = .slice (some a) len cap := by simpa [Value.cells] using hc
    rw [e]
    simp at hmm
    have hcap : cap ≤ 9223372036854775807 := by unfold maxLen at hm; omega
    rcases Nat.eq_zero_or_pos len with rfl | hpos
    · exact ⟨some a, cap, [], rfl, ⟨by simp, hcap, .inl rfl, fun i hi => by simp at hi⟩⟩
    · have inh : Inhabited DoV := ⟨do0⟩
      have hx' : ∀ i, i < len → ∃ y : DoV, (∀ r u, (doC y)[r]? = some u → W.cell? ((a.add (i * 15)).add r) = some u) ∧ WrIn W y.m.wa y.m.wc y.m.t.ws := fun i hi => by
        obtain ⟨cs', h1, h2⟩ := hx i (by omega)
        rw [cellsDo] at h1
        obtain ⟨y, rfl, hW⟩ := open_do h2
        obtain ⟨_, _, hcell⟩ := World.cells?_some h1
        refine ⟨y, fun r u hu => ?_, hW⟩
        have hr : r < 15 := by have := (List.getElem?_eq_some_iff.1 hu).1; simpa [doC, txC] using this
        have := hcell r hr
        rw [this]
        exact hu
      obtain ⟨f, hf⟩ := choose_lt hx'
      obtain ⟨b, off, spot⟩ := a
      have hspot : spot = none := by simpa [Addr.add] using World.cell?_spot ((hf 0 hpos).1 0 _ rfl)
      subst hspot
      have ea : ∀ i, i < len → doAt ((List.range len).map f) i = f i := fun i hi => by simp [doAt, List.getD, hi]
      refine ⟨some ⟨b, off, none⟩, cap, (List.range len).map f, by simp, ⟨by simpa using hl, hcap, .inr ⟨b, off, rfl, fun i r u hi hu => ?_⟩, fun i hi => ?_⟩⟩
      · have hi' : i < len := by simpa using hi
        rw [ea i hi'] at hu
        have := (hf i hi').1 r u hu
        simp only [addPlain] at this
        rw [← Nat.add_assoc]
        exact this
      · have hi' : i < len := by simpa using hi
        rw [ea i hi']
        exact (hf i hi').2

end
end Go.Proofs.YtpncedpfoakfkaaGreatDoor

namespace Go.Proofs.YtpncedpfoakfkaaGreatDoor
open Go.ChangeShapes Go.WideShapes Go.ChangeAt Go.RowKit Go.Joins Go.Deep
set_option maxRecDepth 100000

/-- what a client does -/
structure TurnV where
  what : Int
  site : Int
  key : Int
  now : Int
  x : Wr
  m : TxM
/-- its cells -/
def turnC (p : TurnV) : List Value := [.int .i64 p.what, .int .i64 p.site, .int .i64 p.key, .int .i64 p.now, .int .i64 p.x.key, .string p.x.data, .bool p.x.gone] ++ txC p.m
def turn0 : TurnV := ⟨0, 0, 0, 0, ⟨0, ⟨#[]⟩, false⟩, ⟨⟨0, 0, 0, 0, 0, 0, 0, 0, []⟩, none, 0⟩⟩
def turnAt (l : List TurnV) (i : Nat) : TurnV := l.getD i turn0

/-- a slice that holds them: none, or its cells lie in one block; their transactions' writes lie where they say -/
structure TurnIn (w : World) (a : Option Addr) (cap : Nat) (l : List TurnV) : Prop where
  len : l.length ≤ cap
  cap : cap ≤ 9223372036854775807
  held : l = [] ∨ ∃ b off, a = some ⟨b, off, none⟩ ∧ ∀ i r u, i < l.length → (turnC (turnAt l i))[r]? = some u → w.cell? ⟨b, off + (i * 16 + r), none⟩ = some u
  wr : ∀ i, i < l.length → WrIn w (turnAt l i).m.wa (turnAt l i).m.wc (turnAt l i).m.t.ws
  wf : ∀ i, i < l.length → (Lit.int .i64 (turnAt l i).key).wf = true
theorem TurnIn.later {w w' : World} {a : Option Addr} {cap : Nat} {l : List TurnV} (hb : Below w.heap.size w w') (h : TurnIn w a cap l) : TurnIn w' a cap l :=
  ⟨h.len, h.cap, h.held.elim .inl fun ⟨b, off, e, c⟩ => .inr ⟨b, off, e, fun i r u hi hu => cell_later hb (c i r u hi hu)⟩, fun i hi => (h.wr i hi).later hb, h.wf⟩

theorem cellsTurn : Tryz.prog.cellsOf 85 = 16 := by kernel_rfl
theorem list6t {α : Type} {l : List α} (h : l.length = 6) : ∃ a b c d e f, l = [a, b, c, d, e, f] := by
  match l, h with
  | [a, b, c, d, e, f], _ => exact ⟨a, b, c, d, e, f, rfl⟩
theorem list16 {α : Type} {l : List α} (h : l.length = 16) : ∃ c0 c1 c2 c3 c4 c5 c6 c7 c8 c9 c10 c11 c12 c13 c14 c15, l = [c0, c1, c2, c3, c4, c5, c6, c7, c8, c9, c10, c11, c12, c13, c14, c15] := by
  match l, h with
  | [c0, c1, c2, c3, c4, c5, c6, c7, c8, c9, c10, c11, c12, c13, c14, c15], _ => exact ⟨c0, c1, c2, c3, c4, c5, c6, c7, c8, c9, c10, c11, c12, c13, c14, c15, rfl⟩

section
variable {H : Type} {enc : TypeId × Value → H} {W : World}

/-- sixteen cells -/
theorem open_turn {fuel : Nat} {cs : List Value} {x : DataW H × List MemPlace} (h : DataW.trod enc Tryz.prog W 0 (fun _ => true) true fuel 85 cs = some x) : ∃ p : TurnV, cs = turnC p ∧ WrIn W p.m.wa p.m.wc p.m.t.ws ∧ (Lit.int .i64 p.key).wf = true := by
  obtain ⟨xs, n, _, _, hl, hlen, hfl⟩ := DataW.trod_struct Tryz.underlying85 h
  rw [cellsTurn] at hl
  obtain ⟨c0, c1, c2, c3, c4, c5, c6, c7, c8, c9, c10, c11, c12, c13, c14, c15, rfl⟩ := list16 hl
  obtain ⟨y0, y1, y2, y3, y4, y5, rfl⟩ := list6t hlen
  have f0 := hfl 0 _ rfl
  have f1 := hfl 1 _ rfl
  have f2 := hfl 2 _ rfl
  have f3 := hfl 3 _ rfl
  have f4 := hfl 4 _ rfl
  have f5 := hfl 5 _ rfl
  simp [cellsInt, cellsTx, cellsWr] at f0 f1 f2 f3 f4 f5
  obtain ⟨what, e0, _, _⟩ := DataW.trod_int Tryz.underlying3 f0
  obtain ⟨si, e1, _, _⟩ := DataW.trod_int Tryz.underlying3 f1
  obtain ⟨ke, e2, _, wk⟩ := DataW.trod_int Tryz.underlying3 f2
  obtain ⟨no, e3, _, _⟩ := DataW.trod_int Tryz.underlying3 f3
  obtain ⟨y, ey⟩ := open_write f4
  obtain ⟨mm, ev, hW⟩ := open_tx9 f5
  simp at e0 e1 e2 e3
  refine ⟨⟨what, si, ke, no, y, mm⟩, ?_, hW, wk⟩
  unfold turnC
  rw [← ev, e0, e1, e2, e3]
  injection ey with ey0 ey
  injection ey with ey1 ey
  injection ey with ey2 ey
  rw [ey0, ey1, ey2]
  rfl

/-- a slice of them: they, where they lie -/
theorem open_turns {r : Reach} {b0 : Nat} {v : Value} {d : DataW H} {p : List MemPlace}
    (hv : Value.okWide Tryz.prog W r b0 74 v) (h : DataW.Trod enc Tryz.prog W 0 (fun _ => true) true 74 v d p) :
    ∃ (a : Option Addr) (cap : Nat) (l : List TurnV), v = .slice a l.length cap ∧ TurnIn W a cap l := by
  obtain ⟨a0, len0, cap0, rfl⟩ := okWide_slice Tryz.underlying74 hv
  obtain ⟨fuel, hf⟩ := h
  rcases open_slice Tryz.underlying74 hf with ⟨hc, _⟩ | ⟨a, len, cap, m, n, D, Pl, hc, _, hl, hm, hmm, _, hx⟩
  · have e : Value.slice a0 len0 cap0 = .slice none 0 0 := by simpa [Value.cells] using hc
    rw [e]
    exact ⟨none, 0, [], rfl, ⟨by simp, by omega, .inl rfl, fun i hi => by simp at hi, fun i hi => by simp at hi⟩⟩
  · have e : Value.slice a0 len0 cap0 = .slice (some a) len cap := by simpa [Value.cells] using hc
    rw [e]
    simp at hmm
    have hcap : cap ≤ 9223372036854775807 := by unfold maxLen at hm; omega
    rcases Nat.eq_zero_or_pos len with rfl | hpos
    · exact ⟨some a, cap, [], rfl, ⟨by simp, hcap, .inl rfl, fun i hi => by simp at hi, fun i hi => by simp at hi⟩⟩
    · have inh : Inhabited TurnV := ⟨turn0⟩
      have hx' : ∀ i, i < len → ∃ y : TurnV, (∀ r u, (turnC y)[r]? = some u → W.cell? ((a.add (i * 16)).add r) = some u) ∧ WrIn W y.m.wa y.m.wc y.m.t.ws ∧ (Lit.int .i64 y.key).wf = true := fun i hi => by
        obtain ⟨cs', h1, h2⟩ := hx i (by omega)
        rw [cellsTurn] at h1
        obtain ⟨y, rfl, hW, wk⟩ := open_turn h2
        obtain ⟨_, _, hcell⟩ := World.cells?_some h1
        refine ⟨y, fun r u hu => ?_, hW, wk⟩
        have hr : r < 16 := by have := (List.getElem?_eq_some_iff.1 hu).1; simpa [turnC, txC] using this
        have := hcell r hr
        rw [this]
        exact hu
      obtain ⟨f, hf⟩ := choose_lt hx'
      obtain ⟨b, off, spot⟩ := a
      have hspot : spot = none := by simpa [Addr.add] using World.cell?_spot ((hf 0 hpos).1 0 _ rfl)
      subst hspot
      have ea : ∀ i, i < len → turnAt ((List.range len).map f) i = f i := fun i hi => by simp [turnAt, List.getD, hi]
      refine ⟨some ⟨b, off, none⟩, cap, (List.range len).map f, by simp, ⟨by simpa using hl, hcap, .inr ⟨b, off, rfl, fun i r u hi hu => ?_⟩, fun i hi => ?_, fun i hi => ?_⟩⟩
      · have hi' : i < len := by simpa using hi
        rw [ea i hi'] at hu
        have := (hf i hi').1 r u hu
        simp only [addPlain] at this
        rw [← Nat.add_assoc]
        exact this
      · have hi' : i < len := by simpa using hi
        rw [ea i hi']
        exact (hf i hi').2.1
      · have hi' : i < len := by simpa using hi
        rw [ea i hi']
        exact (hf i hi').2.2

end
end Go.Proofs.YtpncedpfoakfkaaGreatDoor

namespace Go.Proofs.YtpncedpfoakfkaaGreatDoor
open Go.RowKit

/-- what is read at a site: the version, and the error -/
def readS (S : SiteS) (key a0 a1 a2 a3 : Int) : Ver × Int := if covB S.a0 S.a1 S.a2 S.a3 a0 a1 a2 a3 = true then readV key a0 a1 a2 a3 S.l else (ver0, 10)

theorem siteRead_results {tmps : Array Value} {w : World} {b : Nat} {v : Ver} {ev : Int} (h : RowL w b (verL v)) (h2 : tmps[6]? = some (.pointer (some ⟨b, 0, none⟩))) (h3 : tmps[7]? = some (.int .i64 ev)) :
    (results Tryz.f18 tmps).run Tryz.prog w = .ok (.tuple #[.agg (verL v).toArray, .int .i64 ev]) w := by
  have z0 := h.cell 0 _ rfl
  have z1 := h.cell 1 _ rfl
  have z2 := h.cell 2 _ rfl
  have z3 := h.cell 3 _ rfl
  have z4 := h.cell 4 _ rfl
  have z5 := h.cell 5 _ rfl
  simp [results, Tryz.results18, go_sem, h2, h3, z0, z1, z2, z3, z4, z5, verL]

/-- a version is written into a box behind a world's end -/
theorem ver_far {w W : World} {b : Nat} (h : Below w.heap.size w W) (hB : w.heap.size ≤ b) (x0 x1 x2 x3 : Int) (x4 : ByteArray) (x5 : Bool) : Below w.heap.size w ((((((W.setCell ⟨b, 0, none⟩ (.int .i64 x0)).setCell ⟨b, 1, none⟩ (.int .i64 x1)).setCell ⟨b, 2, none⟩ (.int .i64 x2)).setCell ⟨b, 3, none⟩ (.int .i64 x3)).setCell ⟨b, 4, none⟩ (.string x4)).setCell ⟨b, 5, none⟩ (.bool x5)) :=
  (((((h.setCell hB _).setCell hB _).setCell hB _).setCell hB _).setCell hB _).setCell hB _
theorem row4_ver {W : World} {b c : Nat} {a0 a1 a2 a3 : Int} (h : Row4 W b a0 a1 a2 a3) (hn : c ≠ b) (x0 x1 x2 x3 : Int) (x4 : ByteArray) (x5 : Bool) : Row4 ((((((W.setCell ⟨c, 0, none⟩ (.int .i64 x0)).setCell ⟨c, 1, none⟩ (.int .i64 x1)).setCell ⟨c, 2, none⟩ (.int .i64 x2)).setCell ⟨c, 3, none⟩ (.int .i64 x3)).setCell ⟨c, 4, none⟩ (.string x4)).setCell ⟨c, 5, none⟩ (.bool x5)) b a0 a1 a2 a3 :=
  (((((h.far ⟨c, 0, none⟩ _ hn).far ⟨c, 1, none⟩ _ hn).far ⟨c, 2, none⟩ _ hn).far ⟨c, 3, none⟩ _ hn).far ⟨c, 4, none⟩ _ hn).far ⟨c, 5, none⟩ _ hn
theorem ver_set {W : World} {b : Nat} (h : RowL W b (verL ver0)) (x0 x1 x2 x3 : Int) (x4 : ByteArray) (x5 : Bool) : RowL ((((((W.setCell ⟨b, 0, none⟩ (.int .i64 x0)).setCell ⟨b, 1, none⟩ (.int .i64 x1)).setCell ⟨b, 2, none⟩ (.int .i64 x2)).setCell ⟨b, 3, none⟩ (.int .i64 x3)).setCell ⟨b, 4, none⟩ (.string x4)).setCell ⟨b, 5, none⟩ (.bool x5)) b (verL ⟨x0, x1, x2, x3, x4, x5⟩) :=
  (((((h.set 0 _ (by simp [verL])).set 1 _ (by simp [verL])).set 2 _ (by simp [verL])).set 3 _ (by simp [verL])).set 4 _ (by simp [verL])).set 5 _ (by simp [verL])

set_option maxHeartbeats 4000000 in
theorem refSiteRead_any {b : Nat} {lv wv sv : Value} {S : SiteS} {log waits : List TxM} (key a0 a1 a2 a3 : Int) (w : World) (h : SMem w b lv wv sv S log waits) (hl : S.l.length ≤ 1000000) :
    Calls Tryz.prog 18 #[.pointer (some ⟨b, 0, none⟩), .int .i64 key, .agg #[.int .i64 a0, .int .i64 a1, .int .i64 a2, .int .i64 a3]] w fun e w' =>
      e = .returned (.tuple #[.agg (verL (readS S key a0 a1 a2 a3).1).toArray, .int .i64 (readS S key a0 a1 a2 a3).2]) ∧ Below w.heap.size w w' := by
  have RA := (Row4.new w 32 a0 a1 a2 a3).boxed (.cells #[.int .i64 0, .int .i64 0, .int .i64 0, .int .i64 0, .string ⟨#[]⟩, .bool false] 59)
  have RR : RowL ((w.alloc (.cells #[.int .i64 a0, .int .i64 a1, .int .i64 a2, .int .i64 a3] 32)).alloc (.cells #[.int .i64 0, .int .i64 0, .int .i64 0, .int .i64 0, .string ⟨#[]⟩, .bool false] 59)) (w.heap.size + 1) (verL ver0) := RowL.new (w := w.alloc (.cells #[.int .i64 a0, .int .i64 a1, .int .i64 a2, .int .i64 a3] 32)) (T := 59) (n := w.heap.size + 1) [.int .i64 0, .int .i64 0, .int .i64 0, .int .i64 0, .string ⟨#[]⟩, .bool false] (by simp)
  have hb := boxed (boxed (Below.refl _ w) (.cells #[.int .i64 a0, .int .i64 a1, .int .i64 a2, .int .i64 a3] 32)) (.cells #[.int .i64 0, .int .i64 0, .int .i64 0, .int .i64 0, .string ⟨#[]⟩, .bool false] 59)
  have M1 : Hid (SMem _ b lv wv sv S log waits) := h.later hb
  have HH : Hid (SMem w b lv wv sv S log waits) := h
  clear h
  have k1 := Later.cell (M1.out.box.cell 1 _ rfl)
  have k2 := Later.cell (M1.out.box.cell 2 _ rfl)
  have k3 := Later.cell (M1.out.box.cell 3 _ rfl)
  have k4 := Later.cell (M1.out.box.cell 4 _ rfl)
  have c0 := Later.cell RA.c0
  have c1 := Later.cell RA.c1
  have c2 := Later.cell RA.c2
  have c3 := Later.cell RA.c3
  go_enter Tryz.func18, Tryz.ntmps18
  go_wp2_with fail
  refine wp_region_later (by kernel_rfl) (by kernel_rfl) ?_
  repeat (go_big_quiet_step (first | rfl | (go_at_call 49; exact calls_later (refCovers_any _ _ _ _ _ _ _ _ _))))
  refine wpQuiet_nil ?_
  rintro w1 ⟨⟨_, hb1⟩, rfl⟩
  replace RR := RR.later hb1
  replace RA := Row4.later hb1 RA
  replace hb := behind hb hb1
  have M2 : Hid (SMem w1 b lv wv sv S log waits) := M1.out.later hb1
  clear M1 k1 k2 k3 k4 c0 c1 c2 c3 hb1
  cases hc : covB S.a0 S.a1 S.a2 S.a3 a0 a1 a2 a3
  · have RV : Hid (readS S key a0 a1 a2 a3 = (ver0, 10)) := by show readS S key a0 a1 a2 a3 = (ver0, 10); unfold readS; rw [hc]; rfl
    have r0 := RR.cell 0 _ rfl
    have p0 := RR.free 0 (by simp [verL])
    have r1 := RR.cell 1 _ rfl
    have p1 := RR.free 1 (by simp [verL])
    have r2 := RR.cell 2 _ rfl
    have p2 := RR.free 2 (by simp [verL])
    have r3 := RR.cell 3 _ rfl
    have p3 := RR.free 3 (by simp [verL])
    have r4 := RR.cell 4 _ rfl
    have p4 := RR.free 4 (by simp [verL])
    have r5 := RR.cell 5 _ rfl
    have p5 := RR.free 5 (by simp [verL])
    have RZ := ver_set RR 0 0 0 0 ⟨#[]⟩ false
    have hbZ := ver_far hb (show w.heap.size ≤ w.heap.size + 1 by omega) 0 0 0 0 ⟨#[]⟩ false
    clear hc
    go_wp2_with fail
    refine bodyPost_ret (siteRead_results (v := ver0) RZ rfl rfl) rfl ⟨?_, hbZ⟩
    rw [RV.out]
  · obtain ⟨⟨⟨wl, ct, st, sq, dt, gn⟩, ev⟩, hrv⟩ : ∃ x, readV key a0 a1 a2 a3 S.l = x := ⟨_, rfl⟩
    have RV : Hid (readS S key a0 a1 a2 a3 = (⟨wl, ct, st, sq, dt, gn⟩, ev)) := by show readS S key a0 a1 a2 a3 = _; unfold readS; rw [hc, ← hrv]; rfl
    obtain ⟨a, cap, esv, hC⟩ := hdIn_own M2.out.own
    have PR : Hid (Calls Tryz.prog 69 #[.pointer (some ⟨b, 9, none⟩), .int .i64 key, .agg #[.int .i64 a0, .int .i64 a1, .int .i64 a2, .int .i64 a3]] w1.drew fun e w' => e = .returned (.tuple #[.agg #[.int .i64 wl, .int .i64 ct, .int .i64 st, .int .i64 sq, .string dt, .bool gn], .int .i64 ev]) ∧ Row4 w' w.heap.size a0 a1 a2 a3 ∧ RowL w' (w.heap.size + 1) (verL ver0) ∧ Below w.heap.size w w') := by
      have s9 : w1.cell? ⟨b, 9, none⟩ = some (.slice a S.l.length cap) := by rw [← esv]; exact M2.out.box.cell 9 _ rfl
      refine (oRead_any key a0 a1 a2 a3 w1.drew s9 (hC.later (Below.refl _ w1).drew) M2.out.ok hl).mono ?_
      rintro e w' ⟨rfl, hb'⟩
      refine ⟨by rw [hrv]; rfl, Row4.later hb' RA.drew, RR.drew.later hb', behind hb.drew hb'⟩
    have HRV : Hid (readV key a0 a1 a2 a3 S.l = (⟨wl, ct, st, sq, dt, gn⟩, ev)) := hrv
    have T0 := fun (w' : World) (h : Row4 w' w.heap.size a0 a1 a2 a3) => h.c0
    have T1 := fun (w' : World) (h : Row4 w' w.heap.size a0 a1 a2 a3) => h.c1
    have T2 := fun (w' : World) (h : Row4 w' w.heap.size a0 a1 a2 a3) => h.c2
    have T3 := fun (w' : World) (h : Row4 w' w.heap.size a0 a1 a2 a3) => h.c3
    have RA0 := RA.drew
    have hne : w.heap.size + 1 ≠ w.heap.size := by omega
    clear hc hrv hC esv RA RR
    go_wp2_with fail
    go_region_held3 (fun w' => Row4 w' w.heap.size a0 a1 a2 a3) (first | (with_reducible assumption) | (with_reducible exact row4_ver (by with_reducible assumption) hne _ _ _ _ _ _))
      (first | (go_at_call 69; with_reducible refine PR.out.mono ?_; rintro e w5 ⟨rfl, RA5, RR5, hb5⟩; have r0 := RR5.cell 0 _ rfl; have p0 := RR5.free 0 (by simp [verL]); have r1 := RR5.cell 1 _ rfl; have p1 := RR5.free 1 (by simp [verL]); have r2 := RR5.cell 2 _ rfl; have p2 := RR5.free 2 (by simp [verL]); have r3 := RR5.cell 3 _ rfl; have p3 := RR5.free 3 (by simp [verL]); have r4 := RR5.cell 4 _ rfl; have p4 := RR5.free 4 (by simp [verL]); have r5 := RR5.cell 5 _ rfl; have p5 := RR5.free 5 (by simp [verL])))
    all_goals
      have RZ := ver_set RR5 wl ct st sq dt gn
      have hbZ := ver_far hb5 (show w.heap.size ≤ w.heap.size + 1 by omega) wl ct st sq dt gn
      go_wp2_with fail
      refine bodyPost_ret (siteRead_results (v := ⟨wl, ct, st, sq, dt, gn⟩) RZ rfl rfl) rfl ⟨?_, hbZ⟩
      rw [RV.out]

end Go.Proofs.YtpncedpfoakfkaaGreatDoor

namespace Go.Proofs.YtpncedpfoakfkaaGreatDoor
open Go.RowKit

/-- of one number -/
def isNum (x t : TxP) : Bool := decide (x.site = t.site) && decide (x.seq = t.seq)
theorem isNum_iff {x t : TxP} : isNum x t = true ↔ x.site = t.site ∧ x.seq = t.seq := by simp [isNum]
/-- the first of a site that may be applied -/
def pickS (S : SiteS) (s : Int) : Option TxP := S.waits.find? (fun x => decide (x.site = s) && readyS S x)
/-- the next one -/
def nextS (S : SiteS) : Option TxP :=
  match pickS S 0 with
  | some x => some x
  | none => match pickS S 1 with
    | some x => some x
    | none => match pickS S 2 with
      | some x => some x
      | none => pickS S 3
/-- without those of a number -/
def dropW (l : List TxP) (t : TxP) : List TxP := l.filter (fun x => !isNum x t)
/-- one is applied, and waits no more -/
def goneS (S : SiteS) (x : TxP) : SiteS := applyS { S with waits := dropW S.waits x } x
/-- what comes of it -/
inductive Goes : SiteS → SiteS → Prop
  | full {S : SiteS} : 200 ≤ S.log.length → Goes S S
  | none {S : SiteS} : nextS S = none → Goes S S
  | step {S S' : SiteS} {x : TxP} : S.log.length < 200 → nextS S = some x → Goes (goneS S x) S' → Goes S S'
theorem Goes.det {S A B : SiteS} (h : Goes S A) : Goes S B → A = B := by
  induction h with
  | full h =>
    intro k
    cases k with
    | full _ => rfl
    | none _ => rfl
    | step h1 _ _ => omega
  | none h =>
    intro k
    cases k with
    | full _ => rfl
    | none _ => rfl
    | step _ h2 _ => rw [h] at h2; cases h2
  | step h1 h2 _ ih =>
    intro k
    cases k with
    | full h => omega
    | none h => rw [h2] at h; cases h
    | step _ h4 h5 =>
      rw [h2] at h4
      injection h4 with h4
      subst h4
      exact ih h5

theorem pickS_mem {S : SiteS} {s : Int} {x : TxP} (h : pickS S s = some x) : x ∈ S.waits ∧ x.site = s ∧ readyS S x = true := by
  have h1 := List.mem_of_find?_eq_some h
  have h2 := List.find?_some h
  simp at h2
  exact ⟨h1, h2.1, h2.2⟩
theorem nextS_mem {S : SiteS} {x : TxP} (h : nextS S = some x) : x ∈ S.waits ∧ readyS S x = true := by
  unfold nextS at h
  split at h
  · rename_i y hy; injection h with h; subst h; exact ⟨(pickS_mem hy).1, (pickS_mem hy).2.2⟩
  · split at h
    · rename_i y hy; injection h with h; subst h; exact ⟨(pickS_mem hy).1, (pickS_mem hy).2.2⟩
    · split at h
      · rename_i y hy; injection h with h; subst h; exact ⟨(pickS_mem hy).1, (pickS_mem hy).2.2⟩
      · exact ⟨(pickS_mem h).1, (pickS_mem h).2.2⟩
theorem pickS_none {S : SiteS} {s : Int} (h : pickS S s = none) : ∀ x ∈ S.waits, x.site = s → readyS S x = false := fun x hx hs => by
  have h1 := List.find?_eq_none.1 h x hx
  simp [hs] at h1
  exact h1
theorem pickS_none' {S : SiteS} {s : Int} (h : ∀ x ∈ S.waits, x.site = s → readyS S x = false) : pickS S s = none := by
  refine List.find?_eq_none.2 fun x hx => ?_
  by_cases e : x.site = s
  · simp [e, h x hx e]
  · simp [e]
/-- numbers are apart -/
def Nums (l : List TxP) : Prop := l.Pairwise (fun x y => isNum x y = false)
theorem Nums.uniq : ∀ {l : List TxP}, Nums l → ∀ {x y : TxP}, x ∈ l → y ∈ l → x.site = y.site → x.seq = y.seq → x = y
  | [], _, _, _, hx, _, _, _ => by cases hx
  | a :: l, h, x, y, hx, hy, e1, e2 => by
    obtain ⟨h1, h2⟩ := List.pairwise_cons.1 h
    rcases List.mem_cons.1 hx with ex | kx
    · rcases List.mem_cons.1 hy with ey | ky
      · rw [ex, ey]
      · have := h1 y ky
        rw [← ex] at this
        simp [isNum, e1, e2] at this
    · rcases List.mem_cons.1 hy with ey | ky
      · have := h1 x kx
        rw [← ey] at this
        simp [isNum, e1, e2] at this
      · exact Nums.uniq h2 kx ky e1 e2
theorem readyS_seq {S : SiteS} {x : TxP} (h : readyS S x = true) : x.seq = depOf x.site S.a0 S.a1 S.a2 S.a3 + 1 ∧ covB S.a0 S.a1 S.a2 S.a3 x.d0 x.d1 x.d2 x.d3 = true := by
  simpa [readyS] using h
/-- the one of a site that has the next number is the one that is picked -/
theorem pickS_some {S : SiteS} (hn : Nums S.waits) {x : TxP} (hx : x ∈ S.waits) (hr : readyS S x = true) : pickS S x.site = some x := by
  cases h : pickS S x.site with
  | none => rw [pickS_none h x hx rfl] at hr; cases hr
  | some y =>
    obtain ⟨h1, h2, h3⟩ := pickS_mem h
    have e := (readyS_seq hr).1
    have e' := (readyS_seq h3).1
    rw [h2] at e'
    rw [hn.uniq h1 hx h2 (by rw [e, e'])]
theorem Nums.drop {l : List TxP} (h : Nums l) (t : TxP) : Nums (dropW l t) := h.filter _
theorem Nums.snoc {l : List TxP} (h : Nums l) {t : TxP} (ht : ∀ x ∈ l, isNum x t = false) : Nums (l ++ [t]) := by
  refine List.pairwise_append.2 ⟨h, by simp, fun x hx y hy => ?_⟩
  obtain rfl := List.mem_singleton.1 hy
  exact ht x hx
theorem mem_dropW {l : List TxP} {t x : TxP} : x ∈ dropW l t ↔ x ∈ l ∧ isNum x t = false := by simp [dropW, List.mem_filter]
/-- that one alone is dropped -/
theorem dropW_at : ∀ {l : List TxP}, Nums l → ∀ {i : Nat} {t : TxP}, l[i]? = some t → dropW l t = l.take i ++ l.drop (i + 1)
  | [], _, _, _, h => by simp at h
  | a :: l, hn, 0, t, h => by
    simp at h
    subst h
    obtain ⟨h1, h2⟩ := List.pairwise_cons.1 hn
    have e : isNum a a = true := by simp [isNum]
    simp [dropW, e]
    intro x hx
    have h3 : isNum a x = false := h1 x hx
    cases h4 : isNum x a with
    | false => rfl
    | true =>
      obtain ⟨p, q⟩ := isNum_iff.1 h4
      simp [isNum, p, q] at h3
  | a :: l, hn, i + 1, t, h => by
    obtain ⟨h1, h2⟩ := List.pairwise_cons.1 hn
    have h' : l[i]? = some t := by simpa using h
    have e : isNum a t = false := h1 t (List.mem_of_getElem? h')
    have ih := dropW_at h2 h'
    unfold dropW at ih ⊢
    simp [e, ih]
theorem dropW_length {l : List TxP} (hn : Nums l) {t : TxP} (ht : t ∈ l) : (dropW l t).length + 1 = l.length := by
  obtain ⟨i, hi⟩ := List.getElem?_of_mem ht
  have hlt : i < l.length := (List.getElem?_eq_some_iff.1 hi).1
  rw [dropW_at hn hi]
  simp
  omega

end Go.Proofs.YtpncedpfoakfkaaGreatDoor

namespace Go.Proofs.YtpncedpfoakfkaaGreatDoor
open Go.RowKit Go.Maps

/-- an element reads as itself -/
def heldR (v : Value) : Option (DataW Value × List MemPlace) := some (.held v, [])
def txV (m : TxM) : Value := .agg #[.int .i64 m.t.site, .int .i64 m.t.seq, .int .i64 m.t.wall, .int .i64 m.t.count, .int .i64 m.t.d0, .int .i64 m.t.d1, .int .i64 m.t.d2, .int .i64 m.t.d3, .slice m.wa m.t.ws.length m.wc]
def txV0 : Value := .agg #[.int .i64 0, .int .i64 0, .int .i64 0, .int .i64 0, .int .i64 0, .int .i64 0, .int .i64 0, .int .i64 0, .slice none 0 0]
theorem tx_zero (w : World) : (zeroValue 44).run Tryz.prog w = .ok txV0 w := by kernel_rfl
theorem manyTypes : Tryz.prog.types.size = 229 := by kernel_rfl
theorem numLaw : Keyed Tryz.prog 150 := Keyed.of_law (deep_law_laid (m := 3) (by kernel_rfl) (by decide) (by rw [manyTypes]; decide) (by kernel_rfl) (by kernel_rfl))
/-- a number, as a key -/
def numV (s q : Int) : Value := .agg #[.int .i64 s, .int .i64 q]
def numL (s q : Int) : Lit := .string (keyBytes [.int .i64 s, .int .i64 q])
def wfI (x : Int) : Prop := -9223372036854775808 ≤ x ∧ x ≤ 9223372036854775807
theorem wf_i {x : Int} (h : wfI x) : (Lit.int .i64 x).wf = true := WalkArith.wf_i64 h
theorem lits_int {x : Int} (hx : wfI x) (n : Nat) : Tryz.prog.keyLits (n + 1) 3 [.int .i64 x] = some [.int .i64 x] := by
  unfold Program.keyLits
  rw [Tryz.underlying3]
  simp [wf_i hx]
theorem lits_num {s q : Int} (hs : wfI s) (hq : wfI q) (n : Nat) : Tryz.prog.keyLits (n + 1 + 1) 150 [.int .i64 s, .int .i64 q] = some [.int .i64 s, .int .i64 q] := by
  have e3 : Tryz.prog.cellsOf 150 = 2 := by kernel_rfl
  have e4 : Tryz.prog.cellsOf 3 = 1 := by kernel_rfl
  unfold Program.keyLits
  rw [Tryz.underlying150]
  simp [e3, e4, lits_int hs n, lits_int hq n]
theorem numKey {s q : Int} (hs : wfI s) (hq : wfI q) : keyOf Tryz.prog 150 (numV s q) = some (numL s q) := by
  have e2 : Tryz.prog.keyType 150 = true := by kernel_rfl
  have e3 : Tryz.prog.cellsOf 150 = 2 := by kernel_rfl
  have e5 : (numV s q).formed Tryz.prog 150 = true := by
    unfold Value.formed numV
    simp only [Tryz.underlying150]
    rw [e3]
    rfl
  have e6 := lits_num hs hq (229 - 1)
  unfold keyOf
  rw [Tryz.underlying150, e2, e5, manyTypes]
  show (if (true && true) = true then Option.map _ (Tryz.prog.keyLits (229 - 1 + 1 + 1) 150 [.int .i64 s, .int .i64 q]) else none) = _
  rw [e6]
  rfl
theorem num_inj {s q s' q' : Int} (hs : wfI s) (hq : wfI q) (hs' : wfI s') (hq' : wfI q') (h : numL s q = numL s' q') : s = s' ∧ q = q' := by
  have h1 := numLaw.inj (numKey hs hq) (by rw [h]; exact numKey hs' hq')
  simp [numV] at h1
  exact h1
theorem num_key (s q : Int) : WideAt.IsKeyLit (numL s q) := trivial

/-- the map's datum holds just these -/
structure MapIs (D : DataW Value) (ws : List TxM) : Prop where
  size : Maps.size D = ws.length
  has : ∀ m ∈ ws, Maps.has D (numL m.t.site m.t.seq) = true ∧ ∀ z, D.atKey (numL m.t.site m.t.seq) z = .held (txV m)
  no : ∀ s q, wfI s → wfI q → (∀ m ∈ ws, ¬ (m.t.site = s ∧ m.t.seq = q)) → Maps.has D (numL s q) = false
def wfN (m : TxM) : Prop := wfI m.t.site ∧ wfI m.t.seq
/-- the block of a map that holds these -/
def PMap (w : World) (bm : Nat) (ws : List TxM) : Prop := (∀ m ∈ ws, wfN m) ∧ Nums (ws.map (·.t)) ∧ ∃ D, w.ownsMap Tryz.prog 150 heldR bm ws.length D ∧ MapIs D ws
theorem PMap.lt {w : World} {bm : Nat} {ws : List TxM} (h : PMap w bm ws) : bm < w.heap.size := by
  obtain ⟨_, _, D, h, _⟩ := h
  exact h.lt
theorem PMap.kept {w w' : World} {bm : Nat} {ws : List TxM} (h : PMap w bm ws) (e : w'.heap[bm]? = w.heap[bm]?) : PMap w' bm ws := by
  obtain ⟨h1, h2, D, ⟨es, clock, hb, r⟩, h4⟩ := h
  exact ⟨h1, h2, D, ⟨es, clock, by rw [e]; exact hb, r⟩, h4⟩
theorem PMap.made (w : World) : PMap (w.alloc (.map #[] 0)) w.heap.size [] :=
  ⟨by simp, by simp [Nums], _, World.ownsMap_made w _ _ _, ⟨rfl, by simp, fun _ _ _ _ _ => rfl⟩⟩
theorem mapIs_put {D : DataW Value} {ws : List TxM} (hD : Tidy D) (h : MapIs D ws) (hw : ∀ m ∈ ws, wfN m) {m : TxM} (hm : wfN m) (hn : ∀ x ∈ ws, isNum x.t m.t = false) : MapIs (D.put (numL m.t.site m.t.seq) (.held (txV m))) (ws ++ [m]) := by
  have hno : Maps.has D (numL m.t.site m.t.seq) = false := h.no _ _ hm.1 hm.2 (fun x hx e => by
    have := hn x hx
    simp [isNum, e.1, e.2] at this)
  refine ⟨by rw [size_put hD, hno]; simp [h.size], fun x hx => ?_, fun s q hs hq hx => ?_⟩
  · rcases List.mem_append.1 hx with hx | hx
    · have hne : numL x.t.site x.t.seq ≠ numL m.t.site m.t.seq := fun e => by
        obtain ⟨e1, e2⟩ := num_inj (hw x hx).1 (hw x hx).2 hm.1 hm.2 e
        have := hn x hx
        simp [isNum, e1, e2] at this
      exact ⟨by rw [has_put_other hne]; exact (h.has x hx).1, fun z => by rw [atKey_put_other hne]; exact (h.has x hx).2 z⟩
    · obtain rfl := List.mem_singleton.1 hx
      exact ⟨has_put_same hD.isMap (num_key _ _) _, fun z => atKey_put_same hD.isMap (num_key _ _) _ z⟩
  · have hne : numL s q ≠ numL m.t.site m.t.seq := fun e => by
      obtain ⟨e1, e2⟩ := num_inj hs hq hm.1 hm.2 e
      exact hx m (by simp) ⟨e1.symm, e2.symm⟩
    rw [has_put_other hne]
    exact h.no s q hs hq (fun x h1 => hx x (by simp [h1]))
/-- without those of a number -/
def dropM (l : List TxM) (t : TxP) : List TxM := l.filter (fun x => !isNum x.t t)
theorem dropM_map (l : List TxM) (t : TxP) : (dropM l t).map (·.t) = dropW (l.map (·.t)) t := by
  unfold dropM dropW
  rw [List.filter_map]
  rfl
theorem mem_dropM {l : List TxM} {t : TxP} {x : TxM} : x ∈ dropM l t ↔ x ∈ l ∧ isNum x.t t = false := by simp [dropM, List.mem_filter]
theorem dropM_length {l : List TxM} (hn : Nums (l.map (·.t))) {m : TxM} (hm : m ∈ l) : (dropM l m.t).length + 1 = l.length := by
  have h := dropW_length hn (t := m.t) (List.mem_map.2 ⟨m, hm, rfl⟩)
  rw [← dropM_map] at h
  simpa using h
theorem mapIs_del {D : DataW Value} {ws : List TxM} (hD : Tidy D) (h : MapIs D ws) (hw : ∀ m ∈ ws, wfN m) (hn : Nums (ws.map (·.t))) {m : TxM} (hm : m ∈ ws) : MapIs (D.del (numL m.t.site m.t.seq)) (dropM ws m.t) := by
  have hl := dropM_length hn hm
  have hs := size_del (k := numL m.t.site m.t.seq) hD
  rw [(h.has m hm).1, h.size] at hs
  refine ⟨by simp at hs; omega, fun x hx => ?_, fun s q h1 h2 hx => ?_⟩
  · obtain ⟨hx, hne⟩ := mem_dropM.1 hx
    have hne : numL x.t.site x.t.seq ≠ numL m.t.site m.t.seq := fun e => by
      obtain ⟨e1, e2⟩ := num_inj (hw x hx).1 (hw x hx).2 (hw m hm).1 (hw m hm).2 e
      simp [isNum, e1, e2] at hne
    exact ⟨by rw [has_del_other hne]; exact (h.has x hx).1, fun z => by rw [atKey_del_other hne]; exact (h.has x hx).2 z⟩
  · by_cases e : numL s q = numL m.t.site m.t.seq
    · rw [e]
      exact has_del_same
    · rw [has_del_other e]
      refine h.no s q h1 h2 (fun x h3 h4 => ?_)
      refine hx x (mem_dropM.2 ⟨h3, ?_⟩) h4
      cases hi : isNum x.t m.t with
      | false => rfl
      | true =>
        obtain ⟨p1, p2⟩ := isNum_iff.1 hi
        exact absurd (by rw [← h4.1, ← h4.2, p1, p2]) e

end Go.Proofs.YtpncedpfoakfkaaGreatDoor

namespace Go.Proofs.YtpncedpfoakfkaaGreatDoor
open Go.RowKit

theorem beforeV_iff {a b : Ver} : beforeV a b = true ↔ a.wall < b.wall ∨ (a.wall = b.wall ∧ (a.count < b.count ∨ (a.count = b.count ∧ a.site < b.site))) := by
  unfold beforeV
  rcases cmpS_cases a.wall a.count b.wall b.count with ⟨h, e⟩ | ⟨h, e⟩ | ⟨h, e⟩
  · rw [e, if_neg (by decide)]
    simp only [show decide ((-1 : Int) < 0) = true from rfl, true_iff]
    omega
  · rw [e, if_pos rfl]
    simp only [decide_eq_true_eq]
    omega
  · rw [e, if_neg (by decide)]
    simp only [show decide ((1 : Int) < 0) = false from rfl, Bool.false_eq_true, false_iff]
    omega

/-- of one stamp and site -/
def Twin (a b : Ver) : Prop := a.wall = b.wall ∧ a.count = b.count ∧ a.site = b.site
theorem beforeV_twin {a b : Ver} (h1 : beforeV a b = false) (h2 : beforeV b a = false) : Twin a b := by
  have n1 : ¬ beforeV a b = true := by rw [h1]; decide
  have n2 : ¬ beforeV b a = true := by rw [h2]; decide
  rw [beforeV_iff] at n1 n2
  unfold Twin
  omega
theorem beforeV_irrefl (a : Ver) : beforeV a a = false := by
  cases h : beforeV a a
  · rfl
  · rw [beforeV_iff] at h
    omega
/-- what is not earlier than an earlier one's later is not earlier -/
theorem beforeV_trans {a b c : Ver} (h1 : beforeV b a = true) (h2 : beforeV b c = false) : beforeV a c = false := by
  cases h : beforeV a c
  · rfl
  · exfalso
    have n2 : ¬ beforeV b c = true := by rw [h2]; decide
    rw [beforeV_iff] at h h1 n2
    omega

/-- v is the last one of the key among those that the vector has: one of them, none of them behind it -/
def IsLast (key a0 a1 a2 a3 : Int) (l : List Hd) (v : Ver) : Prop := (∃ h ∈ l, h.v = v ∧ h.key = key ∧ hasV a0 a1 a2 a3 v = true) ∧ ∀ h ∈ l, h.key = key → hasV a0 a1 a2 a3 h.v = true → beforeV v h.v = false

theorem foldl_last (key a0 a1 a2 a3 : Int) : ∀ (l p : List Hd) (best : Option Ver),
    (best = none → ∀ h ∈ p, h.key = key → hasV a0 a1 a2 a3 h.v = false) → (∀ v, best = some v → IsLast key a0 a1 a2 a3 p v) →
    (l.foldl (stepV key a0 a1 a2 a3) best = none → ∀ h ∈ p ++ l, h.key = key → hasV a0 a1 a2 a3 h.v = false) ∧ (∀ v, l.foldl (stepV key a0 a1 a2 a3) best = some v → IsLast key a0 a1 a2 a3 (p ++ l) v)
  | [], p, best, hn, hs => by simpa using ⟨hn, hs⟩
  | x :: l, p, best, hn, hs => by
    have key' : (stepV key a0 a1 a2 a3 best x = none → ∀ h ∈ p ++ [x], h.key = key → hasV a0 a1 a2 a3 h.v = false) ∧ (∀ v, stepV key a0 a1 a2 a3 best x = some v → IsLast key a0 a1 a2 a3 (p ++ [x]) v) := by
      cases best with
      | none =>
        by_cases hc : x.key = key ∧ hasV a0 a1 a2 a3 x.v = true
        · have e : stepV key a0 a1 a2 a3 none x = some x.v := stepV_some ⟨hc.1, hc.2, rfl⟩
          rw [e]
          refine ⟨fun h => (by cases h), fun v hv => ?_⟩
          injection hv with hv
          subst hv
          refine ⟨⟨x, by simp, rfl, hc.1, hc.2⟩, fun h hh hk hhas => ?_⟩
          rcases List.mem_append.1 hh with h1 | h1
          · have := hn rfl h h1 hk
            rw [hhas] at this
            cases this
          · obtain rfl := List.mem_singleton.1 h1
            exact beforeV_irrefl _
        · have e : stepV key a0 a1 a2 a3 none x = none := stepV_none (fun y => hc ⟨y.1, y.2.1⟩)
          rw [e]
          refine ⟨fun _ h hh hk => ?_, fun v hv => (by cases hv)⟩
          rcases List.mem_append.1 hh with h1 | h1
          · exact hn rfl h h1 hk
          · obtain rfl := List.mem_singleton.1 h1
            cases hq : hasV a0 a1 a2 a3 h.v
            · rfl
            · exact absurd ⟨hk, hq⟩ hc
      | some b =>
        obtain ⟨⟨y, hy, ey, ky, hhy⟩, hall⟩ := hs b rfl
        by_cases hc : x.key = key ∧ hasV a0 a1 a2 a3 x.v = true ∧ beforeV b x.v = true
        · have e : stepV key a0 a1 a2 a3 (some b) x = some x.v := stepV_some hc
          rw [e]
          refine ⟨fun h => (by cases h), fun v hv => ?_⟩
          injection hv with hv
          subst hv
          refine ⟨⟨x, by simp, rfl, hc.1, hc.2.1⟩, fun h hh hk hhas => ?_⟩
          rcases List.mem_append.1 hh with h1 | h1
          · exact beforeV_trans hc.2.2 (hall h h1 hk hhas)
          · obtain rfl := List.mem_singleton.1 h1
            exact beforeV_irrefl _
        · have e : stepV key a0 a1 a2 a3 (some b) x = some b := stepV_none hc
          rw [e]
          refine ⟨fun h => (by cases h), fun v hv => ?_⟩
          injection hv with hv
          subst hv
          refine ⟨⟨y, by simp [hy], ey, ky, hhy⟩, fun h hh hk hhas => ?_⟩
          rcases List.mem_append.1 hh with h1 | h1
          · exact hall h h1 hk hhas
          · obtain rfl := List.mem_singleton.1 h1
            cases hq : beforeV b h.v
            · rfl
            · exact absurd ⟨hk, hhas, hq⟩ hc
    have ih := foldl_last key a0 a1 a2 a3 l (p ++ [x]) (stepV key a0 a1 a2 a3 best x) key'.1 key'.2
    rw [List.append_assoc, List.singleton_append] at ih
    exact ih

theorem lastV_none {key a0 a1 a2 a3 : Int} {l : List Hd} (h : lastV key a0 a1 a2 a3 l = none) : ∀ x ∈ l, x.key = key → hasV a0 a1 a2 a3 x.v = false := by
  have := (foldl_last key a0 a1 a2 a3 l [] none (fun _ h hh => (by cases hh)) (fun v hv => (by cases hv))).1 h
  simpa using this
theorem lastV_some {key a0 a1 a2 a3 : Int} {l : List Hd} {v : Ver} (h : lastV key a0 a1 a2 a3 l = some v) : IsLast key a0 a1 a2 a3 l v := by
  have := (foldl_last key a0 a1 a2 a3 l [] none (fun _ h hh => (by cases hh)) (fun v hv => (by cases hv))).2 v h
  simpa using this

/-- no key has two of one stamp and site -/
def Apart (l : List Hd) : Prop := ∀ x ∈ l, ∀ y ∈ l, x.key = y.key → Twin x.v y.v → x = y
theorem isLast_one {key a0 a1 a2 a3 : Int} {l : List Hd} {u v : Ver} (hl : Apart l) (hu : IsLast key a0 a1 a2 a3 l u) (hv : IsLast key a0 a1 a2 a3 l v) : u = v := by
  obtain ⟨⟨x, hx, ex, kx, hhx⟩, hax⟩ := hu
  obtain ⟨⟨y, hy, ey, ky, hhy⟩, hay⟩ := hv
  subst ex ey
  have := hl x hx y hy (by rw [kx, ky]) (beforeV_twin (hax y hy ky hhy) (hay x hx kx hhx))
  rw [this]
/-- the last one depends on what is held alone -/
theorem lastV_iff {key a0 a1 a2 a3 : Int} {l : List Hd} {v : Ver} (hl : Apart l) : lastV key a0 a1 a2 a3 l = some v ↔ IsLast key a0 a1 a2 a3 l v := by
  refine ⟨lastV_some, fun h => ?_⟩
  cases e : lastV key a0 a1 a2 a3 l with
  | none =>
    obtain ⟨⟨x, hx, ex, kx, hhx⟩, _⟩ := h
    have := lastV_none e x hx kx
    rw [ex, hhx] at this
    cases this
  | some u => rw [isLast_one hl (lastV_some e) h]
theorem apart_put {l : List Hd} {key : Int} {v : Ver} (hl : Apart l) : Apart (putL l key v) := by
  unfold putL
  split
  · rename_i h
    have hn : l.any (twinB key v) = false := by
      unfold putE at h
      split at h
      · split at h
        · split at h
          · cases h
          · rename_i hx
            simpa using hx
        · cases h
      · cases h
    rw [List.any_eq_false] at hn
    have tw : ∀ x ∈ l, x.key = key → ¬ Twin x.v v := fun x hx hk ht => hn x hx (by simp [twinB, hk, ht.1, ht.2.1, ht.2.2])
    intro x hx y hy hk ht
    rcases List.mem_append.1 hx with h1 | h1 <;> rcases List.mem_append.1 hy with h2 | h2
    · exact hl x h1 y h2 hk ht
    · obtain rfl := List.mem_singleton.1 h2
      exact absurd ht (tw x h1 hk)
    · obtain rfl := List.mem_singleton.1 h1
      exact absurd ⟨ht.1.symm, ht.2.1.symm, ht.2.2.symm⟩ (tw y h2 hk.symm)
    · rw [List.mem_singleton.1 h1, List.mem_singleton.1 h2]
  · exact hl
theorem apart_sub {l m : List Hd} (hl : Apart l) (h : ∀ x ∈ m, x ∈ l) : Apart m := fun x hx y hy => hl x (h x hx) y (h y hy)

end Go.Proofs.YtpncedpfoakfkaaGreatDoor

namespace Go.Proofs.YtpncedpfoakfkaaGreatDoor
open Go.RowKit

/-- an error: nil, or a bare one -/
def errV (n : Int) : Value := if n = 0 then .nilIface else .iface 29 (.int .i64 n)
/-- blocks of X are as they were -/
structure Keeps (X : Nat → Prop) (w w' : World) : Prop where
  os : w'.os = w.os
  tape : w'.tape = w.tape
  output : w'.output = w.output
  size : w.heap.size ≤ w'.heap.size
  block : ∀ k, X k → w'.heap[k]? = w.heap[k]?
theorem Keeps.refl (X : Nat → Prop) (w : World) : Keeps X w w := ⟨rfl, rfl, rfl, Nat.le_refl _, fun _ _ => rfl⟩
theorem Keeps.trans {X : Nat → Prop} {a b c : World} (h : Keeps X a b) (k : Keeps X b c) : Keeps X a c := ⟨k.os.trans h.os, k.tape.trans h.tape, k.output.trans h.output, Nat.le_trans h.size k.size, fun i hi => (k.block i hi).trans (h.block i hi)⟩
theorem Keeps.below {X : Nat → Prop} {w w' : World} {B : Nat} (h : Keeps X w w') (hX : ∀ k, k < B → X k) : Below B w w' := ⟨h.os, h.tape, h.output, h.size, fun k hk => h.block k (hX k hk)⟩
theorem RowL.keeps {X : Nat → Prop} {w w' : World} {b : Nat} {vs : List Value} (h : RowL w b vs) (hk : Keeps X w w') (hX : X b) : RowL w' b vs := h.kept (hk.block b hX) hk.size

theorem putL_length {l : List Hd} {key : Int} {v : Ver} : (putL l key v).length ≤ l.length + 1 := by
  unfold putL
  split
  · simp
  · omega
theorem apart_sweep {l : List Hd} {a0 a1 a2 a3 : Int} (h : Apart l) : Apart (sweepL a0 a1 a2 a3 l) := apart_sub h fun _ hx => (List.mem_filter.1 hx).1
theorem sweepL_length {l : List Hd} {a0 a1 a2 a3 : Int} : (sweepL a0 a1 a2 a3 l).length ≤ l.length := List.length_filter_le _ _

end Go.Proofs.YtpncedpfoakfkaaGreatDoor

namespace Go.Proofs.YtpncedpfoakfkaaGreatDoor
open Go.RowKit

theorem Touch.more {F F' : Nat → Prop} {w w1 w2 : World} (h : Touch F w w1) (k : Touch F' w1 w2) (hF : ∀ j, F' j → F j ∨ w.heap.size ≤ j) : Touch F w w2 :=
  ⟨k.os.trans h.os, k.tape.trans h.tape, k.output.trans h.output, Nat.le_trans h.size k.size, fun j hj hn => (k.block j (Nat.lt_of_lt_of_le hj h.size) (fun e => by
    rcases hF j e with h1 | h1
    · exact hn h1
    · omega)).trans (h.block j hj hn)⟩

/-- the transaction's box, and a write's -/
structure ApB (tb xb : Nat) (ts xs : List Value) (w : World) : Prop where
  t : RowL w tb ts
  x : RowL w xb xs

/-- while its writes are put -/
structure ApMid (w0 : World) (b : Nat) (lv wv sv : Value) (S : SiteS) (log waits : List TxM) (m : TxM) (k : Nat) (sv' : Value) (wr : World) : Prop where
  mem : SMem wr b lv wv sv' { S with l := putsT m.t (m.t.ws.take k) S.l } log waits
  box : RowL wr w0.heap.size (txC m)
  far : ¬ footS b lv wv sv' w0.heap.size
  foot : ∀ j, footS b lv wv sv' j → footS b lv wv sv j ∨ w0.heap.size ≤ j
  touch : Touch (footS b lv wv sv) w0 wr

theorem ApMid.later {w0 : World} {b : Nat} {lv wv sv : Value} {S : SiteS} {log waits : List TxM} {m : TxM} {k : Nat} {sv' : Value} {wr w' : World} (h : ApMid w0 b lv wv sv S log waits m k sv' wr) (hb : Below wr.heap.size wr w') : ApMid w0 b lv wv sv S log waits m k sv' w' :=
  ⟨h.mem.later hb, h.box.later hb, h.far, h.foot, h.touch.trans (Touch.ofBelow hb)⟩
theorem ApMid.put {w0 : World} {b : Nat} {lv wv sv : Value} {S : SiteS} {log waits : List TxM} {m : TxM} {k : Nat} {sv' : Value} {wr w' : World} (h : ApMid w0 b lv wv sv S log waits m k sv' wr) (hk : k < m.t.ws.length)
    (hp : OPost wr b 9 sv' (putL (putsT m.t (m.t.ws.take k) S.l) (wrAt m.t.ws k).key (verOf m.t (wrAt m.t.ws k))) w') : ∃ sv2, ApMid w0 b lv wv sv S log waits m (k + 1) sv2 w' := by
  obtain ⟨sv2, mm, nf, ht⟩ := h.mem.store hp
  refine ⟨sv2, by rw [putsT_snoc hk]; exact mm, h.box.kept (ht.block _ h.box.lt h.far) ht.size, fun hf => ?_, fun j hj => ?_, h.touch.more ht h.foot⟩
  · rcases nf _ hf with h1 | h1
    · exact h.far h1
    · have := h.box.lt
      omega
  · rcases nf j hj with h1 | h1
    · exact h.foot j h1
    · exact .inr (by have := h.touch.size; omega)

theorem ApMid.outside {w0 : World} {b : Nat} {lv wv sv : Value} {S : SiteS} {log waits : List TxM} {m : TxM} {k : Nat} {sv' : Value} {wr w' : World} {xb : Nat} {xs : List Value} {l' : List Hd} (h : ApMid w0 b lv wv sv S log waits m k sv' wr)
    (hp : OPost wr b 9 sv' l' w') (hx : RowL wr xb xs) (hn : ¬ footS b lv wv sv' xb) : ApB w0.heap.size xb (txC m) xs w' := by
  obtain ⟨sv2, mm, nf, ht⟩ := h.mem.store hp
  exact ⟨h.box.kept (ht.block _ h.box.lt h.far) ht.size, hx.kept (ht.block _ hx.lt hn) ht.size⟩

theorem txInfo : (Tryz.prog.info? 44).map (fun i => (i.zero, i.size, i.bytes)) = some (some (.agg #[.int .i64 0, .int .i64 0, .int .i64 0, .int .i64 0, .int .i64 0, .int .i64 0, .int .i64 0, .int .i64 0, .slice none 0 0]), 9, 88) := by kernel_rfl

/-- numbers of its box are others -/
theorem SMem.cells {w w' : World} {b : Nat} {lv wv sv : Value} {S S' : SiteS} {log waits : List TxM} (h : SMem w b lv wv sv S log waits) (hO : ∀ k, k ≠ b → w'.heap[k]? = w.heap[k]?) (hbox : RowL w' b (siteC S' lv wv sv)) (hl : S'.l = S.l) : SMem w' b lv wv sv S' log waits :=
  ⟨hbox, own_keptN h.rlog (fun k e => hO k (fun x => h.nl (by rw [← x]; exact e))), own_keptN h.rwait (fun k e => hO k (fun x => h.nw (by rw [← x]; exact e))), by rw [hl]; exact own_keptN h.own (fun k e => hO k (fun x => h.ns (by rw [← x]; exact e))), by rw [hl]; exact h.ok, h.nl, h.nw, h.ns, h.lw, h.ls, h.ws,
    fun m hm => ⟨(h.hold m hm).1.kept (fun k e => hO k (fun x => (h.hold m hm).2 k e (.inl x))), (h.hold m hm).2⟩⟩
theorem SMem.seq {w : World} {b : Nat} {lv wv sv : Value} {S : SiteS} {log waits : List TxM} (h : SMem w b lv wv sv S log waits) {s : Int} (x : Int) (h0 : 0 ≤ s) (h3 : s ≤ 3) :
    SMem (w.setCell ⟨b, 1 + s.toNat, none⟩ (.int .i64 x)) b lv wv sv { S with a0 := setV0 s x S.a0, a1 := setV1 s x S.a1, a2 := setV2 s x S.a2, a3 := setV3 s x S.a3 } log waits := by
  refine h.cells (fun k hk => Below.heap_setCell _ _ _ _ hk) ?_ rfl
  have R := h.box.set (1 + s.toNat) (.int .i64 x) (by simp [siteC]; omega)
  have hc : s = 0 ∨ s = 1 ∨ s = 2 ∨ s = 3 := by omega
  rcases hc with rfl | rfl | rfl | rfl <;> exact R
theorem SMem.last {w : World} {b : Nat} {lv wv sv : Value} {S : SiteS} {log waits : List TxM} (h : SMem w b lv wv sv S log waits) (x y : Int) :
    SMem ((w.setCell ⟨b, 5, none⟩ (.int .i64 x)).setCell ⟨b, 6, none⟩ (.int .i64 y)) b lv wv sv { S with lw := x, lc := y } log waits :=
  h.cells (fun k hk => (Below.heap_setCell _ _ _ _ hk).trans (Below.heap_setCell _ _ _ _ hk)) ((h.box.set 5 _ (by simp [siteC])).set 6 _ (by simp [siteC])) rfl

/-- a transaction more -/
theorem SMem.append {w wE : World} {b : Nat} {lv wv sv : Value} {S : SiteS} {log waits : List TxM} (h : SMem w b lv wv sv S log waits) (m : TxM) (hm : WrIn w m.wa m.wc m.t.ws ∧ ∀ k, m.blk k → ¬ footS b lv wv sv k) {g cap9 : Nat} (gr : w.grownBy wE lv.ownBlock)
    (ownE : wE.ownsRow 0 44 9 (.slice (some ⟨g, 0, none⟩) (log.length + 1) cap9) (log.length + 1) (txsC log ++ txC m)) (eg : lv.ownBlock = some g ∨ w.heap.size ≤ g) :
    SMem (wE.setCell ⟨b, 7, none⟩ (.slice (some ⟨g, 0, none⟩) (log.length + 1) cap9)) b (.slice (some ⟨g, 0, none⟩) (log.length + 1) cap9) wv sv S (log ++ [m]) waits ∧ (∀ k, footS b (.slice (some ⟨g, 0, none⟩) (log.length + 1) cap9) wv sv k → footS b lv wv sv k ∨ w.heap.size ≤ k) ∧
      Touch (footS b lv wv sv) w (wE.setCell ⟨b, 7, none⟩ (.slice (some ⟨g, 0, none⟩) (log.length + 1) cap9)) := by
  have kb : ∀ k, k < w.heap.size → k ≠ b → lv.ownBlock ≠ some k → (wE.setCell ⟨b, 7, none⟩ (.slice (some ⟨g, 0, none⟩) (log.length + 1) cap9)).heap[k]? = w.heap[k]? := fun k hk h1 h2 =>
    (Below.heap_setCell _ _ _ _ h1).trans (gr.block k hk (fun e => h2 e.symm))
  have gb : g ≠ b := fun e => by
    rcases eg with h1 | h1
    · exact h.nl (by rw [← e]; exact h1)
    · have := h.box.lt
      omega
  have gk : ∀ k, (Value.slice (some ⟨g, 0, none⟩) (log.length + 1) cap9).ownBlock = some k → g = k := fun k hk => by simpa [Value.ownBlock] using hk
  have nf : ∀ k, footS b (.slice (some ⟨g, 0, none⟩) (log.length + 1) cap9) wv sv k → footS b lv wv sv k ∨ w.heap.size ≤ k := fun k hk => by
    rcases hk with hk | hk | hk
    · exact .inl (.inl hk)
    · obtain rfl := gk k hk
      rcases eg with h1 | h1
      · exact .inl (.inr (.inl h1))
      · exact .inr h1
    · exact .inl (.inr (.inr hk))
  have hold : ∀ m' : TxM, (WrIn w m'.wa m'.wc m'.t.ws ∧ ∀ k, m'.blk k → ¬ footS b lv wv sv k) → WrIn (wE.setCell ⟨b, 7, none⟩ (.slice (some ⟨g, 0, none⟩) (log.length + 1) cap9)) m'.wa m'.wc m'.t.ws ∧ ∀ k, m'.blk k → ¬ footS b (.slice (some ⟨g, 0, none⟩) (log.length + 1) cap9) wv sv k := fun m' hm' =>
    ⟨hm'.1.kept (fun k e => kb k (hm'.1.blk_lt k e) (fun x => hm'.2 k e (.inl x)) (fun x => hm'.2 k e (.inr (.inl x)))), fun k e hf => by
      rcases nf k hf with h1 | h1
      · exact hm'.2 k e h1
      · have := hm'.1.blk_lt k e
        omega⟩
  refine ⟨⟨(h.box.grown gr (fun e => h.nl e.symm)).set 7 _ (by simp [siteC]), ?_, own_keptN h.rwait (fun k e => kb k (h.rwait.lt k e).2 (fun x => h.nw (by rw [← x]; exact e)) (fun x => h.lw k x e)), own_keptN h.own (fun k e => kb k (h.own.lt k e).2 (fun x => h.ns (by rw [← x]; exact e)) (fun x => h.ls k x e)), h.ok, fun e => gb (gk b e), h.nw, h.ns,
    fun k e => ?_, fun k e => ?_, h.ws, fun m' hm' => hold m' ?_⟩, nf, ?_⟩
  · have := ownE.kept (row := some b) (onlyCell b 7 wE (.slice (some ⟨g, 0, none⟩) (log.length + 1) cap9)) (.inr (fun e => gb (gk b e)))
    rw [txsC_snoc, List.length_append]
    exact this
  · obtain rfl := gk k e
    rcases eg with h1 | h1
    · exact h.lw _ h1
    · intro x
      have := (h.rwait.lt _ x).2
      omega
  · obtain rfl := gk k e
    rcases eg with h1 | h1
    · exact h.ls _ h1
    · intro x
      have := (h.own.lt _ x).2
      omega
  · rcases List.mem_append.1 hm' with h1 | h1
    · rcases List.mem_append.1 h1 with h2 | h2
      · exact h.hold m' (List.mem_append.2 (.inl h2))
      · obtain rfl := List.mem_singleton.1 h2
        exact hm
    · exact h.hold m' (List.mem_append.2 (.inr h1))
  · exact (Touch.grown gr (fun k hk => .inr (.inl hk))).trans (Touch.setCell wE ⟨b, 7, none⟩ _ (.inl rfl))

/-- behind its writes -/
structure ApE (w0 : World) (b : Nat) (lv wv sv : Value) (S : SiteS) (log waits : List TxM) (m : TxM) (sv' : Value) (wr : World) : Prop where
  mem : SMem wr b lv wv sv' S log waits
  box : RowL wr w0.heap.size (txC m)
  far : ¬ footS b lv wv sv' w0.heap.size
  foot : ∀ j, footS b lv wv sv' j → footS b lv wv sv j ∨ w0.heap.size ≤ j
  touch : Touch (footS b lv wv sv) w0 wr
theorem ApE.later {w0 : World} {b : Nat} {lv wv sv : Value} {S : SiteS} {log waits : List TxM} {m : TxM} {sv' : Value} {wr w' : World} (h : ApE w0 b lv wv sv S log waits m sv' wr) (hb : Below wr.heap.size wr w') : ApE w0 b lv wv sv S log waits m sv' w' :=
  ⟨h.mem.later hb, h.box.later hb, h.far, h.foot, h.touch.trans (Touch.ofBelow hb)⟩
theorem ApE.seq {w0 : World} {b : Nat} {lv wv sv : Value} {S : SiteS} {log waits : List TxM} {m : TxM} {sv' : Value} {wr : World} (h : ApE w0 b lv wv sv S log waits m sv' wr) {s : Int} (x : Int) (h0 : 0 ≤ s) (h3 : s ≤ 3) :
    ApE w0 b lv wv sv { S with a0 := setV0 s x S.a0, a1 := setV1 s x S.a1, a2 := setV2 s x S.a2, a3 := setV3 s x S.a3 } log waits m sv' (wr.setCell ⟨b, 1 + s.toNat, none⟩ (.int .i64 x)) :=
  ⟨h.mem.seq x h0 h3, h.box.far _ _ (fun e => h.far (.inl e.symm)), h.far, h.foot, h.touch.trans (Touch.setCell wr ⟨b, 1 + s.toNat, none⟩ _ (.inl rfl))⟩
theorem ApE.last {w0 : World} {b : Nat} {lv wv sv : Value} {S : SiteS} {log waits : List TxM} {m : TxM} {sv' : Value} {wr : World} (h : ApE w0 b lv wv sv S log waits m sv' wr) (x y : Int) :
    ApE w0 b lv wv sv { S with lw := x, lc := y } log waits m sv' ((wr.setCell ⟨b, 5, none⟩ (.int .i64 x)).setCell ⟨b, 6, none⟩ (.int .i64 y)) :=
  ⟨h.mem.last x y, (h.box.far _ _ (fun e => h.far (.inl e.symm))).far _ _ (fun e => h.far (.inl e.symm)), h.far, h.foot, (h.touch.trans (Touch.setCell wr ⟨b, 5, none⟩ _ (.inl rfl))).trans (Touch.setCell _ ⟨b, 6, none⟩ _ (.inl rfl))⟩
theorem ApE.append {w0 : World} {b : Nat} {lv wv sv : Value} {S : SiteS} {log waits : List TxM} {m : TxM} {sv' : Value} {wr wE : World} (h : ApE w0 b lv wv sv S log waits m sv' wr) (hm : WrIn w0 m.wa m.wc m.t.ws ∧ ∀ k, m.blk k → ¬ footS b lv wv sv k) {g cap9 : Nat} (gr : wr.grownBy wE lv.ownBlock)
    (ownE : wE.ownsRow 0 44 9 (.slice (some ⟨g, 0, none⟩) (log.length + 1) cap9) (log.length + 1) (txsC log ++ txC m)) (eg : lv.ownBlock = some g ∨ wr.heap.size ≤ g) :
    ∃ lv' sv2, SMem (wE.setCell ⟨b, 7, none⟩ (.slice (some ⟨g, 0, none⟩) (log.length + 1) cap9)) b lv' wv sv2 S (log ++ [m]) waits ∧ (∀ k, footS b lv' wv sv2 k → footS b lv wv sv k ∨ w0.heap.size ≤ k) ∧ Touch (footS b lv wv sv) w0 (wE.setCell ⟨b, 7, none⟩ (.slice (some ⟨g, 0, none⟩) (log.length + 1) cap9)) := by
  obtain ⟨h1, h2, h3⟩ := h.mem.append m ⟨hm.1.kept (fun k e => h.touch.block k (hm.1.blk_lt k e) (hm.2 k e)), fun k e hf => by
    rcases h.foot k hf with h1 | h1
    · exact hm.2 k e h1
    · have := hm.1.blk_lt k e
      omega⟩ gr ownE eg
  refine ⟨_, _, h1, fun k hk => ?_, h.touch.more h3 h.foot⟩
  rcases h2 k hk with h4 | h4
  · exact h.foot k h4
  · exact .inr (by have := h.touch.size; omega)

set_option maxRecDepth 100000 in
set_option maxHeartbeats 8000000 in
theorem refApplies_any {b : Nat} {lv wv sv : Value} {S : SiteS} {log waits : List TxM} (m : TxM) (w : World) (h : SMem w b lv wv sv S log waits) (hm : WrIn w m.wa m.wc m.t.ws ∧ ∀ k, m.blk k → ¬ footS b lv wv sv k) (hs0 : 0 ≤ m.t.site) (hs1 : m.t.site ≤ 3) (hl : S.l.length + m.t.ws.length ≤ 1000) (hlog : log.length ≤ 1000) :
    Calls Tryz.prog 51 #[.pointer (some ⟨b, 0, none⟩), .agg #[.int .i64 m.t.site, .int .i64 m.t.seq, .int .i64 m.t.wall, .int .i64 m.t.count, .int .i64 m.t.d0, .int .i64 m.t.d1, .int .i64 m.t.d2, .int .i64 m.t.d3, .slice m.wa m.t.ws.length m.wc]] w fun e w' =>
      e = .returned (.tuple #[]) ∧ ∃ lv' sv', SMem w' b lv' wv sv' (applyS S m.t) (log ++ [m]) waits ∧ (∀ k, footS b lv' wv sv' k → footS b lv wv sv k ∨ w.heap.size ≤ k) ∧ Touch (footS b lv wv sv) w w' := by
  have hb := boxed (Below.refl _ w) (.cells #[.int .i64 m.t.site, .int .i64 m.t.seq, .int .i64 m.t.wall, .int .i64 m.t.count, .int .i64 m.t.d0, .int .i64 m.t.d1, .int .i64 m.t.d2, .int .i64 m.t.d3, .slice m.wa m.t.ws.length m.wc] 44)
  have RT := RowL.new (w := w) (T := 44) (txC m) rfl
  change RowL (w.alloc (.cells #[.int .i64 m.t.site, .int .i64 m.t.seq, .int .i64 m.t.wall, .int .i64 m.t.count, .int .i64 m.t.d0, .int .i64 m.t.d1, .int .i64 m.t.d2, .int .i64 m.t.d3, .slice m.wa m.t.ws.length m.wc] 44)) w.heap.size (txC m) at RT
  have M0 : ApMid w b lv wv sv S log waits m 0 sv (w.alloc (.cells #[.int .i64 m.t.site, .int .i64 m.t.seq, .int .i64 m.t.wall, .int .i64 m.t.count, .int .i64 m.t.d0, .int .i64 m.t.d1, .int .i64 m.t.d2, .int .i64 m.t.d3, .slice m.wa m.t.ws.length m.wc] 44)) :=
    ⟨by simpa [putsT] using h.later hb, RT, fun e => Nat.lt_irrefl _ (h.lt _ e), fun j hj => .inl hj, Touch.ofBelow hb⟩
  have HM : Hid (WrIn w m.wa m.wc m.t.ws ∧ ∀ k, m.blk k → ¬ footS b lv wv sv k) := hm
  have hc1 := hm.1.len
  have hc2 := hm.1.cap
  clear hm hb RT
  go_enter Tryz.func51, Tryz.ntmps51
  go_wp2_with fail
  obtain ⟨W, hWW⟩ : ∃ W, w.alloc (.cells #[.int .i64 m.t.site, .int .i64 m.t.seq, .int .i64 m.t.wall, .int .i64 m.t.count, .int .i64 m.t.d0, .int .i64 m.t.d1, .int .i64 m.t.d2, .int .i64 m.t.d3, .slice m.wa m.t.ws.length m.wc] 44) = W := ⟨_, rfl⟩
  rw [hWW] at M0 ⊢
  clear hWW
  go_loopw [9] (fun iv wr => ∃ (k : Nat) (z : Int) (sv' : Value), k ≤ m.t.ws.length ∧ z = k ∧ iv = .int .i64 z ∧ Hid (ApMid w b lv wv sv S log waits m k sv' wr)) (fun i _ => m.t.ws.length - (intOf i).toNat)
  case atStart => exact ⟨0, 0, sv, by omega, rfl, rfl, M0⟩
  case round =>
    clear M0
    obtain ⟨k, z, sv', hk, hz, rfl, AM⟩ := hrel
    have HZ : Hid (z = k) := hz
    by_cases hlt : k < m.t.ws.length
    · have h1 : z < (m.t.ws.length : Int) := by omega
      have h2 : z.toNat = k := by omega
      have h3 : 0 ≤ z := by omega
      clear hz
      obtain ⟨wb, off, hwa, hcc⟩ : ∃ wb off, m.wa = some ⟨wb, off, none⟩ ∧ WrCells w wb off m.t.ws := by
        rcases HM.out.1.held with h0 | h0
        · rw [h0] at hlt; simp at hlt
        · exact h0
      have hblk : m.blk wb := ⟨fun e => by rw [e] at hlt; simp at hlt, off, hwa⟩
      have hwl := HM.out.1.blk_lt wb hblk
      have ew := AM.out.touch.block wb hwl (HM.out.2 wb hblk)
      obtain ⟨⟨xk, xd, xg⟩, hx⟩ : ∃ x, wrAt m.t.ws k = x := ⟨_, rfl⟩
      have hc := hcc k hlt
      rw [hx] at hc
      have x0 : wr.cell? ⟨wb, off + k * 3, none⟩ = some (.int .i64 xk) := by rw [World.cell?_of_block (w := w) ew]; exact hc.1
      have x1 : wr.cell? ⟨wb, off + k * 3 + 1, none⟩ = some (.string xd) := by rw [World.cell?_of_block (w := w) ew]; exact hc.2.1
      have x2 : wr.cell? ⟨wb, off + k * 3 + 2, none⟩ = some (.bool xg) := by rw [World.cell?_of_block (w := w) ew]; exact hc.2.2
      have HX : Hid (wrAt m.t.ws k = ⟨xk, xd, xg⟩) := hx
      have HWA : Hid (m.wa = some ⟨wb, off, none⟩) := hwa
      rw [hwa]
      clear hcc hblk ew hc hx hwa hwl
      have hbx := boxed (Below.refl _ wr) (.cells #[.int .i64 xk, .string xd, .bool xg] 83)
      have AM1 := (AM.out.later hbx).later (Below.refl _ (wr.alloc (.cells #[.int .i64 xk, .string xd, .bool xg] 83))).drew
      have RX := (RowL.new (w := wr) (T := 83) [.int .i64 xk, .string xd, .bool xg] rfl).drew
      change RowL (wr.alloc (.cells #[.int .i64 xk, .string xd, .bool xg] 83)).drew wr.heap.size [.int .i64 xk, .string xd, .bool xg] at RX
      have SB : ApB w.heap.size wr.heap.size (txC m) [.int .i64 xk, .string xd, .bool xg] (wr.alloc (.cells #[.int .i64 xk, .string xd, .bool xg] 83)).drew := ⟨AM1.box, RX⟩
      have hll : (putsT m.t (m.t.ws.take k) S.l).length ≤ 1000 := by
        have := putsT_length m.t (m.t.ws.take k) S.l
        rw [List.length_take] at this
        omega
      have PU : Hid (Calls Tryz.prog 82 #[.pointer (some ⟨b, 9, none⟩), .int .i64 xk, .agg #[.int .i64 m.t.wall, .int .i64 m.t.count, .int .i64 m.t.site, .int .i64 m.t.seq, .string xd, .bool xg]] (wr.alloc (.cells #[.int .i64 xk, .string xd, .bool xg] 83)).drew fun e w' => e = .returned (.int .i64 (putE (putsT m.t (m.t.ws.take k) S.l) xk ⟨m.t.wall, m.t.count, m.t.site, m.t.seq, xd, xg⟩)) ∧ ApB w.heap.size wr.heap.size (txC m) [.int .i64 xk, .string xd, .bool xg] w' ∧ ∃ sv2, Hid (ApMid w b lv wv sv S log waits m (k + 1) sv2 w')) :=
        (oPut_any xk ⟨m.t.wall, m.t.count, m.t.site, m.t.seq, xd, xg⟩ _ AM1.mem.st hll).mono fun e w' ⟨he, hp⟩ => ⟨he, AM1.outside hp RX (fun hf => Nat.lt_irrefl _ (AM.out.mem.lt _ hf)), AM1.put hlt (by rw [HX.out]; exact hp)⟩
      have T0 := fun (w' : World) (h : ApB w.heap.size wr.heap.size (txC m) [.int .i64 xk, .string xd, .bool xg] w') => h.t.cell 0 _ rfl
      have T1 := fun (w' : World) (h : ApB w.heap.size wr.heap.size (txC m) [.int .i64 xk, .string xd, .bool xg] w') => h.t.cell 1 _ rfl
      have T2 := fun (w' : World) (h : ApB w.heap.size wr.heap.size (txC m) [.int .i64 xk, .string xd, .bool xg] w') => h.t.cell 2 _ rfl
      have T3 := fun (w' : World) (h : ApB w.heap.size wr.heap.size (txC m) [.int .i64 xk, .string xd, .bool xg] w') => h.t.cell 3 _ rfl
      have X0 := fun (w' : World) (h : ApB w.heap.size wr.heap.size (txC m) [.int .i64 xk, .string xd, .bool xg] w') => h.x.cell 0 _ rfl
      have X1 := fun (w' : World) (h : ApB w.heap.size wr.heap.size (txC m) [.int .i64 xk, .string xd, .bool xg] w') => h.x.cell 1 _ rfl
      have X2 := fun (w' : World) (h : ApB w.heap.size wr.heap.size (txC m) [.int .i64 xk, .string xd, .bool xg] w') => h.x.cell 2 _ rfl
      clear AM1 RX hbx hll AM
      go_wp2_with fail
      go_region_held3 (fun w' => ApB w.heap.size wr.heap.size (txC m) [.int .i64 xk, .string xd, .bool xg] w') (with_reducible assumption)
        (first | (go_at_call 82; with_reducible refine PU.out.mono ?_; rintro e w5 ⟨rfl, SB5, sv2, AM3⟩))
      all_goals
        go_wp2_with fail
        go_roundw
        case rel => exact ⟨k + 1, z + 1, sv2, by omega, by have := HZ.out; omega, by go_num, AM3⟩
        case measure => simp [intOf]; have := HZ.out; omega
    · have h4 : ¬ z < (m.t.ws.length : Int) := by omega
      obtain rfl : k = m.t.ws.length := by omega
      clear hz
      have AE : Hid (ApE w b lv wv sv { S with l := putsT m.t m.t.ws S.l } log waits m sv' wr) := by
        have AM' := AM.out
        refine ⟨?_, AM'.box, AM'.far, AM'.foot, AM'.touch⟩
        have := AM'.mem
        rw [List.take_length] at this
        exact this
      have BX := AE.out.box
      have t0 := BX.cell 0 _ rfl
      have t1 := BX.cell 1 _ rfl
      have s1 := AE.out.mem.box.free (1 + m.t.site.toNat) (by simp [siteC]; omega)
      obtain ⟨ov, s0⟩ : ∃ v, wr.cell? ⟨b, 1 + m.t.site.toNat, none⟩ = some v := ⟨_, AE.out.mem.box.cell (1 + m.t.site.toNat) _ (List.getElem?_eq_getElem (by simp [siteC]; omega))⟩
      go_wp2_with fail
      go_region
      have A1 : Hid (ApE w b lv wv sv { S with l := putsT m.t m.t.ws S.l, a0 := setV0 m.t.site m.t.seq S.a0, a1 := setV1 m.t.site m.t.seq S.a1, a2 := setV2 m.t.site m.t.seq S.a2, a3 := setV3 m.t.site m.t.seq S.a3 } log waits m sv' (wr.setCell ⟨b, 1 + m.t.site.toNat, none⟩ (.int .i64 m.t.seq)).drew) := (AE.out.seq m.t.seq hs0 hs1).later (Below.refl _ _).drew
      obtain ⟨W1, hW1⟩ : ∃ W1, (wr.setCell ⟨b, 1 + m.t.site.toNat, none⟩ (.int .i64 m.t.seq)).drew = W1 := ⟨_, rfl⟩
      rw [hW1] at A1 ⊢
      clear hW1 AE AM BX t0 t1 s0 s1
      have t2 := Later.cell (A1.out.box.cell 2 _ rfl)
      have t3 := Later.cell (A1.out.box.cell 3 _ rfl)
      have l5 := Later.cell (A1.out.mem.box.cell 5 _ rfl)
      have l6 := Later.cell (A1.out.mem.box.cell 6 _ rfl)
      go_wp2_with fail
      refine wp_region_later (by kernel_rfl) (by kernel_rfl) ?_
      repeat (go_big_quiet_step (first | rfl | (go_at_call 83; exact calls_later (refCompare_any _ _ _ _ _))))
      refine wpQuiet_nil ?_
      rintro w5 ⟨⟨_, hb7⟩, rfl⟩
      have A2 : Hid (ApE w b lv wv sv { S with l := putsT m.t m.t.ws S.l, a0 := setV0 m.t.site m.t.seq S.a0, a1 := setV1 m.t.site m.t.seq S.a1, a2 := setV2 m.t.site m.t.seq S.a2, a3 := setV3 m.t.site m.t.seq S.a3 } log waits m sv' w5) := A1.out.later hb7
      clear A1 hb7 t2 t3 l5 l6
      have FIN9 : ∀ (S9 : SiteS) (w6 : World), Hid (ApE w b lv wv sv S9 log waits m sv' w6) → { S9 with log := S.log ++ [m.t] } = applyS S m.t → ∀ (g cap9 : Nat) (wE : World), (w6.drew.alloc (.cells #[.int .i64 m.t.site, .int .i64 m.t.seq, .int .i64 m.t.wall, .int .i64 m.t.count, .int .i64 m.t.d0, .int .i64 m.t.d1, .int .i64 m.t.d2, .int .i64 m.t.d3, .slice m.wa m.t.ws.length m.wc] 44)).grownBy wE lv.ownBlock →
          wE.ownsRow 0 44 9 (.slice (some ⟨g, 0, none⟩) (log.length + 1) cap9) (log.length + 1) (txsC log ++ txC m) → (lv.ownBlock = some g ∨ g = (w6.drew.alloc (.cells #[.int .i64 m.t.site, .int .i64 m.t.seq, .int .i64 m.t.wall, .int .i64 m.t.count, .int .i64 m.t.d0, .int .i64 m.t.d1, .int .i64 m.t.d2, .int .i64 m.t.d3, .slice m.wa m.t.ws.length m.wc] 44)).heap.size) →
          Hid (∃ lv' sv2, SMem (wE.setCell ⟨b, 7, none⟩ (.slice (some ⟨g, 0, none⟩) (log.length + 1) cap9)) b lv' wv sv2 (applyS S m.t) (log ++ [m]) waits ∧ (∀ k, footS b lv' wv sv2 k → footS b lv wv sv k ∨ w.heap.size ≤ k) ∧ Touch (footS b lv wv sv) w (wE.setCell ⟨b, 7, none⟩ (.slice (some ⟨g, 0, none⟩) (log.length + 1) cap9))) := fun S9 w6 A e g cap9 wE gr ow eg => by
        have A' := A.out.later (boxed ((Below.refl _ w6).drew) (.cells #[.int .i64 m.t.site, .int .i64 m.t.seq, .int .i64 m.t.wall, .int .i64 m.t.count, .int .i64 m.t.d0, .int .i64 m.t.d1, .int .i64 m.t.d2, .int .i64 m.t.d3, .slice m.wa m.t.ws.length m.wc] 44))
        obtain ⟨lv', sv2, h1, h2, h3⟩ := A'.append HM.out gr ow (eg.imp id (fun e => Nat.le_of_eq e.symm))
        rw [← e]
        exact ⟨lv', sv2, ⟨h1.box, h1.rlog, h1.rwait, h1.own, h1.ok, h1.nl, h1.nw, h1.ns, h1.lw, h1.ls, h1.ws, h1.hold⟩, h2, h3⟩
      obtain ⟨i0, hi, hz0, hz1, hz2⟩ := info_parts txInfo
      cases hd : decide (0 < cmpS m.t.wall m.t.count S.lw S.lc)
      · have AP := FIN9 _ w5 A2 (by simp only [applyS]; have := of_decide_eq_false hd; simp [this])
        have t0 := A2.out.box.cell 0 _ rfl
        have t1 := A2.out.box.cell 1 _ rfl
        have t2 := A2.out.box.cell 2 _ rfl
        have t3 := A2.out.box.cell 3 _ rfl
        have t4 := A2.out.box.cell 4 _ rfl
        have t5 := A2.out.box.cell 5 _ rfl
        have t6 := A2.out.box.cell 6 _ rfl
        have t7 := A2.out.box.cell 7 _ rfl
        have t8 := A2.out.box.cell 8 _ rfl
        have s7 := A2.out.mem.box.cell 7 _ rfl
        have f7 := A2.out.mem.box.free 7 (by simp [siteC])
        have own6 : w5.drew.ownsRow 0 44 9 lv log.length (txsC log) := A2.out.mem.rlog
        have hsb := A2.out.mem.box.lt
        have nb : some b ≠ lv.ownBlock := fun e => A2.out.mem.nl e.symm
        have bx : RowL w5 b (siteC _ lv wv sv') := A2.out.mem.box
        clear FIN9
        go_wp2_with fail
        go_region_law (refine step_append_lies _ rfl (.tmp 56) (.tmp 58) 35 rfl 0 44 i0 (.agg #[.int .i64 0, .int .i64 0, .int .i64 0, .int .i64 0, .int .i64 0, .int .i64 0, .int .i64 0, .int .i64 0, .slice none 0 0]) 9 88 Tryz.underlying35 hi hz0 hz1 hz2 rfl (by decide) lv log.length (txsC log) (by simp [Act.eval]) (own6.alloc _) ⟨w5.heap.size, 0, none⟩ 1 1 (txC m) (by simp [Act.eval]) rfl (World.news_of_block (heap_alloc_new w5.drew (.cells #[.int .i64 m.t.site, .int .i64 m.t.seq, .int .i64 m.t.wall, .int .i64 m.t.count, .int .i64 m.t.d0, .int .i64 m.t.d1, .int .i64 m.t.d2, .int .i64 m.t.d3, .slice m.wa m.t.ws.length m.wc] 44))) (txC_one m) (by decide) (by simp only [maxLen]; omega) (by omega) (by simp) _ rfl ?_
                       intro g cap9 wE ownE grE egE ltE
                       have FIN := AP g cap9 wE grE ownE egE
                       have BE := ((bx.drew).boxed (.cells #[.int .i64 m.t.site, .int .i64 m.t.seq, .int .i64 m.t.wall, .int .i64 m.t.count, .int .i64 m.t.d0, .int .i64 m.t.d1, .int .i64 m.t.d2, .int .i64 m.t.d3, .slice m.wa m.t.ws.length m.wc] 44)).grown grE nb
                       have s0E := BE.cell 7 _ rfl
                       have s1E := BE.free 7 (by simp [siteC]))
        all_goals
          go_wp2_with fail
          go_end0
          exact ⟨rfl, FIN.out⟩
      · have k2 := A2.out.box.cell 2 _ rfl
        have k3 := A2.out.box.cell 3 _ rfl
        have k5 := A2.out.mem.box.cell 5 _ rfl
        have k6 := A2.out.mem.box.cell 6 _ rfl
        have q5 := A2.out.mem.box.free 5 (by simp [siteC])
        have q6 := A2.out.mem.box.free 6 (by simp [siteC])
        go_wp2_with fail
        have A3 : Hid (ApE w b lv wv sv { S with l := putsT m.t m.t.ws S.l, a0 := setV0 m.t.site m.t.seq S.a0, a1 := setV1 m.t.site m.t.seq S.a1, a2 := setV2 m.t.site m.t.seq S.a2, a3 := setV3 m.t.site m.t.seq S.a3, lw := m.t.wall, lc := m.t.count } log waits m sv' ((w5.setCell ⟨b, 5, none⟩ (.int .i64 m.t.wall)).setCell ⟨b, 6, none⟩ (.int .i64 m.t.count))) := A2.out.last m.t.wall m.t.count
        obtain ⟨w6, hw6⟩ : ∃ w6, (w5.setCell ⟨b, 5, none⟩ (.int .i64 m.t.wall)).setCell ⟨b, 6, none⟩ (.int .i64 m.t.count) = w6 := ⟨_, rfl⟩
        rw [hw6] at A3 ⊢
        clear hw6 A2 k2 k3 k5 k6 q5 q6
        have AP := FIN9 _ w6 A3 (by simp only [applyS]; have := of_decide_eq_true hd; simp [this])
        have t0 := A3.out.box.cell 0 _ rfl
        have t1 := A3.out.box.cell 1 _ rfl
        have t2 := A3.out.box.cell 2 _ rfl
        have t3 := A3.out.box.cell 3 _ rfl
        have t4 := A3.out.box.cell 4 _ rfl
        have t5 := A3.out.box.cell 5 _ rfl
        have t6 := A3.out.box.cell 6 _ rfl
        have t7 := A3.out.box.cell 7 _ rfl
        have t8 := A3.out.box.cell 8 _ rfl
        have s7 := A3.out.mem.box.cell 7 _ rfl
        have f7 := A3.out.mem.box.free 7 (by simp [siteC])
        have own6 : w6.drew.ownsRow 0 44 9 lv log.length (txsC log) := A3.out.mem.rlog
        have hsb := A3.out.mem.box.lt
        have nb : some b ≠ lv.ownBlock := fun e => A3.out.mem.nl e.symm
        have bx : RowL w6 b (siteC _ lv wv sv') := A3.out.mem.box
        clear FIN9
        go_wp2_with fail
        go_region_law (refine step_append_lies _ rfl (.tmp 56) (.tmp 58) 35 rfl 0 44 i0 (.agg #[.int .i64 0, .int .i64 0, .int .i64 0, .int .i64 0, .int .i64 0, .int .i64 0, .int .i64 0, .int .i64 0, .slice none 0 0]) 9 88 Tryz.underlying35 hi hz0 hz1 hz2 rfl (by decide) lv log.length (txsC log) (by simp [Act.eval]) (own6.alloc _) ⟨w6.heap.size, 0, none⟩ 1 1 (txC m) (by simp [Act.eval]) rfl (World.news_of_block (heap_alloc_new w6.drew (.cells #[.int .i64 m.t.site, .int .i64 m.t.seq, .int .i64 m.t.wall, .int .i64 m.t.count, .int .i64 m.t.d0, .int .i64 m.t.d1, .int .i64 m.t.d2, .int .i64 m.t.d3, .slice m.wa m.t.ws.length m.wc] 44))) (txC_one m) (by decide) (by simp only [maxLen]; omega) (by omega) (by simp) _ rfl ?_
                       intro g cap9 wE ownE grE egE ltE
                       have FIN := AP g cap9 wE grE ownE egE
                       have BE := ((bx.drew).boxed (.cells #[.int .i64 m.t.site, .int .i64 m.t.seq, .int .i64 m.t.wall, .int .i64 m.t.count, .int .i64 m.t.d0, .int .i64 m.t.d1, .int .i64 m.t.d2, .int .i64 m.t.d3, .slice m.wa m.t.ws.length m.wc] 44)).grown grE nb
                       have s0E := BE.cell 7 _ rfl
                       have s1E := BE.free 7 (by simp [siteC]))
        all_goals
          go_wp2_with fail
          go_end0
          exact ⟨rfl, FIN.out⟩

end Go.Proofs.YtpncedpfoakfkaaGreatDoor

namespace Go.Proofs.YtpncedpfoakfkaaGreatDoor
open Go.RowKit

def okT (t : TxP) : Bool := okTx t.site t.seq t.wall t.count t.d0 t.d1 t.d2 t.d3 t.ws
theorem okT_parts {t : TxP} (h : okT t = true) : (0 ≤ t.site ∧ t.site ≤ 3) ∧ (1 ≤ t.seq ∧ t.seq ≤ 1099511627776) ∧ 1 ≤ t.ws.length ∧ t.ws.length ≤ 5 := by
  simp only [okT, okTx, Bool.and_eq_true, inB_iff, okWs] at h
  refine ⟨h.1.1.1.1.1, h.1.1.1.1.2, ?_⟩
  have := h.2.2
  omega
/-- a number of a vector -/
def small (x : Int) : Prop := 0 ≤ x ∧ x ≤ 1099511627776
structure InvS (S : SiteS) : Prop where
  id0 : 0 ≤ S.id
  id3 : S.id ≤ 3
  nums : Nums S.waits
  wt : ∀ x ∈ S.waits, okT x = true ∧ x.site ≠ S.id
  a0 : small S.a0
  a1 : small S.a1
  a2 : small S.a2
  a3 : small S.a3
  own : depOf S.id S.a0 S.a1 S.a2 S.a3 ≤ S.log.length
  log : S.log.length ≤ 200
  lsite : ∀ x ∈ S.log, (0 ≤ x.site ∧ x.site ≤ 3) ∧ 1 ≤ x.ws.length ∧ x.ws.length ≤ 5
  len : S.l.length ≤ 5 * S.log.length
  apart : Apart S.l
  ok : ∀ h ∈ S.l, okVer h.v = true
theorem InvS.dep {S : SiteS} (h : InvS S) (s : Int) : small (depOf s S.a0 S.a1 S.a2 S.a3) := by
  unfold depOf
  split
  · exact h.a0
  · split
    · exact h.a1
    · split
      · exact h.a2
      · exact h.a3
theorem putL_ok {l : List Hd} {key : Int} {v : Ver} (h : ∀ x ∈ l, okVer x.v = true) : ∀ x ∈ putL l key v, okVer x.v = true := by
  unfold putL
  split
  · rename_i e
    intro x hx
    rcases List.mem_append.1 hx with h1 | h1
    · exact h x h1
    · obtain rfl := List.mem_singleton.1 h1
      unfold putE at e
      split at e
      · split at e
        · rename_i h2
          exact h2
        · cases e
      · cases e
  · exact h
theorem putsT_inv (t : TxP) : ∀ (ws : List Wr) (l : List Hd), Apart l → (∀ x ∈ l, okVer x.v = true) → Apart (putsT t ws l) ∧ ∀ x ∈ putsT t ws l, okVer x.v = true
  | [], _, h1, h2 => ⟨h1, h2⟩
  | x :: ws, l, h1, h2 => putsT_inv t ws (putL l x.key (verOf t x)) (apart_put h1) (putL_ok h2)
theorem setV_dep {S : SiteS} (t : TxP) (s : Int) (h0 : 0 ≤ s) (h3 : s ≤ 3) : depOf s (applyS S t).a0 (applyS S t).a1 (applyS S t).a2 (applyS S t).a3 = if s = t.site then t.seq else depOf s S.a0 S.a1 S.a2 S.a3 := by
  have hc : s = 0 ∨ s = 1 ∨ s = 2 ∨ s = 3 := by omega
  rcases hc with rfl | rfl | rfl | rfl <;> simp [applyS, depOf, setV0, setV1, setV2, setV3, eq_comm]
theorem InvS.applied {S : SiteS} (h : InvS S) {t : TxP} (hs : 0 ≤ t.site ∧ t.site ≤ 3) (hq : small t.seq) (hw : 1 ≤ t.ws.length ∧ t.ws.length ≤ 5) (ho : t.site = S.id → t.seq ≤ S.log.length + 1) (hl : S.log.length < 200) : InvS (applyS S t) := by
  have hp := putsT_inv t t.ws S.l h.apart h.ok
  refine ⟨h.id0, h.id3, h.nums, h.wt, ?_, ?_, ?_, ?_, ?_, ?_, ?_, ?_, hp.1, hp.2⟩
  · show small (setV0 _ _ _); unfold setV0; split; exact hq; exact h.a0
  · show small (setV1 _ _ _); unfold setV1; split; exact hq; exact h.a1
  · show small (setV2 _ _ _); unfold setV2; split; exact hq; exact h.a2
  · show small (setV3 _ _ _); unfold setV3; split; exact hq; exact h.a3
  · show depOf S.id _ _ _ _ ≤ _
    rw [setV_dep t S.id h.id0 h.id3]
    have := h.own
    split
    · rename_i e
      have := ho e.symm
      simp [applyS]
      omega
    · simp [applyS]
      omega
  · simp [applyS]; omega
  · intro x hx
    rcases List.mem_append.1 (show x ∈ S.log ++ [t] from hx) with h1 | h1
    · exact h.lsite x h1
    · obtain rfl := List.mem_singleton.1 h1
      exact ⟨hs, hw⟩
  · have := putsT_length t t.ws S.l
    have := h.len
    simp [applyS]
    omega
theorem InvS.drop {S : SiteS} (h : InvS S) (t : TxP) : InvS { S with waits := dropW S.waits t } :=
  ⟨h.id0, h.id3, h.nums.drop t, fun x hx => h.wt x (mem_dropW.1 hx).1, h.a0, h.a1, h.a2, h.a3, h.own, h.log, h.lsite, h.len, h.apart, h.ok⟩
theorem InvS.wait {S : SiteS} (h : InvS S) {t : TxP} (ht : okT t = true) (hid : t.site ≠ S.id) (hn : ∀ x ∈ S.waits, isNum x t = false) : InvS { S with waits := S.waits ++ [t] } :=
  ⟨h.id0, h.id3, h.nums.snoc hn, fun x hx => by
    rcases List.mem_append.1 hx with h1 | h1
    · exact h.wt x h1
    · obtain rfl := List.mem_singleton.1 h1
      exact ⟨ht, hid⟩, h.a0, h.a1, h.a2, h.a3, h.own, h.log, h.lsite, h.len, h.apart, h.ok⟩
theorem InvS.gone {S : SiteS} (h : InvS S) {x : TxP} (hx : x ∈ S.waits) (hl : S.log.length < 200) : InvS (goneS S x) := by
  obtain ⟨h1, h2⟩ := h.wt x hx
  obtain ⟨p1, p2, p3⟩ := okT_parts h1
  exact (h.drop x).applied p1 ⟨by omega, p2.2⟩ p3 (fun e => absurd e h2) hl
theorem Goes.inv {S S' : SiteS} (h : Goes S S') : InvS S → InvS S' := by
  induction h with
  | full _ => exact id
  | none _ => exact id
  | step h1 h2 _ ih => exact fun k => ih (k.gone (nextS_mem h2).1 h1)
theorem InvS.swept {S : SiteS} (h : InvS S) (x0 x1 x2 x3 : Int) : InvS { S with l := sweepL x0 x1 x2 x3 S.l } :=
  ⟨h.id0, h.id3, h.nums, h.wt, h.a0, h.a1, h.a2, h.a3, h.own, h.log, h.lsite, Nat.le_trans sweepL_length h.len, apart_sweep h.apart, fun x hx => h.ok x (List.mem_filter.1 hx).1⟩
theorem InvS.knows {S : SiteS} (h : InvS S) (f : Nat → Int) : InvS { S with oth := f } :=
  ⟨h.id0, h.id3, h.nums, h.wt, h.a0, h.a1, h.a2, h.a3, h.own, h.log, h.lsite, h.len, h.apart, h.ok⟩
/-- a site that has nothing -/
def newS (id : Int) : SiteS := ⟨id, 0, 0, 0, 0, 0, 0, [], [], [], fun _ => 0⟩
theorem depOf_zero (s : Int) : depOf s 0 0 0 0 = 0 := by
  unfold depOf
  split
  · rfl
  · split
    · rfl
    · split <;> rfl
theorem small_zero : small 0 := ⟨by omega, by omega⟩
theorem InvS.new {id : Int} (h0 : 0 ≤ id) (h3 : id ≤ 3) : InvS (newS id) :=
  ⟨h0, h3, by simp [newS, Nums], by simp [newS], small_zero, small_zero, small_zero, small_zero, by show depOf id 0 0 0 0 ≤ _; rw [depOf_zero]; simp, by simp [newS], by simp [newS], by simp [newS], fun x hx => by simp [newS] at hx, by simp [newS]⟩

end Go.Proofs.YtpncedpfoakfkaaGreatDoor

namespace Go.Proofs.YtpncedpfoakfkaaGreatDoor
open Go.RowKit

theorem txsC_at : ∀ (l : List TxM) (i : Nat) (m : TxM) (r : Nat) (u : Value), l[i]? = some m → (txC m)[r]? = some u → (txsC l)[i * 9 + r]? = some u
  | [], _, _, _, _, h, _ => by simp at h
  | x :: l, 0, m, r, u, h, hu => by
    obtain rfl : x = m := by simpa using h
    have hr : r < (txC x).length := (List.getElem?_eq_some_iff.1 hu).1
    show (txC x ++ txsC l)[0 * 9 + r]? = some u
    rw [Nat.zero_mul, Nat.zero_add, List.getElem?_append_left hr]
    exact hu
  | x :: l, i + 1, m, r, u, h, hu => by
    have ih := txsC_at l i m r u (by simpa using h) hu
    show (txC x ++ txsC l)[(i + 1) * 9 + r]? = some u
    have e : (i + 1) * 9 + r = (txC x).length + (i * 9 + r) := by simp [txC]; omega
    rw [e, List.getElem?_append_right (by omega), Nat.add_sub_cancel_left]
    exact ih
/-- a slice that holds transactions: none, or its cells lie in one block -/
structure TxsIn (w : World) (a : Option Addr) (cap : Nat) (l : List TxM) : Prop where
  len : l.length ≤ cap
  cap : cap ≤ 9223372036854775807
  held : l = [] ∨ ∃ b off, a = some ⟨b, off, none⟩ ∧ ∀ i m r u, l[i]? = some m → (txC m)[r]? = some u → w.cell? ⟨b, off + (i * 9 + r), none⟩ = some u
theorem TxsIn.later {w w' : World} {a : Option Addr} {cap : Nat} {l : List TxM} (hb : Below w.heap.size w w') (h : TxsIn w a cap l) : TxsIn w' a cap l :=
  ⟨h.len, h.cap, h.held.elim .inl fun ⟨b, off, e, c⟩ => .inr ⟨b, off, e, fun i m r u hi hu => cell_later hb (c i m r u hi hu)⟩⟩
theorem txsIn_own {w : World} {B : Nat} {T : TypeId} {v : Value} {l : List TxM} (h : w.ownsRow B T 9 v l.length (txsC l)) : ∃ a cap, v = .slice a l.length cap ∧ TxsIn w a cap l := by
  rcases h.2 with ⟨rfl, h0⟩ | ⟨g, cap, cur, rfl, hb, hg, hnc, hm, hs, ht⟩
  · exact ⟨none, 0, by rw [h0], ⟨by omega, by omega, .inl (List.eq_nil_of_length_eq_zero h0)⟩⟩
  · refine ⟨_, cap, rfl, ⟨hnc, by simp only [maxLen] at hm; omega, .inr ⟨g, 0, rfl, fun i m r u hi hu => ?_⟩⟩⟩
    have hc := h.cells (g := g) rfl _ _ (txsC_at l i m r u hi hu)
    rw [addr_add] at hc
    rw [Nat.zero_add]
    exact hc

/-- it lacks it -/
def missB (h0 h1 h2 h3 : Int) (m : TxM) : Bool := decide (depOf m.t.site h0 h1 h2 h3 < m.t.seq)

set_option maxHeartbeats 8000000 in
theorem refMissing_any {b : Nat} {lv wv sv : Value} {S : SiteS} {log waits : List TxM} (h0 h1 h2 h3 : Int) (w : World) (h : SMem w b lv wv sv S log waits) (hs : ∀ m ∈ log, 0 ≤ m.t.site ∧ m.t.site ≤ 3) (hl : log.length ≤ 1000) :
    Calls Tryz.prog 30 #[.pointer (some ⟨b, 0, none⟩), .agg #[.int .i64 h0, .int .i64 h1, .int .i64 h2, .int .i64 h3]] w fun e w' =>
      ∃ v, e = .returned v ∧ w'.ownsRow (w.heap.size + 1) 44 9 v (log.filter (missB h0 h1 h2 h3)).length (txsC (log.filter (missB h0 h1 h2 h3))) ∧ Below w.heap.size w w' := by
  obtain ⟨la, lc, rfl, hT⟩ := txsIn_own h.rlog
  have hc1 := hT.len
  have hc2 := hT.cap
  have RA := Row4.new w 32 h0 h1 h2 h3
  have hb := boxed (Below.refl _ w) (.cells #[.int .i64 h0, .int .i64 h1, .int .i64 h2, .int .i64 h3] 32)
  have s7 := cell_later hb (h.box.cell 7 _ rfl)
  have HH : Hid (SMem w b (.slice la log.length lc) wv sv S log waits) := h
  have HS : Hid (∀ m ∈ log, 0 ≤ m.t.site ∧ m.t.site ≤ 3) := hs
  clear h hs
  go_enter Tryz.func30, Tryz.ntmps30
  go_wp2_with fail
  obtain ⟨W, hWW⟩ : ∃ W, w.alloc (.cells #[.int .i64 h0, .int .i64 h1, .int .i64 h2, .int .i64 h3] 32) = W := ⟨_, rfl⟩
  rw [hWW] at RA hb s7 ⊢
  clear hWW s7
  go_loopw [5, 13] (fun sl iv wr => ∃ (k : Nat) (z : Int) (kept : List TxM) (ov : Value), ov = sl ∧ k ≤ log.length ∧ z = k ∧ iv = .int .i64 z ∧ (log.take k).filter (missB h0 h1 h2 h3) = kept ∧ wr.ownsRow (w.heap.size + 1) 44 9 ov kept.length (txsC kept) ∧ Row4 wr w.heap.size h0 h1 h2 h3 ∧ Below w.heap.size w wr) (fun _ i _ => log.length - (intOf i).toNat)
  case atStart => exact ⟨0, 0, [], _, rfl, by omega, rfl, rfl, by simp, World.ownsRow_nil _ _ _ _, RA, hb⟩
  case round =>
    clear RA hb
    obtain ⟨k, z, kept, ov, hsl, hk, hz, rfl, hkp, ownk, RA, hb⟩ := hrel
    subst hsl
    have HZ : Hid (z = k) := hz
    by_cases hlt : k < log.length
    · have g1 : z < (log.length : Int) := by omega
      have g2 : z.toNat = k := by omega
      have g3 : 0 ≤ z := by omega
      have hk6 : kept.length ≤ 1000 := by
        rw [← hkp]
        have a1 := List.length_filter_le (missB h0 h1 h2 h3) (log.take k)
        have a2 := List.length_take_le k log
        omega
      obtain ⟨wb, off, hwa, hcc⟩ : ∃ wb off, la = some ⟨wb, off, none⟩ ∧ ∀ i m r u, log[i]? = some m → (txC m)[r]? = some u → w.cell? ⟨wb, off + (i * 9 + r), none⟩ = some u := by
        rcases hT.held with e | e
        · rw [e] at hlt; simp at hlt
        · exact e
      obtain ⟨⟨⟨site, seq, wall, count, d0, d1, d2, d3, ws⟩, ta, tc⟩, hx⟩ : ∃ m, log[k]? = some m := ⟨log[k], List.getElem?_eq_getElem hlt⟩
      obtain ⟨hs0, hs1⟩ := HS.out _ (List.mem_of_getElem? hx)
      simp only at hs0 hs1
      have HX : Hid (log[k]? = some ⟨⟨site, seq, wall, count, d0, d1, d2, d3, ws⟩, ta, tc⟩) := hx
      have HKP : Hid ((log.take k).filter (missB h0 h1 h2 h3) = kept) := hkp
      have cc := fun r u (hu : (txC ⟨⟨site, seq, wall, count, d0, d1, d2, d3, ws⟩, ta, tc⟩)[r]? = some u) => (show wr.cell? ⟨wb, off + k * 9 + r, none⟩ = some u by rw [Nat.add_assoc]; exact cell_later hb (hcc k _ r u hx hu))
      have x0 := cc 0 _ rfl
      have x1 := cc 1 _ rfl
      have x2 := cc 2 _ rfl
      have x3 := cc 3 _ rfl
      have x4 := cc 4 _ rfl
      have x5 := cc 5 _ rfl
      have x6 := cc 6 _ rfl
      have x7 := cc 7 _ rfl
      have x8 := cc 8 _ rfl
      rw [Nat.add_zero] at x0
      rw [hwa]
      clear cc hcc hx hkp hz
      replace RA := RA.boxed (.cells #[.int .i64 site, .int .i64 seq, .int .i64 wall, .int .i64 count, .int .i64 d0, .int .i64 d1, .int .i64 d2, .int .i64 d3, .slice ta ws.length tc] 44)
      replace ownk := ownk.alloc (.cells #[.int .i64 site, .int .i64 seq, .int .i64 wall, .int .i64 count, .int .i64 d0, .int .i64 d1, .int .i64 d2, .int .i64 d3, .slice ta ws.length tc] 44)
      replace hb := boxed hb (.cells #[.int .i64 site, .int .i64 seq, .int .i64 wall, .int .i64 count, .int .i64 d0, .int .i64 d1, .int .i64 d2, .int .i64 d3, .slice ta ws.length tc] 44)
      have RY := RowL.new (w := wr) (T := 44) [.int .i64 site, .int .i64 seq, .int .i64 wall, .int .i64 count, .int .i64 d0, .int .i64 d1, .int .i64 d2, .int .i64 d3, .slice ta ws.length tc] rfl
      have y0 := Later.cell (RY.cell 0 _ rfl)
      have y1 := Later.cell (RY.cell 1 _ rfl)
      have va := Later.cell (vec_at RA hs0 hs1)
      have KE : Hid (missB h0 h1 h2 h3 ⟨⟨site, seq, wall, count, d0, d1, d2, d3, ws⟩, ta, tc⟩ = decide (depOf site h0 h1 h2 h3 < seq)) := rfl
      go_wp2_with fail
      clear x0 x1 x2 x3 x4 x5 x6 x7 x8
      refine wp_region_later (by kernel_rfl) (by kernel_rfl) ?_
      repeat (go_big_quiet_step (first | rfl | fail))
      refine wpQuiet_nil ?_
      rintro w5 ⟨⟨_, hb5⟩, rfl⟩
      replace RA := RA.later hb5
      replace RY := RY.later hb5
      replace ownk := own_keptN ownk (fun j hj => hb5.block j (ownk.lt j hj).2)
      replace hb := behind hb hb5
      clear hb5 y0 y1 va
      cases hd : decide (depOf site h0 h1 h2 h3 < seq)
      · have KF : Hid ((log.take (k + 1)).filter (missB h0 h1 h2 h3) = kept) := by
          have e : missB h0 h1 h2 h3 ⟨⟨site, seq, wall, count, d0, d1, d2, d3, ws⟩, ta, tc⟩ = false := by rw [KE.out]; exact hd
          show (log.take (k + 1)).filter (missB h0 h1 h2 h3) = kept
          rw [List.take_add_one, HX.out, List.filter_append, HKP.out]
          simp [e]
        clear hd
        go_wp2_with fail
        go_roundw
        case rel => exact ⟨k + 1, z + 1, kept, _, rfl, by omega, by have := HZ.out; omega, by go_num, KF.out, ownk, RA, hb⟩
        case measure => simp [intOf]; omega
      · have KF : Hid ((log.take (k + 1)).filter (missB h0 h1 h2 h3) = kept ++ [⟨⟨site, seq, wall, count, d0, d1, d2, d3, ws⟩, ta, tc⟩]) := by
          have e : missB h0 h1 h2 h3 ⟨⟨site, seq, wall, count, d0, d1, d2, d3, ws⟩, ta, tc⟩ = true := by rw [KE.out]; exact hd
          show (log.take (k + 1)).filter (missB h0 h1 h2 h3) = _
          rw [List.take_add_one, HX.out, List.filter_append, HKP.out]
          simp [e]
        have y0 := RY.cell 0 _ rfl
        have y1 := RY.cell 1 _ rfl
        have y2 := RY.cell 2 _ rfl
        have y3 := RY.cell 3 _ rfl
        have y4 := RY.cell 4 _ rfl
        have y5 := RY.cell 5 _ rfl
        have y6 := RY.cell 6 _ rfl
        have y7 := RY.cell 7 _ rfl
        have y8 := RY.cell 8 _ rfl
        obtain ⟨i0, hi, hz0, hz1, hz2⟩ := info_parts txInfo
        have hsz5 : w.heap.size + 1 ≤ w5.heap.size := by have := RA.lt; omega
        clear hd
        go_wp2_with (at_builtin; refine wpList_append_lies _ rfl (.tmp 24) (.tmp 26) 35 rfl (w.heap.size + 1) 44 i0 (.agg #[.int .i64 0, .int .i64 0, .int .i64 0, .int .i64 0, .int .i64 0, .int .i64 0, .int .i64 0, .int .i64 0, .slice none 0 0]) 9 88 Tryz.underlying35 hi hz0 hz1 hz2 rfl (by decide) ov kept.length (txsC kept) rfl (ownk.alloc _) ⟨w5.heap.size, 0, none⟩ 1 1 (txC ⟨⟨site, seq, wall, count, d0, d1, d2, d3, ws⟩, ta, tc⟩) rfl rfl (World.news_of_block (heap_alloc_new w5 (.cells #[.int .i64 site, .int .i64 seq, .int .i64 wall, .int .i64 count, .int .i64 d0, .int .i64 d1, .int .i64 d2, .int .i64 d3, .slice ta ws.length tc] 44))) (txC_one _) (by decide) (by simp only [maxLen]; omega) (by omega) (by simp; omega) _ rfl ?_; intro g cap9 wE ownE grE egE ltE)
        have rowsg : ∀ j, ov.ownBlock = some j → w.heap.size + 1 ≤ j := fun j hj => (ownk.lt j hj).1
        have RAE := (RA.boxed (.cells #[.int .i64 site, .int .i64 seq, .int .i64 wall, .int .i64 count, .int .i64 d0, .int .i64 d1, .int .i64 d2, .int .i64 d3, .slice ta ws.length tc] 44)).grown4 grE (fun e => by have := rowsg _ e.symm; omega)
        have hbE := (boxed hb (.cells #[.int .i64 site, .int .i64 seq, .int .i64 wall, .int .i64 count, .int .i64 d0, .int .i64 d1, .int .i64 d2, .int .i64 d3, .slice ta ws.length tc] 44)).grown grE (by have := hb.size; simp; omega) (fun j hj => by have := rowsg j hj; omega)
        go_roundw
        case rel => exact ⟨k + 1, z + 1, kept ++ [⟨⟨site, seq, wall, count, d0, d1, d2, d3, ws⟩, ta, tc⟩], _, rfl, by omega, by have := HZ.out; omega, by go_num, KF.out, by rw [txsC_snoc, List.length_append]; exact ownE, RAE, hbE⟩
        case measure => simp [intOf]; omega
    · have g1 : ¬ z < (log.length : Int) := by omega
      obtain rfl : k = log.length := by omega
      rw [List.take_length] at hkp
      clear hz
      go_wp2_with fail
      go_ret
      exact ⟨ov, rfl, by first | exact ownk | (rw [hkp]; exact ownk), hb⟩

end Go.Proofs.YtpncedpfoakfkaaGreatDoor

namespace Go.Proofs.YtpncedpfoakfkaaGreatDoor
open Go.RowKit

/-- the next stamp, and the error -/
def nextP (lw lc now : Int) : Int × Int × Int :=
  if (timeB lw && timeB lc) = false then (0, 0, 2) else if timeB now = false then (0, 0, 2) else if lw < now then (now, 0, 0) else if 1099511627776 < lc + 1 then (0, 0, 12) else (lw, lc + 1, 0)
theorem refNext_any (lw lc now : Int) (w : World) :
    Calls Tryz.prog 50 #[.agg #[.int .i64 lw, .int .i64 lc], .int .i64 now] w fun e w' => e = .returned (.tuple #[.agg #[.int .i64 (nextP lw lc now).1, .int .i64 (nextP lw lc now).2.1], .int .i64 (nextP lw lc now).2.2]) ∧ Below w.heap.size w w' := by
  unfold nextP
  cases h : (timeB lw && timeB lc)
  · rw [if_pos rfl]
    exact refNext_range1 lw lc now w h
  · rw [if_neg (by decide)]
    have hb : 0 ≤ lc ∧ lc ≤ 1099511627776 := by
      have h' := h
      simp [timeB] at h'
      omega
    cases h2 : timeB now
    · rw [if_pos rfl]
      exact refNext_range2 lw lc now w h h2
    · rw [if_neg (by decide)]
      by_cases h3 : lw < now
      · rw [if_pos h3]
        exact refNext_wall lw lc now w h h2 h3
      · rw [if_neg h3]
        by_cases h4 : 1099511627776 < lc + 1
        · rw [if_pos h4]
          exact refNext_full lw lc now w h h2 h3 hb.1 hb.2 h4
        · rw [if_neg h4]
          exact refNext_count lw lc now w h h2 h3 hb.1 hb.2 h4
theorem refCovers_is {a0 a1 a2 a3 b0 b1 b2 b3 : Int} {v : Bool} (h : covB a0 a1 a2 a3 b0 b1 b2 b3 = v) (w : World) :
    Calls Tryz.prog 49 #[.agg #[.int .i64 a0, .int .i64 a1, .int .i64 a2, .int .i64 a3], .agg #[.int .i64 b0, .int .i64 b1, .int .i64 b2, .int .i64 b3]] w fun e w' => e = .returned (.bool v) ∧ Below w.heap.size w w' := by
  subst h
  exact refCovers_any a0 a1 a2 a3 b0 b1 b2 b3 w

/-- what a commit answers: the error -/
def commitE (S : SiteS) (n : Nat) (now d0 d1 d2 d3 : Int) (ws : List Wr) : Int :=
  if okWs ws = false then 1 else if timesB d0 d1 d2 d3 = false then 10 else if covB S.a0 S.a1 S.a2 S.a3 d0 d1 d2 d3 = false then 10 else if 200 ≤ n then 12 else (nextP S.lw S.lc now).2.2
/-- and the transaction -/
def commitT (S : SiteS) (now d0 d1 d2 d3 : Int) (ws : List Wr) : TxP :=
  ⟨S.id, depOf S.id S.a0 S.a1 S.a2 S.a3 + 1, (nextP S.lw S.lc now).1, (nextP S.lw S.lc now).2.1, setV0 S.id (depOf S.id S.a0 S.a1 S.a2 S.a3) d0, setV1 S.id (depOf S.id S.a0 S.a1 S.a2 S.a3) d1, setV2 S.id (depOf S.id S.a0 S.a1 S.a2 S.a3) d2, setV3 S.id (depOf S.id S.a0 S.a1 S.a2 S.a3) d3, ws⟩

def txZ : List Value := [.int .i64 0, .int .i64 0, .int .i64 0, .int .i64 0, .int .i64 0, .int .i64 0, .int .i64 0, .int .i64 0, .slice none 0 0]
abbrev setTx (w : World) (b : Nat) (x0 x1 x2 x3 x4 x5 x6 x7 : Int) (v : Value) : World :=
  ((((((((w.setCell ⟨b, 0, none⟩ (.int .i64 x0)).setCell ⟨b, 1, none⟩ (.int .i64 x1)).setCell ⟨b, 2, none⟩ (.int .i64 x2)).setCell ⟨b, 3, none⟩ (.int .i64 x3)).setCell ⟨b, 4, none⟩ (.int .i64 x4)).setCell ⟨b, 5, none⟩ (.int .i64 x5)).setCell ⟨b, 6, none⟩ (.int .i64 x6)).setCell ⟨b, 7, none⟩ (.int .i64 x7)).setCell ⟨b, 8, none⟩ v
theorem tx_far {w W : World} {b : Nat} (h : Below w.heap.size w W) (hB : w.heap.size ≤ b) (x0 x1 x2 x3 x4 x5 x6 x7 : Int) (v : Value) : Below w.heap.size w (setTx W b x0 x1 x2 x3 x4 x5 x6 x7 v) :=
  ((((((((h.setCell hB _).setCell hB _).setCell hB _).setCell hB _).setCell hB _).setCell hB _).setCell hB _).setCell hB _).setCell hB _
theorem tx_set {W : World} {b : Nat} {xs : List Value} (h : RowL W b xs) (hx : xs.length = 9) (x0 x1 x2 x3 x4 x5 x6 x7 : Int) (v : Value) : RowL (setTx W b x0 x1 x2 x3 x4 x5 x6 x7 v) b [.int .i64 x0, .int .i64 x1, .int .i64 x2, .int .i64 x3, .int .i64 x4, .int .i64 x5, .int .i64 x6, .int .i64 x7, v] := by
  match xs, hx with
  | [_, _, _, _, _, _, _, _, _], _ => exact ((((((((h.set 0 _ (by simp)).set 1 _ (by simp)).set 2 _ (by simp)).set 3 _ (by simp)).set 4 _ (by simp)).set 5 _ (by simp)).set 6 _ (by simp)).set 7 _ (by simp)).set 8 _ (by simp)
theorem commit_results {tmps : Array Value} {w : World} {b : Nat} {x0 x1 x2 x3 x4 x5 x6 x7 ev : Int} {a : Option Addr} {n c : Nat} (h : RowL w b [.int .i64 x0, .int .i64 x1, .int .i64 x2, .int .i64 x3, .int .i64 x4, .int .i64 x5, .int .i64 x6, .int .i64 x7, .slice a n c]) (h2 : tmps[8]? = some (.pointer (some ⟨b, 0, none⟩))) (h3 : tmps[9]? = some (.int .i64 ev)) :
    (results Tryz.f8 tmps).run Tryz.prog w = .ok (.tuple #[.agg #[.int .i64 x0, .int .i64 x1, .int .i64 x2, .int .i64 x3, .int .i64 x4, .int .i64 x5, .int .i64 x6, .int .i64 x7, .slice a n c], .int .i64 ev]) w := by
  have z0 := h.cell 0 _ rfl
  have z1 := h.cell 1 _ rfl
  have z2 := h.cell 2 _ rfl
  have z3 := h.cell 3 _ rfl
  have z4 := h.cell 4 _ rfl
  have z5 := h.cell 5 _ rfl
  have z6 := h.cell 6 _ rfl
  have z7 := h.cell 7 _ rfl
  have z8 := h.cell 8 _ rfl
  simp [results, Tryz.results8, go_sem, h2, h3, z0, z1, z2, z3, z4, z5, z6, z7, z8]

theorem vec_free {w : World} {b : Nat} {a0 a1 a2 a3 s : Int} (h : Row4 w b a0 a1 a2 a3) (h0 : 0 ≤ s) (h3 : s ≤ 3) : w.frozen? ⟨b, s.toNat, none⟩ = false := by
  have hc : s = 0 ∨ s = 1 ∨ s = 2 ∨ s = 3 := by omega
  rcases hc with rfl | rfl | rfl | rfl
  · exact h.f0
  · exact h.f1
  · exact h.f2
  · exact h.f3
theorem vec_set {w : World} {b : Nat} {a0 a1 a2 a3 s : Int} (h : Row4 w b a0 a1 a2 a3) (h0 : 0 ≤ s) (h3 : s ≤ 3) (x : Int) : Row4 (w.setCell ⟨b, s.toNat, none⟩ (.int .i64 x)) b (setV0 s x a0) (setV1 s x a1) (setV2 s x a2) (setV3 s x a3) := by
  have hc : s = 0 ∨ s = 1 ∨ s = 2 ∨ s = 3 := by omega
  rcases hc with rfl | rfl | rfl | rfl
  · exact h.set0 x
  · exact h.set1 x
  · exact h.set2 x
  · exact h.set3 x
theorem site_at {w : World} {b : Nat} {S : SiteS} {lv wv sv : Value} {s : Int} (h : RowL w b (siteC S lv wv sv)) (h0 : 0 ≤ s) (h3 : s ≤ 3) : w.cell? ⟨b, 1 + s.toNat, none⟩ = some (.int .i64 (depOf s S.a0 S.a1 S.a2 S.a3)) := by
  have hc : s = 0 ∨ s = 1 ∨ s = 2 ∨ s = 3 := by omega
  rcases hc with rfl | rfl | rfl | rfl
  · exact h.cell 1 _ rfl
  · exact h.cell 2 _ rfl
  · exact h.cell 3 _ rfl
  · exact h.cell 4 _ rfl

/-- what is left behind a commit -/
def CommitOut (w : World) (b : Nat) (lv wv sv : Value) (S : SiteS) (log waits : List TxM) (now d0 d1 d2 d3 : Int) (ws : List Wr) (e : Ending) (w' : World) : Prop :=
  (commitE S log.length now d0 d1 d2 d3 ws ≠ 0 ∧ e = .returned (.tuple #[.agg #[.int .i64 0, .int .i64 0, .int .i64 0, .int .i64 0, .int .i64 0, .int .i64 0, .int .i64 0, .int .i64 0, .slice none 0 0], .int .i64 (commitE S log.length now d0 d1 d2 d3 ws)]) ∧ Below w.heap.size w w') ∨
  (commitE S log.length now d0 d1 d2 d3 ws = 0 ∧ ∃ (wa : Option Addr) (wc : Nat) (lv' sv' : Value), e = .returned (.tuple #[.agg (txC ⟨commitT S now d0 d1 d2 d3 ws, wa, wc⟩).toArray, .int .i64 0]) ∧
    SMem w' b lv' wv sv' (applyS S (commitT S now d0 d1 d2 d3 ws)) (log ++ [⟨commitT S now d0 d1 d2 d3 ws, wa, wc⟩]) waits ∧ (∀ k, footS b lv' wv sv' k → footS b lv wv sv k ∨ w.heap.size ≤ k) ∧ Touch (footS b lv wv sv) w w')

set_option maxRecDepth 100000 in
set_option maxHeartbeats 8000000 in
theorem refCommit_no {b : Nat} {lv wv sv : Value} {S : SiteS} {log waits : List TxM} (now d0 d1 d2 d3 : Int) {a : Option Addr} {cap : Nat} {ws : List Wr} (w : World) (h : SMem w b lv wv sv S log waits) (hW : WrIn w a cap ws) (hne0 : commitE S log.length now d0 d1 d2 d3 ws ≠ 0) :
    Calls Tryz.prog 8 #[.pointer (some ⟨b, 0, none⟩), .int .i64 now, .agg #[.int .i64 d0, .int .i64 d1, .int .i64 d2, .int .i64 d3], .slice a ws.length cap] w (CommitOut w b lv wv sv S log waits now d0 d1 d2 d3 ws) := by
  obtain ⟨la, lc, rfl, hT⟩ := txsIn_own h.rlog
  have hc1 := hT.len
  have hc2 := hT.cap
  have RD := (Row4.new w 32 d0 d1 d2 d3).boxed (.cells #[.int .i64 0, .int .i64 0, .int .i64 0, .int .i64 0, .int .i64 0, .int .i64 0, .int .i64 0, .int .i64 0, .slice none 0 0] 44)
  have RT : RowL ((w.alloc (.cells #[.int .i64 d0, .int .i64 d1, .int .i64 d2, .int .i64 d3] 32)).alloc (.cells #[.int .i64 0, .int .i64 0, .int .i64 0, .int .i64 0, .int .i64 0, .int .i64 0, .int .i64 0, .int .i64 0, .slice none 0 0] 44)) (w.heap.size + 1) txZ := RowL.new (w := w.alloc (.cells #[.int .i64 d0, .int .i64 d1, .int .i64 d2, .int .i64 d3] 32)) (T := 44) (n := w.heap.size + 1) [.int .i64 0, .int .i64 0, .int .i64 0, .int .i64 0, .int .i64 0, .int .i64 0, .int .i64 0, .int .i64 0, .slice none 0 0] (by simp)
  have hb := boxed (boxed (Below.refl _ w) (.cells #[.int .i64 d0, .int .i64 d1, .int .i64 d2, .int .i64 d3] 32)) (.cells #[.int .i64 0, .int .i64 0, .int .i64 0, .int .i64 0, .int .i64 0, .int .i64 0, .int .i64 0, .int .i64 0, .slice none 0 0] 44)
  have WI := hW.later hb
  have HH : Hid (SMem w b (.slice la log.length lc) wv sv S log waits) := h
  have HW : Hid (WrIn w a cap ws) := hW
  have hB : w.heap.size ≤ w.heap.size + 1 := by omega
  have HNE : Hid (commitE S log.length now d0 d1 d2 d3 ws ≠ 0) := hne0
  clear h hW hne0
  go_enter Tryz.func8, Tryz.ntmps8
  go_wp2_with fail
  refine (refRightW_any WI).mono ?_
  rintro e w1 ⟨rfl, hb1⟩
  replace RD := RD.later hb1
  replace RT := RT.later hb1
  replace hb := behind hb hb1
  clear hb1 WI
  have OUT : ∀ (w9 : World) (ev : Int), commitE S log.length now d0 d1 d2 d3 ws = ev → ev ≠ 0 → Below w.heap.size w w9 → Hid (CommitOut w b (.slice la log.length lc) wv sv S log waits now d0 d1 d2 d3 ws (.returned (.tuple #[.agg #[.int .i64 0, .int .i64 0, .int .i64 0, .int .i64 0, .int .i64 0, .int .i64 0, .int .i64 0, .int .i64 0, .slice none 0 0], .int .i64 ev])) w9) := fun w9 ev h1 h2 h3 => .inl ⟨by rw [h1]; exact h2, by rw [h1], h3⟩
  cases hok : okWs ws
  · have E : Hid (commitE S log.length now d0 d1 d2 d3 ws = 1) := by show commitE S log.length now d0 d1 d2 d3 ws = 1; unfold commitE; rw [if_pos hok]
    have r0 := RT.cell 0 _ rfl
    have p0 := RT.free 0 (by simp [txZ])
    have r1 := RT.cell 1 _ rfl
    have p1 := RT.free 1 (by simp [txZ])
    have r2 := RT.cell 2 _ rfl
    have p2 := RT.free 2 (by simp [txZ])
    have r3 := RT.cell 3 _ rfl
    have p3 := RT.free 3 (by simp [txZ])
    have r4 := RT.cell 4 _ rfl
    have p4 := RT.free 4 (by simp [txZ])
    have r5 := RT.cell 5 _ rfl
    have p5 := RT.free 5 (by simp [txZ])
    have r6 := RT.cell 6 _ rfl
    have p6 := RT.free 6 (by simp [txZ])
    have r7 := RT.cell 7 _ rfl
    have p7 := RT.free 7 (by simp [txZ])
    have r8 := RT.cell 8 _ rfl
    have p8 := RT.free 8 (by simp [txZ])
    have RZ := tx_set RT rfl 0 0 0 0 0 0 0 0 (.slice none 0 0)
    have hbZ := tx_far hb hB 0 0 0 0 0 0 0 0 (.slice none 0 0)
    have FIN := OUT _ 1 E.out (by decide) hbZ
    clear OUT hok
    go_wp2_with fail
    exact bodyPost_ret (commit_results RZ rfl rfl) rfl FIN.out
  · have HOK : Hid (okWs ws = true) := hok
    clear hok
    have M1 : Hid (SMem w1 b (.slice la log.length lc) wv sv S log waits) := HH.out.later hb
    have c0 := Later.cell RD.c0
    have c1 := Later.cell RD.c1
    have c2 := Later.cell RD.c2
    have c3 := Later.cell RD.c3
    have k1 := Later.cell (M1.out.box.cell 1 _ rfl)
    have k2 := Later.cell (M1.out.box.cell 2 _ rfl)
    have k3 := Later.cell (M1.out.box.cell 3 _ rfl)
    have k4 := Later.cell (M1.out.box.cell 4 _ rfl)
    cases hv : timesB d0 d1 d2 d3
    · have HV : Hid (timesB d0 d1 d2 d3 = false) := hv
      have E : Hid (commitE S log.length now d0 d1 d2 d3 ws = 10) := by show commitE S log.length now d0 d1 d2 d3 ws = 10; unfold commitE; rw [if_neg (by rw [HOK.out]; decide), if_pos hv]
      clear hv
      go_wp2_with fail
      refine wp_region_later (by kernel_rfl) (by kernel_rfl) ?_
      repeat (go_big_quiet_step (first | rfl | (go_at_call 48; with_reducible exact calls_later (refRightVec_is HV.out _))))
      refine wpQuiet_nil ?_
      rintro w2 ⟨⟨_, hb2⟩, rfl⟩
      replace RT := RT.later hb2
      replace hb := behind hb hb2
      clear hb2 c0 c1 c2 c3 k1 k2 k3 k4 M1
      have r0 := RT.cell 0 _ rfl
      have p0 := RT.free 0 (by simp [txZ])
      have r1 := RT.cell 1 _ rfl
      have p1 := RT.free 1 (by simp [txZ])
      have r2 := RT.cell 2 _ rfl
      have p2 := RT.free 2 (by simp [txZ])
      have r3 := RT.cell 3 _ rfl
      have p3 := RT.free 3 (by simp [txZ])
      have r4 := RT.cell 4 _ rfl
      have p4 := RT.free 4 (by simp [txZ])
      have r5 := RT.cell 5 _ rfl
      have p5 := RT.free 5 (by simp [txZ])
      have r6 := RT.cell 6 _ rfl
      have p6 := RT.free 6 (by simp [txZ])
      have r7 := RT.cell 7 _ rfl
      have p7 := RT.free 7 (by simp [txZ])
      have r8 := RT.cell 8 _ rfl
      have p8 := RT.free 8 (by simp [txZ])
      have RZ := tx_set RT rfl 0 0 0 0 0 0 0 0 (.slice none 0 0)
      have hbZ := tx_far hb hB 0 0 0 0 0 0 0 0 (.slice none 0 0)
      have FIN := OUT _ 10 E.out (by decide) hbZ
      clear OUT
      go_wp2_with fail
      exact bodyPost_ret (commit_results RZ rfl rfl) rfl FIN.out
    · have HV : Hid (timesB d0 d1 d2 d3 = true) := hv
      clear hv
      cases hc : covB S.a0 S.a1 S.a2 S.a3 d0 d1 d2 d3
      · have HC : Hid (covB S.a0 S.a1 S.a2 S.a3 d0 d1 d2 d3 = false) := hc
        have E : Hid (commitE S log.length now d0 d1 d2 d3 ws = 10) := by show commitE S log.length now d0 d1 d2 d3 ws = 10; unfold commitE; rw [if_neg (by rw [HOK.out]; decide), if_neg (by rw [HV.out]; decide), if_pos hc]
        clear hc
        go_wp2_with fail
        refine wp_region_later (by kernel_rfl) (by kernel_rfl) ?_
        repeat (go_big_quiet_step (first | rfl | (go_at_call 48; with_reducible exact calls_later (refRightVec_is HV.out _)) | (go_at_call 49; with_reducible exact calls_later (refCovers_is HC.out _))))
        refine wpQuiet_nil ?_
        rintro w2 ⟨⟨_, hb2⟩, rfl⟩
        replace RT := RT.later hb2
        replace hb := behind hb hb2
        clear hb2 c0 c1 c2 c3 k1 k2 k3 k4 M1
        have r0 := RT.cell 0 _ rfl
        have p0 := RT.free 0 (by simp [txZ])
        have r1 := RT.cell 1 _ rfl
        have p1 := RT.free 1 (by simp [txZ])
        have r2 := RT.cell 2 _ rfl
        have p2 := RT.free 2 (by simp [txZ])
        have r3 := RT.cell 3 _ rfl
        have p3 := RT.free 3 (by simp [txZ])
        have r4 := RT.cell 4 _ rfl
        have p4 := RT.free 4 (by simp [txZ])
        have r5 := RT.cell 5 _ rfl
        have p5 := RT.free 5 (by simp [txZ])
        have r6 := RT.cell 6 _ rfl
        have p6 := RT.free 6 (by simp [txZ])
        have r7 := RT.cell 7 _ rfl
        have p7 := RT.free 7 (by simp [txZ])
        have r8 := RT.cell 8 _ rfl
        have p8 := RT.free 8 (by simp [txZ])
        have RZ := tx_set RT rfl 0 0 0 0 0 0 0 0 (.slice none 0 0)
        have hbZ := tx_far hb hB 0 0 0 0 0 0 0 0 (.slice none 0 0)
        have FIN := OUT _ 10 E.out (by decide) hbZ
        clear OUT
        go_wp2_with fail
        exact bodyPost_ret (commit_results RZ rfl rfl) rfl FIN.out
      · have HC : Hid (covB S.a0 S.a1 S.a2 S.a3 d0 d1 d2 d3 = true) := hc
        clear hc
        go_wp2_with fail
        refine wp_region_later (by kernel_rfl) (by kernel_rfl) ?_
        repeat (go_big_quiet_step (first | rfl | (go_at_call 48; with_reducible exact calls_later (refRightVec_is HV.out _)) | (go_at_call 49; with_reducible exact calls_later (refCovers_is HC.out _))))
        refine wpQuiet_nil ?_
        rintro w2 ⟨⟨_, hb2⟩, rfl⟩
        replace RT := RT.later hb2
        replace RD := RD.later hb2
        replace hb := behind hb hb2
        have M2 : Hid (SMem w2 b (.slice la log.length lc) wv sv S log waits) := M1.out.later hb2
        clear hb2 c0 c1 c2 c3 k1 k2 k3 k4 M1
        have s7 := M2.out.box.cell 7 _ rfl
        by_cases hn : 200 ≤ log.length
        · have E : Hid (commitE S log.length now d0 d1 d2 d3 ws = 12) := by show commitE S log.length now d0 d1 d2 d3 ws = 12; unfold commitE; rw [if_neg (by rw [HOK.out]; decide), if_neg (by rw [HV.out]; decide), if_neg (by rw [HC.out]; decide), if_pos hn]
          have h200 : (200 : Int) ≤ (log.length : Int) := by omega
          have r0 := RT.cell 0 _ rfl
          have p0 := RT.free 0 (by simp [txZ])
          have r1 := RT.cell 1 _ rfl
          have p1 := RT.free 1 (by simp [txZ])
          have r2 := RT.cell 2 _ rfl
          have p2 := RT.free 2 (by simp [txZ])
          have r3 := RT.cell 3 _ rfl
          have p3 := RT.free 3 (by simp [txZ])
          have r4 := RT.cell 4 _ rfl
          have p4 := RT.free 4 (by simp [txZ])
          have r5 := RT.cell 5 _ rfl
          have p5 := RT.free 5 (by simp [txZ])
          have r6 := RT.cell 6 _ rfl
          have p6 := RT.free 6 (by simp [txZ])
          have r7 := RT.cell 7 _ rfl
          have p7 := RT.free 7 (by simp [txZ])
          have r8 := RT.cell 8 _ rfl
          have p8 := RT.free 8 (by simp [txZ])
          have RZ := tx_set RT rfl 0 0 0 0 0 0 0 0 (.slice none 0 0)
          have hbZ := tx_far hb hB 0 0 0 0 0 0 0 0 (.slice none 0 0)
          have FIN := OUT _ 12 E.out (by decide) hbZ
          clear OUT
          go_wp2_with fail
          exact bodyPost_ret (commit_results RZ rfl rfl) rfl FIN.out
        · have HN : Hid (commitE S log.length now d0 d1 d2 d3 ws = (nextP S.lw S.lc now).2.2) := by show commitE S log.length now d0 d1 d2 d3 ws = _; unfold commitE; rw [if_neg (by rw [HOK.out]; decide), if_neg (by rw [HV.out]; decide), if_neg (by rw [HC.out]; decide), if_neg hn]
          have h200 : ¬ (200 : Int) ≤ (log.length : Int) := by omega
          have k5 := M2.out.box.cell 5 _ rfl
          have k6 := M2.out.box.cell 6 _ rfl
          go_wp2_with fail
          refine (refNext_any S.lw S.lc now _).mono ?_
          rintro e w3 ⟨rfl, hb3⟩
          replace RT := RT.later hb3
          replace RD := RD.later hb3
          replace hb := behind hb hb3
          have M3 : Hid (SMem w3 b (.slice la log.length lc) wv sv S log waits) := M2.out.later hb3
          clear hb3 M2 s7 k5 k6
          obtain ⟨⟨nw, nc, ne⟩, hnx⟩ : ∃ x, nextP S.lw S.lc now = x := ⟨_, rfl⟩
          have HNX : Hid (nextP S.lw S.lc now = (nw, nc, ne)) := hnx
          rw [hnx]
          rw [hnx] at HN
          clear hnx
          replace RT := RT.boxed (.cells #[.int .i64 nw, .int .i64 nc] 34)
          replace RD := RD.boxed (.cells #[.int .i64 nw, .int .i64 nc] 34)
          replace hb := boxed hb (.cells #[.int .i64 nw, .int .i64 nc] 34)
          have RS := RowL.new (w := w3) (T := 34) [.int .i64 nw, .int .i64 nc] rfl
          by_cases hne : ne ≠ 0
          · have h1 : (ne == 0) = false := by simp [hne]
            have h2 : (ne != 0) = true := by simp [hne]
            have r0 := RT.cell 0 _ rfl
            have p0 := RT.free 0 (by simp [txZ])
            have r1 := RT.cell 1 _ rfl
            have p1 := RT.free 1 (by simp [txZ])
            have r2 := RT.cell 2 _ rfl
            have p2 := RT.free 2 (by simp [txZ])
            have r3 := RT.cell 3 _ rfl
            have p3 := RT.free 3 (by simp [txZ])
            have r4 := RT.cell 4 _ rfl
            have p4 := RT.free 4 (by simp [txZ])
            have r5 := RT.cell 5 _ rfl
            have p5 := RT.free 5 (by simp [txZ])
            have r6 := RT.cell 6 _ rfl
            have p6 := RT.free 6 (by simp [txZ])
            have r7 := RT.cell 7 _ rfl
            have p7 := RT.free 7 (by simp [txZ])
            have r8 := RT.cell 8 _ rfl
            have p8 := RT.free 8 (by simp [txZ])
            have RZ := tx_set RT rfl 0 0 0 0 0 0 0 0 (.slice none 0 0)
            have hbZ := tx_far hb hB 0 0 0 0 0 0 0 0 (.slice none 0 0)
            have FIN := OUT _ ne HN.out (by exact hne) hbZ
            clear OUT
            go_wp2_with fail
            exact bodyPost_ret (commit_results RZ rfl rfl) rfl FIN.out
          · have he0 : ne = 0 := by omega
            subst he0
            exact absurd HN.out HNE.out

end Go.Proofs.YtpncedpfoakfkaaGreatDoor

namespace Go.Proofs.YtpncedpfoakfkaaGreatDoor
open Go.RowKit

theorem commitE_zero {S : SiteS} {n : Nat} {now d0 d1 d2 d3 : Int} {ws : List Wr} (h : commitE S n now d0 d1 d2 d3 ws = 0) : okWs ws = true ∧ timesB d0 d1 d2 d3 = true ∧ covB S.a0 S.a1 S.a2 S.a3 d0 d1 d2 d3 = true ∧ ¬ 200 ≤ n ∧ (nextP S.lw S.lc now).2.2 = 0 := by
  unfold commitE at h
  cases h1 : okWs ws
  · rw [if_pos h1] at h; cases h
  · rw [if_neg (by rw [h1]; decide)] at h
    cases h2 : timesB d0 d1 d2 d3
    · rw [if_pos h2] at h; cases h
    · rw [if_neg (by rw [h2]; decide)] at h
      cases h3 : covB S.a0 S.a1 S.a2 S.a3 d0 d1 d2 d3
      · rw [if_pos h3] at h; cases h
      · rw [if_neg (by rw [h3]; decide)] at h
        by_cases h4 : 200 ≤ n
        · rw [if_pos h4] at h; cases h
        · rw [if_neg h4] at h
          exact ⟨rfl, rfl, rfl, h4, h⟩

theorem news_wr {w : World} {b off : Nat} {l : List Wr} (h : WrCells w b off l) : ∀ j u, (wrsC l)[j]? = some u → w.cell? ((⟨b, off, none⟩ : Addr).add j) = some u := fun j u hu => by
  have hadd : (⟨b, off, none⟩ : Addr).add j = ⟨b, off + j, none⟩ := by unfold Addr.add; split <;> simp_all
  have hj : j < l.length * 3 := by
    have := (List.getElem?_eq_some_iff.1 hu).1
    rw [wrsC_length] at this
    exact this
  have hi : j / 3 < l.length := by omega
  obtain ⟨a0, a1, a2⟩ := wrsC_at l (j / 3) hi
  obtain ⟨c0, c1, c2⟩ := h (j / 3) hi
  rw [hadd]
  have hr : j = j / 3 * 3 ∨ j = j / 3 * 3 + 1 ∨ j = j / 3 * 3 + 2 := by omega
  rcases hr with e | e | e
  · rw [← e] at a0 c0
    rw [a0] at hu
    injection hu with hu
    rw [← hu]
    exact c0
  · rw [← e] at a1
    rw [Nat.add_assoc, ← e] at c1
    rw [a1] at hu
    injection hu with hu
    rw [← hu]
    exact c1
  · rw [show j / 3 * 3 + 1 + 1 = j / 3 * 3 + 2 from rfl, ← e] at a2
    rw [show off + j / 3 * 3 + 1 + 1 = off + (j / 3 * 3 + 2) by omega, ← e] at c2
    rw [a2] at hu
    injection hu with hu
    rw [← hu]
    exact c2
theorem wrsC_one (l : List Wr) : ∀ u ∈ wrsC l, u.oneCell' = true := by
  intro u hu
  obtain ⟨x, _, hx⟩ := List.mem_flatMap.1 hu
  simp [wrC] at hx
  rcases hx with rfl | rfl | rfl <;> rfl
theorem wrInfo : (Tryz.prog.info? 83).map (fun i => (i.zero, i.size, i.bytes)) = some (some (.agg #[.int .i64 0, .string ⟨#[]⟩, .bool false]), 3, 32) := by kernel_rfl
theorem own_none (w : World) {n : Nat} (T : TypeId) (hn : w.heap.size = n) (B : Nat) (hB : B ≤ n) : (w.alloc (.cells #[] T)).ownsRow B T 3 (.slice (some ⟨n, 0, none⟩) 0 0) 0 [] := by
  subst hn
  exact ⟨rfl, .inr ⟨w.heap.size, 0, #[], rfl, hB, heap_alloc_new w (.cells #[] T), Nat.le_refl _, by decide, rfl, rfl⟩⟩

end Go.Proofs.YtpncedpfoakfkaaGreatDoor

namespace Go.Proofs.YtpncedpfoakfkaaGreatDoor
open Go.RowKit

theorem sameErr_errV' (n : Int) : SameErr (errV n) n := by
  unfold errV
  split
  · rename_i h
    rw [h]
    exact sameErr_nil
  · exact sameErr_no n

end Go.Proofs.YtpncedpfoakfkaaGreatDoor
