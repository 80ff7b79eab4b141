/-
  What slices.Insert of one version does to a key's row, as the model runs it: at the end, in place, or into a new row.
  What slices.Insert of one version does to a key's row, as the model runs it: into a new row.
  What it is to commit at a site of the document, as the model runs it (copseref.Site.Commit).
  Towards a commit that goes well, at a site of the document (copseref.Site.Commit): what it asks, and a caller's writes as what is appended.
  What it is to read at a site of the document, as the model runs it (copseref.Site.Read).
  What is stable at a site of the document, as the model runs it (copseref.Site.Stable).
  What a site of the document knows that all of the first sites have, as the model runs it (copseref.Site.Stable), of however many sites.
  What copselaw.sameTxs does, as the model runs it, where two rows of transactions are the same.
-/
import Derived.Test.YtplbdmcfghhbdaaGreatDoorPgSmall
import Derived.Test.YtplbdmcfghhbdaaGreatDoorSiteA
import Derived.Shelf.RegionOpen
import Derived.Lib.JoinLaws
import Derived.Test.YtplbdmcfghhbdaaGreatDoorSiteE
import Derived.Test.YtplbdmcfghhbdaaGreatDoorRefRightW
import Derived.Test.YtplbdmcfghhbdaaGreatDoorSiteB
import Derived.Deep.RegionHeld3
import Derived.Test.YtplbdmcfghhbdaaGreatDoorRefMax
namespace Go.Proofs.YtplbdmcfghhbdaaGreatDoor
open Go.RowKit

theorem verInfo : (Tryz.prog.info? 59).map (fun i => (i.zero, i.size, i.bytes)) = some (some (.agg #[.int .i64 0, .int .i64 0, .int .i64 0, .int .i64 0, .string ⟨#[]⟩, .bool false]), 6, 56) := by kernel_rfl
theorem verSize : (Tryz.prog.info? 59).map (·.size) = some 6 := by kernel_rfl

/-- what Insert leaves: a row, the same one or a new one -/
def InsPost (w : World) (sv : Value) (L' : List Ver) (g cap : Nat) (w' : World) : Prop :=
  w'.ownsRow 0 59 6 (.slice (some ⟨g, 0, none⟩) L'.length cap) L'.length (versL L') ∧ w.grownBy w' sv.ownBlock ∧ (sv.ownBlock = some g ∨ w.heap.size ≤ g)

/-- with v at place p -/
def insL (L : List Ver) (p : Nat) (v : Ver) : List Ver := L.take p ++ [v] ++ L.drop p
theorem insL_length {L : List Ver} {p : Nat} (v : Ver) (h : p ≤ L.length) : (insL L p v).length = L.length + 1 := by
  simp [insL]
  omega
theorem versL_ins (L : List Ver) (p : Nat) (v : Ver) : versL (insL L p v) = versL (L.take p) ++ verL v ++ versL (L.drop p) := by
  unfold insL
  rw [versL_append, versL_append, versL_one]

set_option maxRecDepth 100000 in
set_option maxHeartbeats 4000000 in
theorem insert_end {sv : Value} {L : List Ver} (v : Ver) (vb : Nat) (w : World) (hown : w.ownsRow 0 59 6 sv L.length (versL L)) (hl : L.length ≤ 1000) (hvb : w.heap[vb]? = some (.cells (verL v).toArray 59 (0, 0))) :
    Calls Tryz.prog 108 #[sv, .int .i64 L.length, .slice (some ⟨vb, 0, none⟩) 1 1] w fun e w' =>
      ∃ g cap, e = .returned (.slice (some ⟨g, 0, none⟩) (L.length + 1) cap) ∧ InsPost w sv (L ++ [v]) g cap w' := by
  obtain ⟨i0, hi, hz0, hz1, hz2⟩ := info_parts verInfo
  have hnews : ∀ j u, (verL v)[j]? = some u → w.cell? ((⟨vb, 0, none⟩ : Addr).add j) = some u := fun j u hu => by
    rw [addr_add, cell_of_row w vb j _ 59 (0, 0) hvb]
    simpa using hu
  have h1 : ∀ u ∈ verL v, u.oneCell' = true := fun u hu => versL_one' [v] u (by rw [versL_one]; exact hu)
  obtain ⟨a, cap, rfl, hV⟩ := vsIn_own hown
  have hc1 := hV.len
  have hc2 := hV.cap
  have HN : Hid (∀ j u, (verL v)[j]? = some u → w.cell? ((⟨vb, 0, none⟩ : Addr).add j) = some u) := hnews
  have HV : Hid (w.heap[vb]? = some (.cells (verL v).toArray 59 (0, 0))) := hvb
  clear hnews hvb hV
  obtain ⟨n, hn⟩ : ∃ n, L.length = n := ⟨_, rfl⟩
  have EL : Hid (L.length = n) := hn
  rw [hn] at hown hc1 hl ⊢
  clear hn
  have hs : (Value.slice a n cap = .slice none 0 0) ∨ ∃ g, a = some ⟨g, 0, none⟩ := by
    rcases hown.2 with ⟨h, _⟩ | ⟨g, c, cur, h, _⟩
    · exact .inl h
    · injection h with h _ _
      exact .inr ⟨g, h⟩
  have FIN : Hid (∀ g cap9 wE, wE.ownsRow 0 59 6 (.slice (some ⟨g, 0, none⟩) (n + 1) cap9) (n + 1) (versL L ++ verL v) → w.grownBy wE (Value.slice a n cap).ownBlock → ((Value.slice a n cap).ownBlock = some g ∨ g = w.heap.size) → InsPost w (.slice a n cap) (L ++ [v]) g cap9 wE) := fun g cap9 wE h1 h2 h3 =>
    ⟨by rw [versL_append, versL_one, List.length_append, EL.out]; exact h1, h2, h3.imp_right (fun e => by omega)⟩
  rcases hs with h0 | ⟨g0, rfl⟩
  · injection h0 with ha hn hcp
    subst ha hn hcp
    go_enter Tryz.func108, Tryz.ntmps108
    go_wp2_with (at_builtin; refine wpList_append_lies _ rfl _ _ 104 rfl 0 59 i0 (.agg #[.int .i64 0, .int .i64 0, .int .i64 0, .int .i64 0, .string ⟨#[]⟩, .bool false]) 6 56 Tryz.underlying104 hi hz0 hz1 hz2 rfl (by decide) _ _ (versL L) rfl hown ⟨vb, 0, none⟩ 1 1 (verL v) rfl rfl HN.out h1 (by decide) (by simp only [maxLen]; omega) (by omega) (by omega) _ rfl ?_; intro g cap9 wE ownE grE egE ltE; have HX : Hid (InsPost w (.slice none 0 0) (L ++ [v]) g cap9 wE) := FIN.out g cap9 wE ownE grE egE; clear ownE grE egE)
    go_ret
    exact ⟨g, cap9, rfl, HX.out⟩
  · go_enter Tryz.func108, Tryz.ntmps108
    go_wp2_with (at_builtin; refine wpList_append_lies _ rfl _ _ 104 rfl 0 59 i0 (.agg #[.int .i64 0, .int .i64 0, .int .i64 0, .int .i64 0, .string ⟨#[]⟩, .bool false]) 6 56 Tryz.underlying104 hi hz0 hz1 hz2 rfl (by decide) _ _ (versL L) rfl hown ⟨vb, 0, none⟩ 1 1 (verL v) rfl rfl HN.out h1 (by decide) (by simp only [maxLen]; omega) (by omega) (by omega) _ rfl ?_; intro g cap9 wE ownE grE egE ltE; have HX : Hid (InsPost w (.slice (some ⟨g0, 0, none⟩) n cap) (L ++ [v]) g cap9 wE) := FIN.out g cap9 wE ownE grE egE; clear ownE grE egE)
    all_goals
      go_ret
      exact ⟨g, cap9, rfl, HX.out⟩

set_option maxRecDepth 100000 in
set_option maxHeartbeats 4000000 in
theorem insert_shift {g n cap p : Nat} {L : List Ver} (v : Ver) (vb : Nat) (w : World) (hown : w.ownsRow 0 59 6 (.slice (some ⟨g, 0, none⟩) n cap) n (versL L)) (hn : L.length = n) (hl : n ≤ 1000) (hp : p < n) (hroom : n + 1 ≤ cap) (hvb : w.heap[vb]? = some (.cells (verL v).toArray 59 (0, 0))) (hne : vb ≠ g) :
    Calls Tryz.prog 108 #[.slice (some ⟨g, 0, none⟩) n cap, .int .i64 p, .slice (some ⟨vb, 0, none⟩) 1 1] w fun e w' =>
      ∃ g' cap', e = .returned (.slice (some ⟨g', 0, none⟩) (n + 1) cap') ∧ InsPost w (.slice (some ⟨g, 0, none⟩) n cap) (insL L p v) g' cap' w' := by
  obtain ⟨g1, cap1, cur, h', hB, hg, hnc, hcm, hcs, htake⟩ := hown.2.resolve_left (fun h => by simp at h)
  simp only [Value.slice.injEq, Option.some.injEq, Addr.mk.injEq, and_true, true_and] at h'
  obtain ⟨rfl, rfl⟩ := h'
  have hc63 : cap ≤ 9223372036854775807 := by simp only [maxLen] at hcm; omega
  have hD : (versL (L.drop p)).length = (n - p) * 6 := by rw [versL_length, List.length_drop, hn]
  have hA : (versL (L.take p)).length = p * 6 := by rw [versL_length, List.length_take]; omega
  have hcs' : ∀ j u, (versL L)[j]? = some u → w.cell? ⟨g, j, none⟩ = some u := fun j u hu => by have := hown.cells (g := g) rfl j u hu; rwa [addr_add] at this
  have hex : ∀ j, j < cap * 6 → (w.cell? ⟨g, j, none⟩).isSome = true := fun j hj => by rw [cell_of_row w g j cur _ (0, 0) hg, Array.getElem?_eq_getElem (by omega)]; rfl
  have hfz : ∀ j, w.frozen? ⟨g, j, none⟩ = false := fun j => frozen_of_row w g j cur _ hg
  have hnews : ∀ j u, (verL v)[j]? = some u → w.cell? ⟨vb, j, none⟩ = some u := fun j u hu => by
    rw [cell_of_row w vb j _ 59 (0, 0) hvb]
    simpa using hu
  have h1 : ∀ u ∈ verL v, u.oneCell' = true := fun u hu => versL_one' [v] u (by rw [versL_one]; exact hu)
  have hov : ∀ lb cb, (callFunc 117 #[.slice (some ⟨vb, 0, none⟩) 1 1, .slice (some ⟨g, (p + 1) * 6, none⟩) lb cb]).run Tryz.prog w = .ok (.value (.bool false)) w := fun lb cb => by
    rw [run_callFunc_extern Tryz.func117 (by kernel_rfl) (by kernel_rfl) (by kernel_rfl) (e := Extern.SlicesOverlaps.overlaps #[104, 104] #[4]) (by kernel_rfl),
      Lib.run_overlaps_apart w 104 4 59 Tryz.underlying104 6 Tryz.sizeOf59 ⟨vb, 0, none⟩ ⟨g, (p + 1) * 6, none⟩ 1 1 lb cb hne 59 59 6 cur.size (by simp [World.shape?, hvb, verL]) (by simp [World.shape?, hg]) (by omega) (by simp [World.frozen?, hvb]) (by simp [World.frozen?, hvb])]
    rfl
  have hcp1 : ∀ ty dc sc, (Builtin.copy_ #[104, 104] ty #[.slice (some ⟨g, (p + 1) * 6, none⟩) (n - p) dc, .slice (some ⟨g, p * 6, none⟩) (n + 1 - p) sc]).run Tryz.prog w.drew = .ok (goInt (n - p : Nat)) (w.drew.setCells g ((p + 1) * 6) (versL (L.drop p))) := fun ty dc sc =>
    run_copy_k w.drew _ _ ty 59 6 g ((p + 1) * 6) (n - p) dc ⟨g, p * 6, none⟩ (n + 1 - p) sc (n - p) (versL (L.drop p)) Tryz.underlying104 verSize (by simp only [Nat.min_def]; split <;> omega) hD
      (fun j u hj => by rw [Addr.add_lit]; exact hcs' (p * 6 + j) u (by rw [← versL_drop, List.getElem?_drop] at hj; exact hj))
      (fun j hj => hex _ (by omega)) (fun j _ => hfz _) (versL_one' _)
  obtain ⟨W1, hW1⟩ : ∃ W1, W1 = w.drew.setCells g ((p + 1) * 6) (versL (L.drop p)) := ⟨_, rfl⟩
  have hcp2 : ∀ (W : World), (∀ x, W.cell? x = W1.cell? x) → (∀ x, W.frozen? x = W1.frozen? x) → ∀ ty dc, (Builtin.copy_ #[104, 104] ty #[.slice (some ⟨g, p * 6, none⟩) (n + 1 - p) dc, .slice (some ⟨vb, 0, none⟩) 1 1]).run Tryz.prog W = .ok (goInt 1) (W.setCells g (p * 6) (verL v)) := fun W hWc hWf ty dc =>
    run_copy_k W _ _ ty 59 6 g (p * 6) (n + 1 - p) dc ⟨vb, 0, none⟩ 1 1 1 (verL v) Tryz.underlying104 verSize (by simp only [Nat.min_def]; split <;> omega) rfl
      (fun j u hj => by
        rw [addr_add, hWc, hW1, World.cell?_setCells_out g _ _ _ _ (fun h _ => absurd h hne)]
        exact hnews j u hj)
      (fun j hj => by
        rw [hWc, hW1]
        exact isSome_set g (versL (L.drop p)) ((p + 1) * 6) w.drew (fun t ht => hex ((p + 1) * 6 + t) (by omega)) (p * 6 + j) (hex (p * 6 + j) (by simp [verL] at hj; omega)))
      (fun j hj => by rw [hWf, hW1, World.frozen?_setCells]; exact hfz _) h1
  have OUT : Hid (InsPost w (.slice (some ⟨g, 0, none⟩) n cap) (insL L p v) g cap (W1.setCells g (p * 6) (verL v))) := by
    obtain ⟨c1, q1, q2⟩ := heap_setCells g (versL (L.drop p)) ((p + 1) * 6) w.drew (cur := cur) (T := 59) hg
    obtain ⟨c2, q3, q4⟩ := heap_setCells g (verL v) (p * 6) (w.drew.setCells g ((p + 1) * 6) (versL (L.drop p))) q1
    rw [hW1]
    refine ⟨own_of_cells (Nat.zero_le _) q3 hcm (by omega) (by rw [insL_length v (by omega)]; omega) (versL_length _) ?_, ?_, .inl rfl⟩
    · rw [versL_ins]
      have := cells_shift (w := w.drew) (g := g) (versL (L.take p)) (verL v) (versL (L.drop p)) (fun j u hj => hcs' j u (by rw [← versL_take, List.getElem?_take] at hj; split at hj; exact hj; cases hj)) (fun j hj => hex j (by rw [hA, hD, verL_length] at hj; omega))
      rw [hA, verL_length, show p * 6 + 6 = (p + 1) * 6 by omega] at this
      exact this
    · have o1 : Only g w w.drew := Only.ofBelow (Below.refl _ _).drew
      exact (o1.trans (only_setCells g _ _ _) (.inl rfl)).trans (only_setCells g _ _ _) (.inl rfl)
  rw [← hW1] at hcp1
  have hcp3 := hcp2 W1 (fun _ => rfl) (fun _ => rfl)
  clear hW1 hcp2
  have hw1 : IntKind.i64.wrap ((p : Int) + 1) = (p : Int) + 1 := by rw [IntKind.wrap_i64]; omega
  have hb1 : (0 : Int) ≤ (p : Int) + 1 := by omega
  have hin : p ≤ n := by omega
  have htn : ((p : Int) + 1).toNat = p + 1 := by omega
  have hb2 : ¬ (cap = p + 1) := by omega
  have hb3 : (p : Int) ≤ (n : Int) + 1 := by omega
  have hb4 : ¬ (cap = p) := by omega
  have hz2 : ¬ ((p : Int) = (n : Int)) := by omega
  have EL : Hid (L.length = n) := hn
  clear hD hA hcs' hex hfz hnews h1 htake hown hcs hB hg hvb hn
  go_enter Tryz.func108, Tryz.ntmps108
  go_wp2_with (simp only [hov])
  go_region_law (refine step_copy_run rfl _ _ 104 104 rfl _ _ (by simp [Act.eval, Act.put]) (by simp [Act.eval, Act.put]) (hcp1 _ _ _) ?_)
  go_wp2_with (at_builtin; refine wpList_copy_run _ rfl _ _ 104 104 rfl _ _ rfl rfl (hcp3 _ _) ?_)
  go_ret
  exact ⟨g, cap, rfl, OUT.out⟩

end Go.Proofs.YtplbdmcfghhbdaaGreatDoor

namespace Go.Proofs.YtplbdmcfghhbdaaGreatDoor
open Go.RowKit

set_option maxRecDepth 100000 in
set_option maxHeartbeats 4000000 in
theorem insert_grow {g n cap p : Nat} {L : List Ver} (v : Ver) (vb : Nat) (w : World) (hown : w.ownsRow 0 59 6 (.slice (some ⟨g, 0, none⟩) n cap) n (versL L)) (hn : L.length = n) (hl : n ≤ 1000) (hp : p < n) (hroom : ¬ n + 1 ≤ cap) (hvb : w.heap[vb]? = some (.cells (verL v).toArray 59 (0, 0))) :
    Calls Tryz.prog 108 #[.slice (some ⟨g, 0, none⟩) n cap, .int .i64 p, .slice (some ⟨vb, 0, none⟩) 1 1] w fun e w' =>
      ∃ g' cap', e = .returned (.slice (some ⟨g', 0, none⟩) (n + 1) cap') ∧ InsPost w (.slice (some ⟨g, 0, none⟩) n cap) (insL L p v) g' cap' w' := by
  obtain ⟨g1, cap1, cur, h', hB, hg, hnc, hcm, hcs, htake⟩ := hown.2.resolve_left (fun h => by simp at h)
  simp only [Value.slice.injEq, Option.some.injEq, Addr.mk.injEq, and_true, true_and] at h'
  obtain ⟨rfl, rfl⟩ := h'
  obtain rfl : cap = n := by omega
  obtain ⟨i0, hi0, hz0, hzs, hzb⟩ := info_parts verInfo
  have hD : (versL (L.drop p)).length = (cap - p) * 6 := by rw [versL_length, List.length_drop, hn]
  have hA : (versL (L.take p)).length = p * 6 := by rw [versL_length, List.length_take]; omega
  have hcs' : ∀ j u, (versL L)[j]? = some u → w.cell? ⟨g, j, none⟩ = some u := fun j u hu => by have := hown.cells (g := g) rfl j u hu; rwa [addr_add] at this
  have hnews : ∀ j u, (verL v)[j]? = some u → w.cell? ⟨vb, j, none⟩ = some u := fun j u hu => by
    rw [cell_of_row w vb j _ 59 (0, 0) hvb]
    simpa using hu
  have h1 : ∀ u ∈ verL v, u.oneCell' = true := fun u hu => versL_one' [v] u (by rw [versL_one]; exact hu)
  have hbw : g < w.heap.size := (Array.getElem?_eq_some_iff.1 hg).1
  have hvw : vb < w.heap.size := (Array.getElem?_eq_some_iff.1 hvb).1
  have hold : (Builtin.firstCells i0.size p (.slice (some ⟨g, 0, none⟩) p cap)).run Tryz.prog w.drew = .ok (versL (L.take p)).toArray w.drew := by
    rw [hzs]
    exact run_firstCells_some w.drew 6 p ⟨g, 0, none⟩ p cap (versL (L.take p)) hA (fun j u hj => by
      rw [addr_add]
      rw [← versL_take, List.getElem?_take] at hj
      split at hj
      · exact hcs' j u hj
      · cases hj)
  obtain ⟨G, hG⟩ : ∃ G, G = grownCap w (cap + 1) cap 59 := ⟨_, rfl⟩
  have hGn : cap + 1 ≤ G := by rw [hG]; exact grownCap_ge w _ _ _
  have hGm : G ≤ maxLen := by rw [hG]; exact grownCap_le_maxLen w (cap + 1) cap _ (by unfold maxLen; omega)
  obtain ⟨ROW, hROW⟩ : ∃ ROW : Array Value, ROW = (versL (L.take p)).toArray ++ Builtin.zeroCells (Value.agg #[.int .i64 0, .int .i64 0, .int .i64 0, .int .i64 0, .string ⟨#[]⟩, .bool false]).cells (cap + 1 - p) ++ Builtin.zeroCells (Value.agg #[.int .i64 0, .int .i64 0, .int .i64 0, .int .i64 0, .string ⟨#[]⟩, .bool false]).cells (G - (cap + 1)) := ⟨_, rfl⟩
  have hz6 : (Value.agg #[.int .i64 0, .int .i64 0, .int .i64 0, .int .i64 0, .string ⟨#[]⟩, .bool false]).cells.size = 6 := rfl
  have hRs : ROW.size = G * 6 := by
    rw [hROW]
    simp only [Array.size_append, List.size_toArray, size_zeroCells, hz6, hA]
    omega
  have hRA : ∀ j u, (versL (L.take p))[j]? = some u → ROW[j]? = some u := fun j u hu => by
    have hj : j < (versL (L.take p)).length := (List.getElem?_eq_some_iff.1 hu).1
    rw [hROW, Array.append_assoc, Array.getElem?_append_left (by simpa using hj)]
    simpa using hu
  have hkk : (cap : Int) + 1 - (p : Int) = ((cap + 1 - p : Nat) : Int) := by omega
  have hik : p + (cap + 1 - p) = cap + 1 := by omega
  have hrz : ∀ ty, (Builtin.append_ #[104, 3] ty #[.slice (some ⟨g, 0, none⟩) p cap, .int .i64 ((cap : Int) + 1 - (p : Int))]).run Tryz.prog w =
      .ok (.slice (some ⟨w.heap.size, 0, none⟩) (cap + 1) G) (w.drew.alloc (.cells ROW 59)) := fun ty => by
    have h := Lib.run_append_grow_zeros w 104 3 ty 59 i0 _ .i64 .i64 Tryz.underlying104 Tryz.underlying3 hi0 hz0 (some ⟨g, 0, none⟩) p cap (versL (L.take p)) hold (cap + 1 - p) (by omega) (by omega) (by omega) (by omega) (by rw [hzb]; omega) (by rw [hzb, hik]; exact growslice_fits (by omega) (by omega))
    rw [hik, ← hG, ← hROW] at h
    rw [hkk]
    exact h
  obtain ⟨W1, hW1⟩ : ∃ W1, W1 = w.drew.alloc (.cells ROW 59) := ⟨_, rfl⟩
  have hgN : W1.heap[w.heap.size]? = some (.cells ROW 59 (0, 0)) := by rw [hW1]; exact heap_alloc_new w.drew _
  have hN : ∀ j, j < G * 6 → (W1.cell? ⟨w.heap.size, j, none⟩).isSome = true := fun j hj => by
    rw [cell_of_row W1 w.heap.size j ROW _ (0, 0) hgN, Array.getElem?_eq_getElem (by omega)]; rfl
  have hNA : ∀ j u, (versL (L.take p))[j]? = some u → W1.cell? ⟨w.heap.size, j, none⟩ = some u := fun j u hu => by
    rw [cell_of_row W1 w.heap.size j ROW _ (0, 0) hgN]
    exact hRA j u hu
  have hNf : ∀ j, W1.frozen? ⟨w.heap.size, j, none⟩ = false := fun j => frozen_of_row W1 w.heap.size j ROW _ hgN
  have hb1 : Below w.heap.size w W1 := by rw [hW1]; exact boxed (Below.refl _ w).drew _
  have hcpA : ∀ (W : World), (∀ x, W.cell? x = W1.cell? x) → (∀ x, W.frozen? x = W1.frozen? x) → ∀ ty dc, (Builtin.copy_ #[104, 104] ty #[.slice (some ⟨w.heap.size, p * 6, none⟩) (cap + 1 - p) dc, .slice (some ⟨vb, 0, none⟩) 1 1]).run Tryz.prog W = .ok (goInt 1) (W.setCells w.heap.size (p * 6) (verL v)) := fun W hWc hWf ty dc =>
    run_copy_k W _ _ ty 59 6 w.heap.size (p * 6) (cap + 1 - p) dc ⟨vb, 0, none⟩ 1 1 1 (verL v) Tryz.underlying104 verSize (by simp only [Nat.min_def]; split <;> omega) rfl
      (fun j u hj => by
        rw [addr_add, hWc]
        exact cell_later hb1 (hnews j u hj))
      (fun j hj => by rw [hWc]; exact hN _ (by simp [verL] at hj; omega))
      (fun j hj => by rw [hWf]; exact hNf _) h1
  have hcpB : ∀ (W : World), (∀ x, W.cell? x = (W1.setCells w.heap.size (p * 6) (verL v)).cell? x) → (∀ x, W.frozen? x = (W1.setCells w.heap.size (p * 6) (verL v)).frozen? x) → ∀ ty dc sc, (Builtin.copy_ #[104, 104] ty #[.slice (some ⟨w.heap.size, (p + 1) * 6, none⟩) (cap - p) dc, .slice (some ⟨g, p * 6, none⟩) (cap - p) sc]).run Tryz.prog W = .ok (goInt (cap - p : Nat)) (W.setCells w.heap.size ((p + 1) * 6) (versL (L.drop p))) := fun W hWc hWf ty dc sc =>
    run_copy_k W _ _ ty 59 6 w.heap.size ((p + 1) * 6) (cap - p) dc ⟨g, p * 6, none⟩ (cap - p) sc (cap - p) (versL (L.drop p)) Tryz.underlying104 verSize (by simp) hD
      (fun j u hj => by
        rw [Addr.add_lit, hWc, World.cell?_setCells_out _ _ _ _ _ (fun h _ => absurd h (by show g ≠ w.heap.size; omega))]
        exact cell_later hb1 (hcs' (p * 6 + j) u (by rw [← versL_drop, List.getElem?_drop] at hj; exact hj)))
      (fun j hj => by
        rw [hWc]
        exact isSome_set w.heap.size (verL v) (p * 6) W1 (fun t ht => hN (p * 6 + t) (by simp [verL] at ht; omega)) ((p + 1) * 6 + j) (hN ((p + 1) * 6 + j) (by omega)))
      (fun j hj => by rw [hWf, World.frozen?_setCells]; exact hNf _) (versL_one' _)
  obtain ⟨W2, hW2⟩ : ∃ W2, W2 = W1.setCells w.heap.size (p * 6) (verL v) := ⟨_, rfl⟩
  obtain ⟨W3, hW3⟩ : ∃ W3, W3 = W2.drew.setCells w.heap.size ((p + 1) * 6) (versL (L.drop p)) := ⟨_, rfl⟩
  have OUT : Hid (InsPost w (.slice (some ⟨g, 0, none⟩) cap cap) (insL L p v) w.heap.size G W3) := by
    obtain ⟨c1, q1, q2⟩ := heap_setCells w.heap.size (verL v) (p * 6) W1 hgN
    rw [← hW2] at q1
    obtain ⟨c2, q3, q4⟩ := heap_setCells w.heap.size (versL (L.drop p)) ((p + 1) * 6) W2.drew (cur := c1) (T := 59) q1
    rw [← hW3] at q3
    refine ⟨own_of_cells (Nat.zero_le _) q3 hGm (by omega) (by rw [insL_length v (by omega)]; omega) (versL_length _) ?_, ?_, .inr (Nat.le_refl _)⟩
    · rw [versL_ins]
      have := cells_shift2 (w := W1) (g := w.heap.size) (versL (L.take p)) (verL v) (versL (L.drop p)) hNA (fun j hj => hN j (by rw [hA, hD, verL_length] at hj; omega))
      rw [hA, verL_length, show p * 6 + 6 = (p + 1) * 6 by omega, ← hW2] at this
      intro j u hu
      rw [hW3]
      have e := this j u hu
      rw [← e]
      have hh : ∀ (vs : List Value) (o : Nat) (X : World), (X.drew.setCells w.heap.size o vs).heap = (X.setCells w.heap.size o vs).heap := by
        intro vs
        induction vs with
        | nil => intro o X; rfl
        | cons u vs ih => intro o X; exact ih (o + 1) (X.setCell ⟨w.heap.size, o, none⟩ u)
      unfold World.cell?
      rw [hh]
    · have o1 : Only w.heap.size W1 W2 := by rw [hW2]; exact only_setCells _ _ _ _
      have o2 : Only w.heap.size W2 W3 := by rw [hW3]; exact (Only.ofBelow (Below.refl _ _).drew).trans (only_setCells _ _ _ _) (.inl rfl)
      have o3 := (Only.ofBelow (g := w.heap.size) hb1).trans (o1.trans o2 (.inl rfl)) (.inl rfl)
      exact ⟨o3.os, o3.tape, o3.output, o3.size, fun k hk _ => o3.block k hk (fun e => by injection e; omega)⟩
  have hA3 := hcpA W1 (fun _ => rfl) (fun _ => rfl)
  have hB3 := hcpB W2.drew (fun x => by rw [← hW2]; rfl) (fun x => by rw [← hW2]; rfl)
  rw [← hW2] at hA3
  rw [← hW3] at hB3
  rw [← hW1] at hrz
  have hw1 : IntKind.i64.wrap ((p : Int) + 1) = (p : Int) + 1 := by rw [IntKind.wrap_i64]; omega
  have hw2 : (0 : Int) ≤ (p : Int) + 1 := by omega
  have hin : p ≤ cap := by omega
  have htn : ((p : Int) + 1).toNat = p + 1 := by omega
  have hG63 : G ≤ 9223372036854775807 := by simp only [maxLen] at hGm; omega
  have hG1 : ¬ (G = p + 1) := by omega
  have hG2 : ¬ (G = p) := by omega
  have hc1 : ¬ (cap = p) := by omega
  have hb3 : (p : Int) ≤ (cap : Int) + 1 := by omega
  have hb5 : (p : Int) ≤ (cap : Int) := by omega
  have hz2 : ¬ ((p : Int) = (cap : Int)) := by omega
  have hz3 : (cap : Int) < (cap : Int) + 1 := by omega
  have EL : Hid (L.length = cap) := hn
  clear hD hA hcs' hnews h1 htake hown hcs hB hg hvb hn hold hROW hG hRs hRA hz6 hW1 hW2 hW3 hgN hN hNA hNf hcpA hcpB hkk hik hi0 hz0 hzs hzb hb1 hnc hcm hGm
  go_enter Tryz.func108, Tryz.ntmps108
  go_wp2_with (first
    | (at_builtin; refine Lib.wpList_append_run _ rfl _ _ _ _ rfl _ _ rfl rfl _ _ (hrz _) ?_)
    | (at_builtin; refine wpList_copy_run _ rfl _ _ 104 104 rfl _ _ rfl rfl (hA3 _ _) ?_))
  go_region_law (refine step_copy_run rfl _ _ 104 104 rfl _ _ (by simp [Act.eval, Act.put]) (by simp [Act.eval, Act.put]) (hB3 _ _ _) ?_)
  go_wp2_with fail
  go_ret
  exact ⟨w.heap.size, G, rfl, OUT.out⟩

theorem insL_end (L : List Ver) (v : Ver) : insL L L.length v = L ++ [v] := by simp [insL]

/-- Insert of one version, wherever -/
theorem insert_any {sv : Value} {L : List Ver} {p : Nat} (v : Ver) (vb : Nat) (w : World) (hown : w.ownsRow 0 59 6 sv L.length (versL L)) (hp : p ≤ L.length) (hl : L.length ≤ 1000) (hvb : w.heap[vb]? = some (.cells (verL v).toArray 59 (0, 0))) (hne : sv.ownBlock ≠ some vb) :
    Calls Tryz.prog 108 #[sv, .int .i64 p, .slice (some ⟨vb, 0, none⟩) 1 1] w fun e w' =>
      ∃ g cap, e = .returned (.slice (some ⟨g, 0, none⟩) (L.length + 1) cap) ∧ InsPost w sv (insL L p v) g cap w' := by
  rcases Nat.lt_or_ge p L.length with h | h
  · rcases hown.2 with ⟨_, h0⟩ | ⟨g, cap, cur, rfl, _⟩
    · omega
    · by_cases hroom : L.length + 1 ≤ cap
      · exact insert_shift v vb w hown rfl hl h hroom hvb (fun e => hne (by rw [e]; rfl))
      · exact insert_grow v vb w hown rfl hl h hroom hvb
  · obtain rfl : p = L.length := by omega
    rw [insL_end]
    exact insert_end v vb w hown hl hvb

end Go.Proofs.YtplbdmcfghhbdaaGreatDoor

namespace Go.Proofs.YtplbdmcfghhbdaaGreatDoor
open Go.RowKit

/-- the next stamp, and the error -/
def nextP (lw lc now : Int) : Int × Int × Int :=
  if (timeB lw && timeB lc) = false then (0, 0, 2) else if timeB now = false then (0, 0, 2) else if lw < now then (now, 0, 0) else if 1099511627776 < lc + 1 then (0, 0, 12) else (lw, lc + 1, 0)
theorem refNext_any (lw lc now : Int) (w : World) :
    Calls Tryz.prog 50 #[.agg #[.int .i64 lw, .int .i64 lc], .int .i64 now] w fun e w' => e = .returned (.tuple #[.agg #[.int .i64 (nextP lw lc now).1, .int .i64 (nextP lw lc now).2.1], .int .i64 (nextP lw lc now).2.2]) ∧ Below w.heap.size w w' := by
  unfold nextP
  cases h : (timeB lw && timeB lc)
  · rw [if_pos rfl]
    exact refNext_range1 lw lc now w h
  · rw [if_neg (by decide)]
    have hb : 0 ≤ lc ∧ lc ≤ 1099511627776 := by
      have h' := h
      simp [timeB] at h'
      omega
    cases h2 : timeB now
    · rw [if_pos rfl]
      exact refNext_range2 lw lc now w h h2
    · rw [if_neg (by decide)]
      by_cases h3 : lw < now
      · rw [if_pos h3]
        exact refNext_wall lw lc now w h h2 h3
      · rw [if_neg h3]
        by_cases h4 : 1099511627776 < lc + 1
        · rw [if_pos h4]
          exact refNext_full lw lc now w h h2 h3 hb.1 hb.2 h4
        · rw [if_neg h4]
          exact refNext_count lw lc now w h h2 h3 hb.1 hb.2 h4
theorem refCovers_is {a0 a1 a2 a3 b0 b1 b2 b3 : Int} {v : Bool} (h : covB a0 a1 a2 a3 b0 b1 b2 b3 = v) (w : World) :
    Calls Tryz.prog 49 #[.agg #[.int .i64 a0, .int .i64 a1, .int .i64 a2, .int .i64 a3], .agg #[.int .i64 b0, .int .i64 b1, .int .i64 b2, .int .i64 b3]] w fun e w' => e = .returned (.bool v) ∧ Below w.heap.size w w' := by
  subst h
  exact refCovers_any a0 a1 a2 a3 b0 b1 b2 b3 w

/-- what a commit answers: the error -/
def commitE (S : SiteS) (n : Nat) (now d0 d1 d2 d3 : Int) (ws : List Wr) : Int :=
  if okWs ws = false then 1 else if timesB d0 d1 d2 d3 = false then 10 else if covB S.a0 S.a1 S.a2 S.a3 d0 d1 d2 d3 = false then 10 else if 200 ≤ n then 12 else (nextP S.lw S.lc now).2.2
/-- and the transaction -/
def commitT (S : SiteS) (now d0 d1 d2 d3 : Int) (ws : List Wr) : TxP :=
  ⟨S.id, depOf S.id S.a0 S.a1 S.a2 S.a3 + 1, (nextP S.lw S.lc now).1, (nextP S.lw S.lc now).2.1, setV0 S.id (depOf S.id S.a0 S.a1 S.a2 S.a3) d0, setV1 S.id (depOf S.id S.a0 S.a1 S.a2 S.a3) d1, setV2 S.id (depOf S.id S.a0 S.a1 S.a2 S.a3) d2, setV3 S.id (depOf S.id S.a0 S.a1 S.a2 S.a3) d3, ws⟩

def txZ : List Value := [.int .i64 0, .int .i64 0, .int .i64 0, .int .i64 0, .int .i64 0, .int .i64 0, .int .i64 0, .int .i64 0, .slice none 0 0]
abbrev setTx (w : World) (b : Nat) (x0 x1 x2 x3 x4 x5 x6 x7 : Int) (v : Value) : World :=
  ((((((((w.setCell ⟨b, 0, none⟩ (.int .i64 x0)).setCell ⟨b, 1, none⟩ (.int .i64 x1)).setCell ⟨b, 2, none⟩ (.int .i64 x2)).setCell ⟨b, 3, none⟩ (.int .i64 x3)).setCell ⟨b, 4, none⟩ (.int .i64 x4)).setCell ⟨b, 5, none⟩ (.int .i64 x5)).setCell ⟨b, 6, none⟩ (.int .i64 x6)).setCell ⟨b, 7, none⟩ (.int .i64 x7)).setCell ⟨b, 8, none⟩ v
theorem tx_far {w W : World} {b : Nat} (h : Below w.heap.size w W) (hB : w.heap.size ≤ b) (x0 x1 x2 x3 x4 x5 x6 x7 : Int) (v : Value) : Below w.heap.size w (setTx W b x0 x1 x2 x3 x4 x5 x6 x7 v) :=
  ((((((((h.setCell hB _).setCell hB _).setCell hB _).setCell hB _).setCell hB _).setCell hB _).setCell hB _).setCell hB _).setCell hB _
theorem tx_set {W : World} {b : Nat} {xs : List Value} (h : RowL W b xs) (hx : xs.length = 9) (x0 x1 x2 x3 x4 x5 x6 x7 : Int) (v : Value) : RowL (setTx W b x0 x1 x2 x3 x4 x5 x6 x7 v) b [.int .i64 x0, .int .i64 x1, .int .i64 x2, .int .i64 x3, .int .i64 x4, .int .i64 x5, .int .i64 x6, .int .i64 x7, v] := by
  match xs, hx with
  | [_, _, _, _, _, _, _, _, _], _ => exact ((((((((h.set 0 _ (by simp)).set 1 _ (by simp)).set 2 _ (by simp)).set 3 _ (by simp)).set 4 _ (by simp)).set 5 _ (by simp)).set 6 _ (by simp)).set 7 _ (by simp)).set 8 _ (by simp)
theorem commit_results {tmps : Array Value} {w : World} {b : Nat} {x0 x1 x2 x3 x4 x5 x6 x7 ev : Int} {a : Option Addr} {n c : Nat} (h : RowL w b [.int .i64 x0, .int .i64 x1, .int .i64 x2, .int .i64 x3, .int .i64 x4, .int .i64 x5, .int .i64 x6, .int .i64 x7, .slice a n c]) (h2 : tmps[8]? = some (.pointer (some ⟨b, 0, none⟩))) (h3 : tmps[9]? = some (.int .i64 ev)) :
    (results Tryz.f8 tmps).run Tryz.prog w = .ok (.tuple #[.agg #[.int .i64 x0, .int .i64 x1, .int .i64 x2, .int .i64 x3, .int .i64 x4, .int .i64 x5, .int .i64 x6, .int .i64 x7, .slice a n c], .int .i64 ev]) w := by
  have z0 := h.cell 0 _ rfl
  have z1 := h.cell 1 _ rfl
  have z2 := h.cell 2 _ rfl
  have z3 := h.cell 3 _ rfl
  have z4 := h.cell 4 _ rfl
  have z5 := h.cell 5 _ rfl
  have z6 := h.cell 6 _ rfl
  have z7 := h.cell 7 _ rfl
  have z8 := h.cell 8 _ rfl
  simp [results, Tryz.results8, go_sem, h2, h3, z0, z1, z2, z3, z4, z5, z6, z7, z8]

theorem vec_free {w : World} {b : Nat} {a0 a1 a2 a3 s : Int} (h : Row4 w b a0 a1 a2 a3) (h0 : 0 ≤ s) (h3 : s ≤ 3) : w.frozen? ⟨b, s.toNat, none⟩ = false := by
  have hc : s = 0 ∨ s = 1 ∨ s = 2 ∨ s = 3 := by omega
  rcases hc with rfl | rfl | rfl | rfl
  · exact h.f0
  · exact h.f1
  · exact h.f2
  · exact h.f3
theorem vec_set {w : World} {b : Nat} {a0 a1 a2 a3 s : Int} (h : Row4 w b a0 a1 a2 a3) (h0 : 0 ≤ s) (h3 : s ≤ 3) (x : Int) : Row4 (w.setCell ⟨b, s.toNat, none⟩ (.int .i64 x)) b (setV0 s x a0) (setV1 s x a1) (setV2 s x a2) (setV3 s x a3) := by
  have hc : s = 0 ∨ s = 1 ∨ s = 2 ∨ s = 3 := by omega
  rcases hc with rfl | rfl | rfl | rfl
  · exact h.set0 x
  · exact h.set1 x
  · exact h.set2 x
  · exact h.set3 x
theorem site_at {w : World} {b : Nat} {S : SiteS} {lv wv sv : Value} {s : Int} (h : RowL w b (siteC S lv wv sv)) (h0 : 0 ≤ s) (h3 : s ≤ 3) : w.cell? ⟨b, 1 + s.toNat, none⟩ = some (.int .i64 (depOf s S.a0 S.a1 S.a2 S.a3)) := by
  have hc : s = 0 ∨ s = 1 ∨ s = 2 ∨ s = 3 := by omega
  rcases hc with rfl | rfl | rfl | rfl
  · exact h.cell 1 _ rfl
  · exact h.cell 2 _ rfl
  · exact h.cell 3 _ rfl
  · exact h.cell 4 _ rfl

/-- what is left behind a commit -/
def CommitOut (w : World) (b : Nat) (lv wv sv : Value) (S : SiteS) (log waits : List TxM) (now d0 d1 d2 d3 : Int) (ws : List Wr) (e : Ending) (w' : World) : Prop :=
  (commitE S log.length now d0 d1 d2 d3 ws ≠ 0 ∧ e = .returned (.tuple #[.agg #[.int .i64 0, .int .i64 0, .int .i64 0, .int .i64 0, .int .i64 0, .int .i64 0, .int .i64 0, .int .i64 0, .slice none 0 0], .int .i64 (commitE S log.length now d0 d1 d2 d3 ws)]) ∧ Below w.heap.size w w') ∨
  (commitE S log.length now d0 d1 d2 d3 ws = 0 ∧ ∃ (wa : Option Addr) (wc : Nat) (lv' sv' : Value), e = .returned (.tuple #[.agg (txC ⟨commitT S now d0 d1 d2 d3 ws, wa, wc⟩).toArray, .int .i64 0]) ∧
    SMem w' b lv' wv sv' (applyS S (commitT S now d0 d1 d2 d3 ws)) (log ++ [⟨commitT S now d0 d1 d2 d3 ws, wa, wc⟩]) waits ∧ (∀ k, footS b lv' wv sv' k → footS b lv wv sv k ∨ w.heap.size ≤ k) ∧ Touch (footS b lv wv sv) w w')

set_option maxRecDepth 100000 in
set_option maxHeartbeats 8000000 in
theorem refCommit_no {b : Nat} {lv wv sv : Value} {S : SiteS} {log waits : List TxM} (now d0 d1 d2 d3 : Int) {a : Option Addr} {cap : Nat} {ws : List Wr} (w : World) (h : SMem w b lv wv sv S log waits) (hW : WrIn w a cap ws) (hne0 : commitE S log.length now d0 d1 d2 d3 ws ≠ 0) :
    Calls Tryz.prog 8 #[.pointer (some ⟨b, 0, none⟩), .int .i64 now, .agg #[.int .i64 d0, .int .i64 d1, .int .i64 d2, .int .i64 d3], .slice a ws.length cap] w (CommitOut w b lv wv sv S log waits now d0 d1 d2 d3 ws) := by
  obtain ⟨la, lc, rfl, hT⟩ := txsIn_own h.rlog
  have hc1 := hT.len
  have hc2 := hT.cap
  have RD := (Row4.new w 32 d0 d1 d2 d3).boxed (.cells #[.int .i64 0, .int .i64 0, .int .i64 0, .int .i64 0, .int .i64 0, .int .i64 0, .int .i64 0, .int .i64 0, .slice none 0 0] 44)
  have RT : RowL ((w.alloc (.cells #[.int .i64 d0, .int .i64 d1, .int .i64 d2, .int .i64 d3] 32)).alloc (.cells #[.int .i64 0, .int .i64 0, .int .i64 0, .int .i64 0, .int .i64 0, .int .i64 0, .int .i64 0, .int .i64 0, .slice none 0 0] 44)) (w.heap.size + 1) txZ := RowL.new (w := w.alloc (.cells #[.int .i64 d0, .int .i64 d1, .int .i64 d2, .int .i64 d3] 32)) (T := 44) (n := w.heap.size + 1) [.int .i64 0, .int .i64 0, .int .i64 0, .int .i64 0, .int .i64 0, .int .i64 0, .int .i64 0, .int .i64 0, .slice none 0 0] (by simp)
  have hb := boxed (boxed (Below.refl _ w) (.cells #[.int .i64 d0, .int .i64 d1, .int .i64 d2, .int .i64 d3] 32)) (.cells #[.int .i64 0, .int .i64 0, .int .i64 0, .int .i64 0, .int .i64 0, .int .i64 0, .int .i64 0, .int .i64 0, .slice none 0 0] 44)
  have WI := hW.later hb
  have HH : Hid (SMem w b (.slice la log.length lc) wv sv S log waits) := h
  have HW : Hid (WrIn w a cap ws) := hW
  have hB : w.heap.size ≤ w.heap.size + 1 := by omega
  have HNE : Hid (commitE S log.length now d0 d1 d2 d3 ws ≠ 0) := hne0
  clear h hW hne0
  go_enter Tryz.func8, Tryz.ntmps8
  go_wp2_with fail
  refine (refRightW_any WI).mono ?_
  rintro e w1 ⟨rfl, hb1⟩
  replace RD := RD.later hb1
  replace RT := RT.later hb1
  replace hb := behind hb hb1
  clear hb1 WI
  have OUT : ∀ (w9 : World) (ev : Int), commitE S log.length now d0 d1 d2 d3 ws = ev → ev ≠ 0 → Below w.heap.size w w9 → Hid (CommitOut w b (.slice la log.length lc) wv sv S log waits now d0 d1 d2 d3 ws (.returned (.tuple #[.agg #[.int .i64 0, .int .i64 0, .int .i64 0, .int .i64 0, .int .i64 0, .int .i64 0, .int .i64 0, .int .i64 0, .slice none 0 0], .int .i64 ev])) w9) := fun w9 ev h1 h2 h3 => .inl ⟨by rw [h1]; exact h2, by rw [h1], h3⟩
  cases hok : okWs ws
  · have E : Hid (commitE S log.length now d0 d1 d2 d3 ws = 1) := by show commitE S log.length now d0 d1 d2 d3 ws = 1; unfold commitE; rw [if_pos hok]
    have r0 := RT.cell 0 _ rfl
    have p0 := RT.free 0 (by simp [txZ])
    have r1 := RT.cell 1 _ rfl
    have p1 := RT.free 1 (by simp [txZ])
    have r2 := RT.cell 2 _ rfl
    have p2 := RT.free 2 (by simp [txZ])
    have r3 := RT.cell 3 _ rfl
    have p3 := RT.free 3 (by simp [txZ])
    have r4 := RT.cell 4 _ rfl
    have p4 := RT.free 4 (by simp [txZ])
    have r5 := RT.cell 5 _ rfl
    have p5 := RT.free 5 (by simp [txZ])
    have r6 := RT.cell 6 _ rfl
    have p6 := RT.free 6 (by simp [txZ])
    have r7 := RT.cell 7 _ rfl
    have p7 := RT.free 7 (by simp [txZ])
    have r8 := RT.cell 8 _ rfl
    have p8 := RT.free 8 (by simp [txZ])
    have RZ := tx_set RT rfl 0 0 0 0 0 0 0 0 (.slice none 0 0)
    have hbZ := tx_far hb hB 0 0 0 0 0 0 0 0 (.slice none 0 0)
    have FIN := OUT _ 1 E.out (by decide) hbZ
    clear OUT hok
    go_wp2_with fail
    exact bodyPost_ret (commit_results RZ rfl rfl) rfl FIN.out
  · have HOK : Hid (okWs ws = true) := hok
    clear hok
    have M1 : Hid (SMem w1 b (.slice la log.length lc) wv sv S log waits) := HH.out.later hb
    have c0 := Later.cell RD.c0
    have c1 := Later.cell RD.c1
    have c2 := Later.cell RD.c2
    have c3 := Later.cell RD.c3
    have k1 := Later.cell (M1.out.box.cell 1 _ rfl)
    have k2 := Later.cell (M1.out.box.cell 2 _ rfl)
    have k3 := Later.cell (M1.out.box.cell 3 _ rfl)
    have k4 := Later.cell (M1.out.box.cell 4 _ rfl)
    cases hv : timesB d0 d1 d2 d3
    · have HV : Hid (timesB d0 d1 d2 d3 = false) := hv
      have E : Hid (commitE S log.length now d0 d1 d2 d3 ws = 10) := by show commitE S log.length now d0 d1 d2 d3 ws = 10; unfold commitE; rw [if_neg (by rw [HOK.out]; decide), if_pos hv]
      clear hv
      go_wp2_with fail
      refine wp_region_later (by kernel_rfl) (by kernel_rfl) ?_
      repeat (go_big_quiet_step (first | rfl | (go_at_call 48; with_reducible exact calls_later (refRightVec_is HV.out _))))
      refine wpQuiet_nil ?_
      rintro w2 ⟨⟨_, hb2⟩, rfl⟩
      replace RT := RT.later hb2
      replace hb := behind hb hb2
      clear hb2 c0 c1 c2 c3 k1 k2 k3 k4 M1
      have r0 := RT.cell 0 _ rfl
      have p0 := RT.free 0 (by simp [txZ])
      have r1 := RT.cell 1 _ rfl
      have p1 := RT.free 1 (by simp [txZ])
      have r2 := RT.cell 2 _ rfl
      have p2 := RT.free 2 (by simp [txZ])
      have r3 := RT.cell 3 _ rfl
      have p3 := RT.free 3 (by simp [txZ])
      have r4 := RT.cell 4 _ rfl
      have p4 := RT.free 4 (by simp [txZ])
      have r5 := RT.cell 5 _ rfl
      have p5 := RT.free 5 (by simp [txZ])
      have r6 := RT.cell 6 _ rfl
      have p6 := RT.free 6 (by simp [txZ])
      have r7 := RT.cell 7 _ rfl
      have p7 := RT.free 7 (by simp [txZ])
      have r8 := RT.cell 8 _ rfl
      have p8 := RT.free 8 (by simp [txZ])
      have RZ := tx_set RT rfl 0 0 0 0 0 0 0 0 (.slice none 0 0)
      have hbZ := tx_far hb hB 0 0 0 0 0 0 0 0 (.slice none 0 0)
      have FIN := OUT _ 10 E.out (by decide) hbZ
      clear OUT
      go_wp2_with fail
      exact bodyPost_ret (commit_results RZ rfl rfl) rfl FIN.out
    · have HV : Hid (timesB d0 d1 d2 d3 = true) := hv
      clear hv
      cases hc : covB S.a0 S.a1 S.a2 S.a3 d0 d1 d2 d3
      · have HC : Hid (covB S.a0 S.a1 S.a2 S.a3 d0 d1 d2 d3 = false) := hc
        have E : Hid (commitE S log.length now d0 d1 d2 d3 ws = 10) := by show commitE S log.length now d0 d1 d2 d3 ws = 10; unfold commitE; rw [if_neg (by rw [HOK.out]; decide), if_neg (by rw [HV.out]; decide), if_pos hc]
        clear hc
        go_wp2_with fail
        refine wp_region_later (by kernel_rfl) (by kernel_rfl) ?_
        repeat (go_big_quiet_step (first | rfl | (go_at_call 48; with_reducible exact calls_later (refRightVec_is HV.out _)) | (go_at_call 49; with_reducible exact calls_later (refCovers_is HC.out _))))
        refine wpQuiet_nil ?_
        rintro w2 ⟨⟨_, hb2⟩, rfl⟩
        replace RT := RT.later hb2
        replace hb := behind hb hb2
        clear hb2 c0 c1 c2 c3 k1 k2 k3 k4 M1
        have r0 := RT.cell 0 _ rfl
        have p0 := RT.free 0 (by simp [txZ])
        have r1 := RT.cell 1 _ rfl
        have p1 := RT.free 1 (by simp [txZ])
        have r2 := RT.cell 2 _ rfl
        have p2 := RT.free 2 (by simp [txZ])
        have r3 := RT.cell 3 _ rfl
        have p3 := RT.free 3 (by simp [txZ])
        have r4 := RT.cell 4 _ rfl
        have p4 := RT.free 4 (by simp [txZ])
        have r5 := RT.cell 5 _ rfl
        have p5 := RT.free 5 (by simp [txZ])
        have r6 := RT.cell 6 _ rfl
        have p6 := RT.free 6 (by simp [txZ])
        have r7 := RT.cell 7 _ rfl
        have p7 := RT.free 7 (by simp [txZ])
        have r8 := RT.cell 8 _ rfl
        have p8 := RT.free 8 (by simp [txZ])
        have RZ := tx_set RT rfl 0 0 0 0 0 0 0 0 (.slice none 0 0)
        have hbZ := tx_far hb hB 0 0 0 0 0 0 0 0 (.slice none 0 0)
        have FIN := OUT _ 10 E.out (by decide) hbZ
        clear OUT
        go_wp2_with fail
        exact bodyPost_ret (commit_results RZ rfl rfl) rfl FIN.out
      · have HC : Hid (covB S.a0 S.a1 S.a2 S.a3 d0 d1 d2 d3 = true) := hc
        clear hc
        go_wp2_with fail
        refine wp_region_later (by kernel_rfl) (by kernel_rfl) ?_
        repeat (go_big_quiet_step (first | rfl | (go_at_call 48; with_reducible exact calls_later (refRightVec_is HV.out _)) | (go_at_call 49; with_reducible exact calls_later (refCovers_is HC.out _))))
        refine wpQuiet_nil ?_
        rintro w2 ⟨⟨_, hb2⟩, rfl⟩
        replace RT := RT.later hb2
        replace RD := RD.later hb2
        replace hb := behind hb hb2
        have M2 : Hid (SMem w2 b (.slice la log.length lc) wv sv S log waits) := M1.out.later hb2
        clear hb2 c0 c1 c2 c3 k1 k2 k3 k4 M1
        have s7 := M2.out.box.cell 7 _ rfl
        by_cases hn : 200 ≤ log.length
        · have E : Hid (commitE S log.length now d0 d1 d2 d3 ws = 12) := by show commitE S log.length now d0 d1 d2 d3 ws = 12; unfold commitE; rw [if_neg (by rw [HOK.out]; decide), if_neg (by rw [HV.out]; decide), if_neg (by rw [HC.out]; decide), if_pos hn]
          have h200 : (200 : Int) ≤ (log.length : Int) := by omega
          have r0 := RT.cell 0 _ rfl
          have p0 := RT.free 0 (by simp [txZ])
          have r1 := RT.cell 1 _ rfl
          have p1 := RT.free 1 (by simp [txZ])
          have r2 := RT.cell 2 _ rfl
          have p2 := RT.free 2 (by simp [txZ])
          have r3 := RT.cell 3 _ rfl
          have p3 := RT.free 3 (by simp [txZ])
          have r4 := RT.cell 4 _ rfl
          have p4 := RT.free 4 (by simp [txZ])
          have r5 := RT.cell 5 _ rfl
          have p5 := RT.free 5 (by simp [txZ])
          have r6 := RT.cell 6 _ rfl
          have p6 := RT.free 6 (by simp [txZ])
          have r7 := RT.cell 7 _ rfl
          have p7 := RT.free 7 (by simp [txZ])
          have r8 := RT.cell 8 _ rfl
          have p8 := RT.free 8 (by simp [txZ])
          have RZ := tx_set RT rfl 0 0 0 0 0 0 0 0 (.slice none 0 0)
          have hbZ := tx_far hb hB 0 0 0 0 0 0 0 0 (.slice none 0 0)
          have FIN := OUT _ 12 E.out (by decide) hbZ
          clear OUT
          go_wp2_with fail
          exact bodyPost_ret (commit_results RZ rfl rfl) rfl FIN.out
        · have HN : Hid (commitE S log.length now d0 d1 d2 d3 ws = (nextP S.lw S.lc now).2.2) := by show commitE S log.length now d0 d1 d2 d3 ws = _; unfold commitE; rw [if_neg (by rw [HOK.out]; decide), if_neg (by rw [HV.out]; decide), if_neg (by rw [HC.out]; decide), if_neg hn]
          have h200 : ¬ (200 : Int) ≤ (log.length : Int) := by omega
          have k5 := M2.out.box.cell 5 _ rfl
          have k6 := M2.out.box.cell 6 _ rfl
          go_wp2_with fail
          refine (refNext_any S.lw S.lc now _).mono ?_
          rintro e w3 ⟨rfl, hb3⟩
          replace RT := RT.later hb3
          replace RD := RD.later hb3
          replace hb := behind hb hb3
          have M3 : Hid (SMem w3 b (.slice la log.length lc) wv sv S log waits) := M2.out.later hb3
          clear hb3 M2 s7 k5 k6
          obtain ⟨⟨nw, nc, ne⟩, hnx⟩ : ∃ x, nextP S.lw S.lc now = x := ⟨_, rfl⟩
          have HNX : Hid (nextP S.lw S.lc now = (nw, nc, ne)) := hnx
          rw [hnx]
          rw [hnx] at HN
          clear hnx
          replace RT := RT.boxed (.cells #[.int .i64 nw, .int .i64 nc] 34)
          replace RD := RD.boxed (.cells #[.int .i64 nw, .int .i64 nc] 34)
          replace hb := boxed hb (.cells #[.int .i64 nw, .int .i64 nc] 34)
          have RS := RowL.new (w := w3) (T := 34) [.int .i64 nw, .int .i64 nc] rfl
          by_cases hne : ne ≠ 0
          · have h1 : (ne == 0) = false := by simp [hne]
            have h2 : (ne != 0) = true := by simp [hne]
            have r0 := RT.cell 0 _ rfl
            have p0 := RT.free 0 (by simp [txZ])
            have r1 := RT.cell 1 _ rfl
            have p1 := RT.free 1 (by simp [txZ])
            have r2 := RT.cell 2 _ rfl
            have p2 := RT.free 2 (by simp [txZ])
            have r3 := RT.cell 3 _ rfl
            have p3 := RT.free 3 (by simp [txZ])
            have r4 := RT.cell 4 _ rfl
            have p4 := RT.free 4 (by simp [txZ])
            have r5 := RT.cell 5 _ rfl
            have p5 := RT.free 5 (by simp [txZ])
            have r6 := RT.cell 6 _ rfl
            have p6 := RT.free 6 (by simp [txZ])
            have r7 := RT.cell 7 _ rfl
            have p7 := RT.free 7 (by simp [txZ])
            have r8 := RT.cell 8 _ rfl
            have p8 := RT.free 8 (by simp [txZ])
            have RZ := tx_set RT rfl 0 0 0 0 0 0 0 0 (.slice none 0 0)
            have hbZ := tx_far hb hB 0 0 0 0 0 0 0 0 (.slice none 0 0)
            have FIN := OUT _ ne HN.out (by exact hne) hbZ
            clear OUT
            go_wp2_with fail
            exact bodyPost_ret (commit_results RZ rfl rfl) rfl FIN.out
          · have he0 : ne = 0 := by omega
            subst he0
            exact absurd HN.out HNE.out

end Go.Proofs.YtplbdmcfghhbdaaGreatDoor

namespace Go.Proofs.YtplbdmcfghhbdaaGreatDoor
open Go.RowKit

theorem commitE_zero {S : SiteS} {n : Nat} {now d0 d1 d2 d3 : Int} {ws : List Wr} (h : commitE S n now d0 d1 d2 d3 ws = 0) : okWs ws = true ∧ timesB d0 d1 d2 d3 = true ∧ covB S.a0 S.a1 S.a2 S.a3 d0 d1 d2 d3 = true ∧ ¬ 200 ≤ n ∧ (nextP S.lw S.lc now).2.2 = 0 := by
  unfold commitE at h
  cases h1 : okWs ws
  · rw [if_pos h1] at h; cases h
  · rw [if_neg (by rw [h1]; decide)] at h
    cases h2 : timesB d0 d1 d2 d3
    · rw [if_pos h2] at h; cases h
    · rw [if_neg (by rw [h2]; decide)] at h
      cases h3 : covB S.a0 S.a1 S.a2 S.a3 d0 d1 d2 d3
      · rw [if_pos h3] at h; cases h
      · rw [if_neg (by rw [h3]; decide)] at h
        by_cases h4 : 200 ≤ n
        · rw [if_pos h4] at h; cases h
        · rw [if_neg h4] at h
          exact ⟨rfl, rfl, rfl, h4, h⟩

theorem news_wr {w : World} {b off : Nat} {l : List Wr} (h : WrCells w b off l) : ∀ j u, (wrsC l)[j]? = some u → w.cell? ((⟨b, off, none⟩ : Addr).add j) = some u := fun j u hu => by
  have hadd : (⟨b, off, none⟩ : Addr).add j = ⟨b, off + j, none⟩ := by unfold Addr.add; split <;> simp_all
  have hj : j < l.length * 3 := by
    have := (List.getElem?_eq_some_iff.1 hu).1
    rw [wrsC_length] at this
    exact this
  have hi : j / 3 < l.length := by omega
  obtain ⟨a0, a1, a2⟩ := wrsC_at l (j / 3) hi
  obtain ⟨c0, c1, c2⟩ := h (j / 3) hi
  rw [hadd]
  have hr : j = j / 3 * 3 ∨ j = j / 3 * 3 + 1 ∨ j = j / 3 * 3 + 2 := by omega
  rcases hr with e | e | e
  · rw [← e] at a0 c0
    rw [a0] at hu
    injection hu with hu
    rw [← hu]
    exact c0
  · rw [← e] at a1
    rw [Nat.add_assoc, ← e] at c1
    rw [a1] at hu
    injection hu with hu
    rw [← hu]
    exact c1
  · rw [show j / 3 * 3 + 1 + 1 = j / 3 * 3 + 2 from rfl, ← e] at a2
    rw [show off + j / 3 * 3 + 1 + 1 = off + (j / 3 * 3 + 2) by omega, ← e] at c2
    rw [a2] at hu
    injection hu with hu
    rw [← hu]
    exact c2
theorem wrsC_one (l : List Wr) : ∀ u ∈ wrsC l, u.oneCell' = true := by
  intro u hu
  obtain ⟨x, _, hx⟩ := List.mem_flatMap.1 hu
  simp [wrC] at hx
  rcases hx with rfl | rfl | rfl <;> rfl
theorem wrInfo : (Tryz.prog.info? 83).map (fun i => (i.zero, i.size, i.bytes)) = some (some (.agg #[.int .i64 0, .string ⟨#[]⟩, .bool false]), 3, 32) := by kernel_rfl
theorem own_none (w : World) {n : Nat} (T : TypeId) (hn : w.heap.size = n) (B : Nat) (hB : B ≤ n) : (w.alloc (.cells #[] T)).ownsRow B T 3 (.slice (some ⟨n, 0, none⟩) 0 0) 0 [] := by
  subst hn
  exact ⟨rfl, .inr ⟨w.heap.size, 0, #[], rfl, hB, heap_alloc_new w (.cells #[] T), Nat.le_refl _, by decide, rfl, rfl⟩⟩

end Go.Proofs.YtplbdmcfghhbdaaGreatDoor

namespace Go.Proofs.YtplbdmcfghhbdaaGreatDoor
open Go.RowKit

/-- what is read at a site: the version, and the error -/
def readS (S : SiteS) (key a0 a1 a2 a3 : Int) : Ver × Int := if covB S.a0 S.a1 S.a2 S.a3 a0 a1 a2 a3 = true then readV key a0 a1 a2 a3 S.l else (ver0, 10)

theorem siteRead_results {tmps : Array Value} {w : World} {b : Nat} {v : Ver} {ev : Int} (h : RowL w b (verL v)) (h2 : tmps[6]? = some (.pointer (some ⟨b, 0, none⟩))) (h3 : tmps[7]? = some (.int .i64 ev)) :
    (results Tryz.f18 tmps).run Tryz.prog w = .ok (.tuple #[.agg (verL v).toArray, .int .i64 ev]) w := by
  have z0 := h.cell 0 _ rfl
  have z1 := h.cell 1 _ rfl
  have z2 := h.cell 2 _ rfl
  have z3 := h.cell 3 _ rfl
  have z4 := h.cell 4 _ rfl
  have z5 := h.cell 5 _ rfl
  simp [results, Tryz.results18, go_sem, h2, h3, z0, z1, z2, z3, z4, z5, verL]

/-- a version is written into a box behind a world's end -/
theorem ver_far {w W : World} {b : Nat} (h : Below w.heap.size w W) (hB : w.heap.size ≤ b) (x0 x1 x2 x3 : Int) (x4 : ByteArray) (x5 : Bool) : Below w.heap.size w ((((((W.setCell ⟨b, 0, none⟩ (.int .i64 x0)).setCell ⟨b, 1, none⟩ (.int .i64 x1)).setCell ⟨b, 2, none⟩ (.int .i64 x2)).setCell ⟨b, 3, none⟩ (.int .i64 x3)).setCell ⟨b, 4, none⟩ (.string x4)).setCell ⟨b, 5, none⟩ (.bool x5)) :=
  (((((h.setCell hB _).setCell hB _).setCell hB _).setCell hB _).setCell hB _).setCell hB _
theorem row4_ver {W : World} {b c : Nat} {a0 a1 a2 a3 : Int} (h : Row4 W b a0 a1 a2 a3) (hn : c ≠ b) (x0 x1 x2 x3 : Int) (x4 : ByteArray) (x5 : Bool) : Row4 ((((((W.setCell ⟨c, 0, none⟩ (.int .i64 x0)).setCell ⟨c, 1, none⟩ (.int .i64 x1)).setCell ⟨c, 2, none⟩ (.int .i64 x2)).setCell ⟨c, 3, none⟩ (.int .i64 x3)).setCell ⟨c, 4, none⟩ (.string x4)).setCell ⟨c, 5, none⟩ (.bool x5)) b a0 a1 a2 a3 :=
  (((((h.far ⟨c, 0, none⟩ _ hn).far ⟨c, 1, none⟩ _ hn).far ⟨c, 2, none⟩ _ hn).far ⟨c, 3, none⟩ _ hn).far ⟨c, 4, none⟩ _ hn).far ⟨c, 5, none⟩ _ hn
theorem ver_set {W : World} {b : Nat} (h : RowL W b (verL ver0)) (x0 x1 x2 x3 : Int) (x4 : ByteArray) (x5 : Bool) : RowL ((((((W.setCell ⟨b, 0, none⟩ (.int .i64 x0)).setCell ⟨b, 1, none⟩ (.int .i64 x1)).setCell ⟨b, 2, none⟩ (.int .i64 x2)).setCell ⟨b, 3, none⟩ (.int .i64 x3)).setCell ⟨b, 4, none⟩ (.string x4)).setCell ⟨b, 5, none⟩ (.bool x5)) b (verL ⟨x0, x1, x2, x3, x4, x5⟩) :=
  (((((h.set 0 _ (by simp [verL])).set 1 _ (by simp [verL])).set 2 _ (by simp [verL])).set 3 _ (by simp [verL])).set 4 _ (by simp [verL])).set 5 _ (by simp [verL])

set_option maxHeartbeats 4000000 in
theorem refSiteRead_any {b : Nat} {lv wv sv : Value} {S : SiteS} {log waits : List TxM} (key a0 a1 a2 a3 : Int) (w : World) (h : SMem w b lv wv sv S log waits) (hl : S.l.length ≤ 1000000) :
    Calls Tryz.prog 18 #[.pointer (some ⟨b, 0, none⟩), .int .i64 key, .agg #[.int .i64 a0, .int .i64 a1, .int .i64 a2, .int .i64 a3]] w fun e w' =>
      e = .returned (.tuple #[.agg (verL (readS S key a0 a1 a2 a3).1).toArray, .int .i64 (readS S key a0 a1 a2 a3).2]) ∧ Below w.heap.size w w' := by
  have RA := (Row4.new w 32 a0 a1 a2 a3).boxed (.cells #[.int .i64 0, .int .i64 0, .int .i64 0, .int .i64 0, .string ⟨#[]⟩, .bool false] 59)
  have RR : RowL ((w.alloc (.cells #[.int .i64 a0, .int .i64 a1, .int .i64 a2, .int .i64 a3] 32)).alloc (.cells #[.int .i64 0, .int .i64 0, .int .i64 0, .int .i64 0, .string ⟨#[]⟩, .bool false] 59)) (w.heap.size + 1) (verL ver0) := RowL.new (w := w.alloc (.cells #[.int .i64 a0, .int .i64 a1, .int .i64 a2, .int .i64 a3] 32)) (T := 59) (n := w.heap.size + 1) [.int .i64 0, .int .i64 0, .int .i64 0, .int .i64 0, .string ⟨#[]⟩, .bool false] (by simp)
  have hb := boxed (boxed (Below.refl _ w) (.cells #[.int .i64 a0, .int .i64 a1, .int .i64 a2, .int .i64 a3] 32)) (.cells #[.int .i64 0, .int .i64 0, .int .i64 0, .int .i64 0, .string ⟨#[]⟩, .bool false] 59)
  have M1 : Hid (SMem _ b lv wv sv S log waits) := h.later hb
  have HH : Hid (SMem w b lv wv sv S log waits) := h
  clear h
  have k1 := Later.cell (M1.out.box.cell 1 _ rfl)
  have k2 := Later.cell (M1.out.box.cell 2 _ rfl)
  have k3 := Later.cell (M1.out.box.cell 3 _ rfl)
  have k4 := Later.cell (M1.out.box.cell 4 _ rfl)
  have c0 := Later.cell RA.c0
  have c1 := Later.cell RA.c1
  have c2 := Later.cell RA.c2
  have c3 := Later.cell RA.c3
  go_enter Tryz.func18, Tryz.ntmps18
  go_wp2_with fail
  refine wp_region_later (by kernel_rfl) (by kernel_rfl) ?_
  repeat (go_big_quiet_step (first | rfl | (go_at_call 49; exact calls_later (refCovers_any _ _ _ _ _ _ _ _ _))))
  refine wpQuiet_nil ?_
  rintro w1 ⟨⟨_, hb1⟩, rfl⟩
  replace RR := RR.later hb1
  replace RA := Row4.later hb1 RA
  replace hb := behind hb hb1
  have M2 : Hid (SMem w1 b lv wv sv S log waits) := M1.out.later hb1
  clear M1 k1 k2 k3 k4 c0 c1 c2 c3 hb1
  cases hc : covB S.a0 S.a1 S.a2 S.a3 a0 a1 a2 a3
  · have RV : Hid (readS S key a0 a1 a2 a3 = (ver0, 10)) := by show readS S key a0 a1 a2 a3 = (ver0, 10); unfold readS; rw [hc]; rfl
    have r0 := RR.cell 0 _ rfl
    have p0 := RR.free 0 (by simp [verL])
    have r1 := RR.cell 1 _ rfl
    have p1 := RR.free 1 (by simp [verL])
    have r2 := RR.cell 2 _ rfl
    have p2 := RR.free 2 (by simp [verL])
    have r3 := RR.cell 3 _ rfl
    have p3 := RR.free 3 (by simp [verL])
    have r4 := RR.cell 4 _ rfl
    have p4 := RR.free 4 (by simp [verL])
    have r5 := RR.cell 5 _ rfl
    have p5 := RR.free 5 (by simp [verL])
    have RZ := ver_set RR 0 0 0 0 ⟨#[]⟩ false
    have hbZ := ver_far hb (show w.heap.size ≤ w.heap.size + 1 by omega) 0 0 0 0 ⟨#[]⟩ false
    clear hc
    go_wp2_with fail
    refine bodyPost_ret (siteRead_results (v := ver0) RZ rfl rfl) rfl ⟨?_, hbZ⟩
    rw [RV.out]
  · obtain ⟨⟨⟨wl, ct, st, sq, dt, gn⟩, ev⟩, hrv⟩ : ∃ x, readV key a0 a1 a2 a3 S.l = x := ⟨_, rfl⟩
    have RV : Hid (readS S key a0 a1 a2 a3 = (⟨wl, ct, st, sq, dt, gn⟩, ev)) := by show readS S key a0 a1 a2 a3 = _; unfold readS; rw [hc, ← hrv]; rfl
    obtain ⟨a, cap, esv, hC⟩ := hdIn_own M2.out.own
    have PR : Hid (Calls Tryz.prog 69 #[.pointer (some ⟨b, 9, none⟩), .int .i64 key, .agg #[.int .i64 a0, .int .i64 a1, .int .i64 a2, .int .i64 a3]] w1.drew fun e w' => e = .returned (.tuple #[.agg #[.int .i64 wl, .int .i64 ct, .int .i64 st, .int .i64 sq, .string dt, .bool gn], .int .i64 ev]) ∧ Row4 w' w.heap.size a0 a1 a2 a3 ∧ RowL w' (w.heap.size + 1) (verL ver0) ∧ Below w.heap.size w w') := by
      have s9 : w1.cell? ⟨b, 9, none⟩ = some (.slice a S.l.length cap) := by rw [← esv]; exact M2.out.box.cell 9 _ rfl
      refine (oRead_any key a0 a1 a2 a3 w1.drew s9 (hC.later (Below.refl _ w1).drew) M2.out.ok hl).mono ?_
      rintro e w' ⟨rfl, hb'⟩
      refine ⟨by rw [hrv]; rfl, Row4.later hb' RA.drew, RR.drew.later hb', behind hb.drew hb'⟩
    have HRV : Hid (readV key a0 a1 a2 a3 S.l = (⟨wl, ct, st, sq, dt, gn⟩, ev)) := hrv
    have T0 := fun (w' : World) (h : Row4 w' w.heap.size a0 a1 a2 a3) => h.c0
    have T1 := fun (w' : World) (h : Row4 w' w.heap.size a0 a1 a2 a3) => h.c1
    have T2 := fun (w' : World) (h : Row4 w' w.heap.size a0 a1 a2 a3) => h.c2
    have T3 := fun (w' : World) (h : Row4 w' w.heap.size a0 a1 a2 a3) => h.c3
    have RA0 := RA.drew
    have hne : w.heap.size + 1 ≠ w.heap.size := by omega
    clear hc hrv hC esv RA RR
    go_wp2_with fail
    go_region_held3 (fun w' => Row4 w' w.heap.size a0 a1 a2 a3) (first | (with_reducible assumption) | (with_reducible exact row4_ver (by with_reducible assumption) hne _ _ _ _ _ _))
      (first | (go_at_call 69; with_reducible refine PR.out.mono ?_; rintro e w5 ⟨rfl, RA5, RR5, hb5⟩; have r0 := RR5.cell 0 _ rfl; have p0 := RR5.free 0 (by simp [verL]); have r1 := RR5.cell 1 _ rfl; have p1 := RR5.free 1 (by simp [verL]); have r2 := RR5.cell 2 _ rfl; have p2 := RR5.free 2 (by simp [verL]); have r3 := RR5.cell 3 _ rfl; have p3 := RR5.free 3 (by simp [verL]); have r4 := RR5.cell 4 _ rfl; have p4 := RR5.free 4 (by simp [verL]); have r5 := RR5.cell 5 _ rfl; have p5 := RR5.free 5 (by simp [verL])))
    all_goals
      have RZ := ver_set RR5 wl ct st sq dt gn
      have hbZ := ver_far hb5 (show w.heap.size ≤ w.heap.size + 1 by omega) wl ct st sq dt gn
      go_wp2_with fail
      refine bodyPost_ret (siteRead_results (v := ⟨wl, ct, st, sq, dt, gn⟩) RZ rfl rfl) rfl ⟨?_, hbZ⟩
      rw [RV.out]

end Go.Proofs.YtplbdmcfghhbdaaGreatDoor

namespace Go.Proofs.YtplbdmcfghhbdaaGreatDoor
open Go.RowKit

/-- four numbers -/
structure V4 where
  v0 : Int
  v1 : Int
  v2 : Int
  v3 : Int
/-- the least of what it knows of the first sites -/
def stabS (S : SiteS) : Nat → V4
  | 0 => ⟨S.a0, S.a1, S.a2, S.a3⟩
  | k + 1 => if (k : Int) = S.id then stabS S k else ⟨minZ (stabS S k).v0 (S.oth (k * 4)), minZ (stabS S k).v1 (S.oth (k * 4 + 1)), minZ (stabS S k).v2 (S.oth (k * 4 + 2)), minZ (stabS S k).v3 (S.oth (k * 4 + 3))⟩
theorem oth_cells {S : SiteS} {lv wv sv : Value} {k : Nat} (hk : k < 4) : (siteC S lv wv sv)[10 + k * 4]? = some (.int .i64 (S.oth (k * 4))) ∧ (siteC S lv wv sv)[10 + k * 4 + 1]? = some (.int .i64 (S.oth (k * 4 + 1))) ∧ (siteC S lv wv sv)[10 + k * 4 + 2]? = some (.int .i64 (S.oth (k * 4 + 2))) ∧ (siteC S lv wv sv)[10 + k * 4 + 3]? = some (.int .i64 (S.oth (k * 4 + 3))) := by
  match k, hk with
  | 0, _ => exact ⟨rfl, rfl, rfl, rfl⟩
  | 1, _ => exact ⟨rfl, rfl, rfl, rfl⟩
  | 2, _ => exact ⟨rfl, rfl, rfl, rfl⟩
  | 3, _ => exact ⟨rfl, rfl, rfl, rfl⟩

theorem vec_far {w W : World} {b : Nat} (h : Below w.heap.size w W) (hB : w.heap.size ≤ b) (x0 x1 x2 x3 : Int) : Below w.heap.size w ((((W.setCell ⟨b, 0, none⟩ (.int .i64 x0)).setCell ⟨b, 1, none⟩ (.int .i64 x1)).setCell ⟨b, 2, none⟩ (.int .i64 x2)).setCell ⟨b, 3, none⟩ (.int .i64 x3)) :=
  (((h.setCell hB _).setCell hB _).setCell hB _).setCell hB _

/-- at the loop's head -/
structure StM (w : World) (S : SiteS) (k : Nat) (wr : World) : Prop where
  r : Row4 wr w.heap.size 0 0 0 0
  v : Row4 wr (w.heap.size + 1) (stabS S k).v0 (stabS S k).v1 (stabS S k).v2 (stabS S k).v3
  b : Below w.heap.size w wr

set_option maxHeartbeats 4000000 in
theorem refStable_any {b : Nat} {lv wv sv : Value} {S : SiteS} {log waits : List TxM} (sites : Int) (w : World) (h : SMem w b lv wv sv S log waits) (h0 : 0 ≤ sites) (h4 : sites ≤ 4) :
    Calls Tryz.prog 23 #[.pointer (some ⟨b, 0, none⟩), .int .i64 sites] w fun e w' =>
      e = .returned (.agg #[.int .i64 (stabS S sites.toNat).v0, .int .i64 (stabS S sites.toNat).v1, .int .i64 (stabS S sites.toNat).v2, .int .i64 (stabS S sites.toNat).v3]) ∧ Below w.heap.size w w' := by
  have RR := (Row4.new w 32 0 0 0 0).boxed (.cells #[.int .i64 S.a0, .int .i64 S.a1, .int .i64 S.a2, .int .i64 S.a3] 32)
  have RV := Row4.newest (w := w.alloc (.cells #[.int .i64 0, .int .i64 0, .int .i64 0, .int .i64 0] 32)) (T := 32) (n := w.heap.size + 1) (a0 := S.a0) (a1 := S.a1) (a2 := S.a2) (a3 := S.a3) (by simp)
  have hb := boxed (boxed (Below.refl _ w) (.cells #[.int .i64 0, .int .i64 0, .int .i64 0, .int .i64 0] 32)) (.cells #[.int .i64 S.a0, .int .i64 S.a1, .int .i64 S.a2, .int .i64 S.a3] 32)
  have HH : Hid (SMem w b lv wv sv S log waits) := h
  have hlt := h.box.lt
  have k1 := h.box.cell 1 _ rfl
  have k2 := h.box.cell 2 _ rfl
  have k3 := h.box.cell 3 _ rfl
  have k4 := h.box.cell 4 _ rfl
  clear h
  go_enter Tryz.func23, Tryz.ntmps23
  go_wp2_with fail
  have M0 : Hid (StM w S 0 ((w.alloc (.cells #[.int .i64 0, .int .i64 0, .int .i64 0, .int .i64 0] 32)).alloc (.cells #[.int .i64 S.a0, .int .i64 S.a1, .int .i64 S.a2, .int .i64 S.a3] 32))) := ⟨RR, RV, hb⟩
  obtain ⟨W, hWW⟩ : ∃ W, (w.alloc (.cells #[.int .i64 0, .int .i64 0, .int .i64 0, .int .i64 0] 32)).alloc (.cells #[.int .i64 S.a0, .int .i64 S.a1, .int .i64 S.a2, .int .i64 S.a3] 32) = W := ⟨_, rfl⟩
  rw [hWW] at M0 ⊢
  clear hWW RR RV hb k1 k2 k3 k4 hlt
  go_loopw [6] (fun iv wr => ∃ (k : Nat) (z : Int), k ≤ sites.toNat ∧ z = k ∧ iv = .int .i64 z ∧ Hid (StM w S k wr)) (fun i _ => 4 - (intOf i).toNat)
  case atStart => exact ⟨0, 0, by omega, rfl, rfl, M0⟩
  case round =>
    clear M0
    obtain ⟨k, z, hk, hz, rfl, AM⟩ := hrel
    have HZ : Hid (z = k) := hz
    by_cases hlt : k < sites.toNat
    · have h1 : z < sites := by omega
      have h2 : z < 4 := by omega
      have h5 : 0 ≤ z := by omega
      have h6 : z.toNat = k := by omega
      have hk4 : k < 4 := by omega
      have B1 := HH.out.later AM.out.b
      have i0 := B1.box.cell 0 _ rfl
      by_cases hid : z = S.id
      · have e : Hid (stabS S (k + 1) = stabS S k) := by
          show stabS S (k + 1) = stabS S k
          have : (k : Int) = S.id := by omega
          simp [stabS, this]
        have AM2 : Hid (StM w S (k + 1) wr) := ⟨AM.out.r, by rw [e.out]; exact AM.out.v, AM.out.b⟩
        have hd : (z == S.id) = true := by simp [hid]
        clear hz B1
        go_wp2_with fail
        go_roundw
        case rel => exact ⟨k + 1, z + 1, by omega, by have := HZ.out; omega, by go_num, AM2⟩
        case measure => simp [intOf]; omega
      · have hd : (z == S.id) = false := by simp [hid]
        obtain ⟨o0, o1, o2, o3⟩ := oth_cells (S := S) (lv := lv) (wv := wv) (sv := sv) hk4
        have q0 := B1.box.cell _ _ o0
        have q1 := B1.box.cell _ _ o1
        have q2 := B1.box.cell _ _ o2
        have q3 := B1.box.cell _ _ o3
        obtain ⟨⟨v0, v1, v2, v3⟩, hv⟩ : ∃ v, stabS S k = v := ⟨_, rfl⟩
        obtain ⟨p0, hp0⟩ : ∃ x, S.oth (k * 4) = x := ⟨_, rfl⟩
        obtain ⟨p1, hp1⟩ : ∃ x, S.oth (k * 4 + 1) = x := ⟨_, rfl⟩
        obtain ⟨p2, hp2⟩ : ∃ x, S.oth (k * 4 + 2) = x := ⟨_, rfl⟩
        obtain ⟨p3, hp3⟩ : ∃ x, S.oth (k * 4 + 3) = x := ⟨_, rfl⟩
        have EQ : Hid (stabS S (k + 1) = ⟨minZ v0 p0, minZ v1 p1, minZ v2 p2, minZ v3 p3⟩) := by
          show stabS S (k + 1) = _
          have : ¬ (k : Int) = S.id := by omega
          simp [stabS, this, hv, hp0, hp1, hp2, hp3]
        rw [hp0] at q0
        rw [hp1] at q1
        rw [hp2] at q2
        rw [hp3] at q3
        have VV : Row4 wr (w.heap.size + 1) v0 v1 v2 v3 := by have := AM.out.v; rw [hv] at this; exact this
        have x0 := VV.c0
        have x1 := VV.c1
        have x2 := VV.c2
        have x3 := VV.c3
        have PU : Hid (Calls Tryz.prog 17 #[.agg #[.int .i64 v0, .int .i64 v1, .int .i64 v2, .int .i64 v3], .agg #[.int .i64 p0, .int .i64 p1, .int .i64 p2, .int .i64 p3]] wr.drew fun e w' => e = .returned (.agg #[.int .i64 (minZ v0 p0), .int .i64 (minZ v1 p1), .int .i64 (minZ v2 p2), .int .i64 (minZ v3 p3)]) ∧ Row4 w' w.heap.size 0 0 0 0 ∧ Row4 w' (w.heap.size + 1) v0 v1 v2 v3 ∧ Below w.heap.size w w') :=
          (refMin_any v0 v1 v2 v3 p0 p1 p2 p3 wr.drew).mono fun e w' ⟨he, hb'⟩ => ⟨he, Row4.later hb' AM.out.r.drew, Row4.later hb' VV.drew, behind AM.out.b.drew hb'⟩
        have hB : w.heap.size ≤ w.heap.size + 1 := by omega
        have hBB := AM.out.b.drew
        clear hz B1 o0 o1 o2 o3 hv hp0 hp1 hp2 hp3 VV AM hid
        go_wp2_with fail
        go_region_with
          (first | (go_at_call 17; with_reducible refine PU.out.mono ?_; rintro e w5 ⟨rfl, RR5, RV5, hb5⟩; have y0 := RV5.c0; have y1 := RV5.c1; have y2 := RV5.c2; have y3 := RV5.c3; have z0 := RV5.f0; have z1 := RV5.f1; have z2 := RV5.f2; have z3 := RV5.f3))
        all_goals
          have SM : Hid (StM w S (k + 1) ((((w5.setCell ⟨w.heap.size + 1, 0, none⟩ (.int .i64 (minZ v0 p0))).setCell ⟨w.heap.size + 1, 1, none⟩ (.int .i64 (minZ v1 p1))).setCell ⟨w.heap.size + 1, 2, none⟩ (.int .i64 (minZ v2 p2))).setCell ⟨w.heap.size + 1, 3, none⟩ (.int .i64 (minZ v3 p3)))) :=
            ⟨RR5.far4 (by omega), by rw [EQ.out]; exact RV5.set, vec_far hb5 hB _ _ _ _⟩
          go_wp2_with fail
          go_roundw
          case rel => exact ⟨k + 1, z + 1, by omega, by have := HZ.out; omega, by go_num, SM⟩
          case measure => simp [intOf]; omega
    · have hke : k = sites.toNat := by omega
      have h1 : ¬ z < sites := by omega
      subst hke
      have r0 := AM.out.r.c0
      have r1 := AM.out.r.c1
      have r2 := AM.out.r.c2
      have r3 := AM.out.r.c3
      have f0 := AM.out.r.f0
      have f1 := AM.out.r.f1
      have f2 := AM.out.r.f2
      have f3 := AM.out.r.f3
      have x0 := AM.out.v.c0
      have x1 := AM.out.v.c1
      have x2 := AM.out.v.c2
      have x3 := AM.out.v.c3
      have RZ := AM.out.r.set (x0 := (stabS S sites.toNat).v0) (x1 := (stabS S sites.toNat).v1) (x2 := (stabS S sites.toNat).v2) (x3 := (stabS S sites.toNat).v3)
      have hbZ := vec_far AM.out.b (Nat.le_refl _) (stabS S sites.toNat).v0 (stabS S sites.toNat).v1 (stabS S sites.toNat).v2 (stabS S sites.toNat).v3
      have g0 := RZ.c0
      have g1 := RZ.c1
      have g2 := RZ.c2
      have g3 := RZ.c3
      clear hz
      go_wp2_with fail
      exact bodyPost_ret (v := .agg #[.int .i64 (stabS S sites.toNat).v0, .int .i64 (stabS S sites.toNat).v1, .int .i64 (stabS S sites.toNat).v2, .int .i64 (stabS S sites.toNat).v3]) (by simp [results, Tryz.results23, go_sem, g0, g1, g2, g3]) rfl ⟨rfl, hbZ⟩

end Go.Proofs.YtplbdmcfghhbdaaGreatDoor

namespace Go.Proofs.YtplbdmcfghhbdaaGreatDoor
open Go.RowKit

/-- cut to what may be -/
def cutN (n : Int) : Nat := min 4 n.toNat
set_option maxHeartbeats 4000000 in
theorem refStable_all {b : Nat} {lv wv sv : Value} {S : SiteS} {log waits : List TxM} (sites : Int) (w : World) (h : SMem w b lv wv sv S log waits) :
    Calls Tryz.prog 23 #[.pointer (some ⟨b, 0, none⟩), .int .i64 sites] w fun e w' =>
      e = .returned (.agg #[.int .i64 (stabS S (cutN sites)).v0, .int .i64 (stabS S (cutN sites)).v1, .int .i64 (stabS S (cutN sites)).v2, .int .i64 (stabS S (cutN sites)).v3]) ∧ Below w.heap.size w w' := by
  have RR := (Row4.new w 32 0 0 0 0).boxed (.cells #[.int .i64 S.a0, .int .i64 S.a1, .int .i64 S.a2, .int .i64 S.a3] 32)
  have RV := Row4.newest (w := w.alloc (.cells #[.int .i64 0, .int .i64 0, .int .i64 0, .int .i64 0] 32)) (T := 32) (n := w.heap.size + 1) (a0 := S.a0) (a1 := S.a1) (a2 := S.a2) (a3 := S.a3) (by simp)
  have hb := boxed (boxed (Below.refl _ w) (.cells #[.int .i64 0, .int .i64 0, .int .i64 0, .int .i64 0] 32)) (.cells #[.int .i64 S.a0, .int .i64 S.a1, .int .i64 S.a2, .int .i64 S.a3] 32)
  have HH : Hid (SMem w b lv wv sv S log waits) := h
  have hlt := h.box.lt
  have k1 := h.box.cell 1 _ rfl
  have k2 := h.box.cell 2 _ rfl
  have k3 := h.box.cell 3 _ rfl
  have k4 := h.box.cell 4 _ rfl
  clear h
  go_enter Tryz.func23, Tryz.ntmps23
  go_wp2_with fail
  have M0 : Hid (StM w S 0 ((w.alloc (.cells #[.int .i64 0, .int .i64 0, .int .i64 0, .int .i64 0] 32)).alloc (.cells #[.int .i64 S.a0, .int .i64 S.a1, .int .i64 S.a2, .int .i64 S.a3] 32))) := ⟨RR, RV, hb⟩
  obtain ⟨W, hWW⟩ : ∃ W, (w.alloc (.cells #[.int .i64 0, .int .i64 0, .int .i64 0, .int .i64 0] 32)).alloc (.cells #[.int .i64 S.a0, .int .i64 S.a1, .int .i64 S.a2, .int .i64 S.a3] 32) = W := ⟨_, rfl⟩
  rw [hWW] at M0 ⊢
  clear hWW RR RV hb k1 k2 k3 k4 hlt
  go_loopw [6] (fun iv wr => ∃ (k : Nat) (z : Int), k ≤ (cutN sites) ∧ z = k ∧ iv = .int .i64 z ∧ Hid (StM w S k wr)) (fun i _ => 4 - (intOf i).toNat)
  case atStart => exact ⟨0, 0, by omega, rfl, rfl, M0⟩
  case round =>
    clear M0
    obtain ⟨k, z, hk, hz, rfl, AM⟩ := hrel
    have HZ : Hid (z = k) := hz
    have hcut : (cutN sites) = min 4 sites.toNat := rfl
    by_cases hlt : k < (cutN sites)
    · have h1 : z < sites := by omega
      have h2 : z < 4 := by omega
      have h5 : 0 ≤ z := by omega
      have h6 : z.toNat = k := by omega
      have hk4 : k < 4 := by omega
      clear hcut
      have B1 := HH.out.later AM.out.b
      have i0 := B1.box.cell 0 _ rfl
      by_cases hid : z = S.id
      · have e : Hid (stabS S (k + 1) = stabS S k) := by
          show stabS S (k + 1) = stabS S k
          have : (k : Int) = S.id := by omega
          simp [stabS, this]
        have AM2 : Hid (StM w S (k + 1) wr) := ⟨AM.out.r, by rw [e.out]; exact AM.out.v, AM.out.b⟩
        have hd : (z == S.id) = true := by simp [hid]
        clear hz B1
        go_wp2_with fail
        go_roundw
        case rel => exact ⟨k + 1, z + 1, by omega, by have := HZ.out; omega, by go_num, AM2⟩
        case measure => simp [intOf]; omega
      · have hd : (z == S.id) = false := by simp [hid]
        obtain ⟨o0, o1, o2, o3⟩ := oth_cells (S := S) (lv := lv) (wv := wv) (sv := sv) hk4
        have q0 := B1.box.cell _ _ o0
        have q1 := B1.box.cell _ _ o1
        have q2 := B1.box.cell _ _ o2
        have q3 := B1.box.cell _ _ o3
        obtain ⟨⟨v0, v1, v2, v3⟩, hv⟩ : ∃ v, stabS S k = v := ⟨_, rfl⟩
        obtain ⟨p0, hp0⟩ : ∃ x, S.oth (k * 4) = x := ⟨_, rfl⟩
        obtain ⟨p1, hp1⟩ : ∃ x, S.oth (k * 4 + 1) = x := ⟨_, rfl⟩
        obtain ⟨p2, hp2⟩ : ∃ x, S.oth (k * 4 + 2) = x := ⟨_, rfl⟩
        obtain ⟨p3, hp3⟩ : ∃ x, S.oth (k * 4 + 3) = x := ⟨_, rfl⟩
        have EQ : Hid (stabS S (k + 1) = ⟨minZ v0 p0, minZ v1 p1, minZ v2 p2, minZ v3 p3⟩) := by
          show stabS S (k + 1) = _
          have : ¬ (k : Int) = S.id := by omega
          simp [stabS, this, hv, hp0, hp1, hp2, hp3]
        rw [hp0] at q0
        rw [hp1] at q1
        rw [hp2] at q2
        rw [hp3] at q3
        have VV : Row4 wr (w.heap.size + 1) v0 v1 v2 v3 := by have := AM.out.v; rw [hv] at this; exact this
        have x0 := VV.c0
        have x1 := VV.c1
        have x2 := VV.c2
        have x3 := VV.c3
        have PU : Hid (Calls Tryz.prog 17 #[.agg #[.int .i64 v0, .int .i64 v1, .int .i64 v2, .int .i64 v3], .agg #[.int .i64 p0, .int .i64 p1, .int .i64 p2, .int .i64 p3]] wr.drew fun e w' => e = .returned (.agg #[.int .i64 (minZ v0 p0), .int .i64 (minZ v1 p1), .int .i64 (minZ v2 p2), .int .i64 (minZ v3 p3)]) ∧ Row4 w' w.heap.size 0 0 0 0 ∧ Row4 w' (w.heap.size + 1) v0 v1 v2 v3 ∧ Below w.heap.size w w') :=
          (refMin_any v0 v1 v2 v3 p0 p1 p2 p3 wr.drew).mono fun e w' ⟨he, hb'⟩ => ⟨he, Row4.later hb' AM.out.r.drew, Row4.later hb' VV.drew, behind AM.out.b.drew hb'⟩
        have hB : w.heap.size ≤ w.heap.size + 1 := by omega
        have hBB := AM.out.b.drew
        clear hz B1 o0 o1 o2 o3 hv hp0 hp1 hp2 hp3 VV AM hid
        go_wp2_with fail
        go_region_with
          (first | (go_at_call 17; with_reducible refine PU.out.mono ?_; rintro e w5 ⟨rfl, RR5, RV5, hb5⟩; have y0 := RV5.c0; have y1 := RV5.c1; have y2 := RV5.c2; have y3 := RV5.c3; have z0 := RV5.f0; have z1 := RV5.f1; have z2 := RV5.f2; have z3 := RV5.f3))
        all_goals
          have SM : Hid (StM w S (k + 1) ((((w5.setCell ⟨w.heap.size + 1, 0, none⟩ (.int .i64 (minZ v0 p0))).setCell ⟨w.heap.size + 1, 1, none⟩ (.int .i64 (minZ v1 p1))).setCell ⟨w.heap.size + 1, 2, none⟩ (.int .i64 (minZ v2 p2))).setCell ⟨w.heap.size + 1, 3, none⟩ (.int .i64 (minZ v3 p3)))) :=
            ⟨RR5.far4 (by omega), by rw [EQ.out]; exact RV5.set, vec_far hb5 hB _ _ _ _⟩
          go_wp2_with fail
          go_roundw
          case rel => exact ⟨k + 1, z + 1, by omega, by have := HZ.out; omega, by go_num, SM⟩
          case measure => simp [intOf]; omega
    · have hke : k = (cutN sites) := by omega
      by_cases h1 : z < sites
      have h2 : ¬ z < 4 := by omega
      all_goals
       clear hcut
       subst hke
       have r0 := AM.out.r.c0
       have r1 := AM.out.r.c1
       have r2 := AM.out.r.c2
       have r3 := AM.out.r.c3
       have f0 := AM.out.r.f0
       have f1 := AM.out.r.f1
       have f2 := AM.out.r.f2
       have f3 := AM.out.r.f3
       have x0 := AM.out.v.c0
       have x1 := AM.out.v.c1
       have x2 := AM.out.v.c2
       have x3 := AM.out.v.c3
       have RZ := AM.out.r.set (x0 := (stabS S (cutN sites)).v0) (x1 := (stabS S (cutN sites)).v1) (x2 := (stabS S (cutN sites)).v2) (x3 := (stabS S (cutN sites)).v3)
       have hbZ := vec_far AM.out.b (Nat.le_refl _) (stabS S (cutN sites)).v0 (stabS S (cutN sites)).v1 (stabS S (cutN sites)).v2 (stabS S (cutN sites)).v3
       have g0 := RZ.c0
       have g1 := RZ.c1
       have g2 := RZ.c2
       have g3 := RZ.c3
       clear hz
       go_wp2_with fail
       exact bodyPost_ret (v := .agg #[.int .i64 (stabS S (cutN sites)).v0, .int .i64 (stabS S (cutN sites)).v1, .int .i64 (stabS S (cutN sites)).v2, .int .i64 (stabS S (cutN sites)).v3]) (by simp [results, Tryz.results23, go_sem, g0, g1, g2, g3]) rfl ⟨rfl, hbZ⟩

end Go.Proofs.YtplbdmcfghhbdaaGreatDoor

namespace Go.Proofs.YtplbdmcfghhbdaaGreatDoor
open Go.RowKit

set_option maxRecDepth 100000 in
set_option maxHeartbeats 8000000 in
theorem sameTxs_any {a a2 : Option Addr} {cap cap2 : Nat} {l l2 : List TxM} (w : World) (hA : TxsIn w a cap l) (hB : TxsIn w a2 cap2 l2) (he : l.map (·.t) = l2.map (·.t)) (hWA : ∀ m ∈ l, WrIn w m.wa m.wc m.t.ws) (hWB : ∀ m ∈ l2, WrIn w m.wa m.wc m.t.ws) (hl : l.length ≤ 1000) :
    Calls Tryz.prog 28 #[.slice a l.length cap, .slice a2 l2.length cap2] w fun e w' => e = .returned (.bool true) ∧ Below w.heap.size w w' := by
  have hne := Later.one
  have hll : l2.length = l.length := by
    have := congrArg List.length he
    simpa using this.symm
  rw [hll]
  have ca := hA.len
  have cb := hB.len
  have cc := hA.cap
  have cd := hB.cap
  rw [hll] at cb
  have HA : Hid (TxsIn w a cap l ∧ TxsIn w a2 cap2 l2) := ⟨hA, hB⟩
  have HE : Hid (l.map (·.t) = l2.map (·.t) ∧ l2.length = l.length) := ⟨he, hll⟩
  have HW : Hid ((∀ m ∈ l, WrIn w m.wa m.wc m.t.ws) ∧ ∀ m ∈ l2, WrIn w m.wa m.wc m.t.ws) := ⟨hWA, hWB⟩
  clear hA hB he hWA hWB hll
  go_enter Tryz.func28, Tryz.ntmps28
  go_wp2_with fail
  go_loopw [5] (fun iv wr => ∃ (k : Nat) (z : Int), k ≤ l.length ∧ z = k ∧ iv = .int .i64 z ∧ Below w.heap.size w wr) (fun i _ => l.length - (intOf i).toNat)
  case atStart => exact ⟨0, 0, by omega, rfl, rfl, Below.refl _ _⟩
  case round =>
    obtain ⟨k, z, hk, hz, rfl, hb⟩ := hrel
    have HZ : Hid (z = k) := hz
    by_cases hlt : k < l.length
    · have g1 : z < (l.length : Int) := by omega
      have g2 : z.toNat = k := by omega
      have g3 : 0 ≤ z := by omega
      clear hz
      obtain ⟨wb, off, hwa, hcc⟩ : ∃ wb off, a = some ⟨wb, off, none⟩ ∧ ∀ i m r u, l[i]? = some m → (txC m)[r]? = some u → w.cell? ⟨wb, off + (i * 9 + r), none⟩ = some u := by
        rcases HA.out.1.held with e | e
        · rw [e] at hlt; simp at hlt
        · exact e
      obtain ⟨wb2, off2, hwa2, hcc2⟩ : ∃ wb off, a2 = some ⟨wb, off, none⟩ ∧ ∀ i m r u, l2[i]? = some m → (txC m)[r]? = some u → w.cell? ⟨wb, off + (i * 9 + r), none⟩ = some u := by
        rcases HA.out.2.held with e | e
        · have := HE.out.2; rw [e] at this; simp at this; omega
        · exact e
      obtain ⟨⟨⟨site, seq, wall, count, d0, d1, d2, d3, ws⟩, ta, tc⟩, hx⟩ : ∃ m, l[k]? = some m := ⟨l[k], List.getElem?_eq_getElem hlt⟩
      obtain ⟨⟨t2, ta2, tc2⟩, hx2⟩ : ∃ m, l2[k]? = some m := ⟨l2[k]'(by rw [HE.out.2]; exact hlt), List.getElem?_eq_getElem (by rw [HE.out.2]; exact hlt)⟩
      have et : t2 = ⟨site, seq, wall, count, d0, d1, d2, d3, ws⟩ := by
        have := congrArg (fun q => q[k]?) HE.out.1
        simp only [List.getElem?_map, hx, hx2, Option.map_some] at this
        injection this with this
        exact this.symm
      subst et
      have wA := HW.out.1 _ (List.mem_of_getElem? hx)
      have wB := HW.out.2 _ (List.mem_of_getElem? hx2)
      have cc := fun r u (hu : (txC ⟨⟨site, seq, wall, count, d0, d1, d2, d3, ws⟩, ta, tc⟩)[r]? = some u) => (show wr.cell? ⟨wb, off + k * 9 + r, none⟩ = some u by rw [Nat.add_assoc]; exact cell_later hb (hcc k _ r u hx hu))
      have dd := fun r u (hu : (txC ⟨⟨site, seq, wall, count, d0, d1, d2, d3, ws⟩, ta2, tc2⟩)[r]? = some u) => (show wr.cell? ⟨wb2, off2 + k * 9 + r, none⟩ = some u by rw [Nat.add_assoc]; exact cell_later hb (hcc2 k _ r u hx2 hu))
      have x0 := cc 0 _ rfl
      have y0 := dd 0 _ rfl
      have x1 := cc 1 _ rfl
      have y1 := dd 1 _ rfl
      have x2 := cc 2 _ rfl
      have y2 := dd 2 _ rfl
      have x3 := cc 3 _ rfl
      have y3 := dd 3 _ rfl
      have x4 := cc 4 _ rfl
      have y4 := dd 4 _ rfl
      have x5 := cc 5 _ rfl
      have y5 := dd 5 _ rfl
      have x6 := cc 6 _ rfl
      have y6 := dd 6 _ rfl
      have x7 := cc 7 _ rfl
      have y7 := dd 7 _ rfl
      have x8 := cc 8 _ rfl
      have y8 := dd 8 _ rfl
      rw [Nat.add_zero] at x0 y0
      rw [hwa, hwa2]
      have SM : Hid (∀ x : Later wr, Calls Tryz.prog 10 #[.agg #[.int .i64 site, .int .i64 seq, .int .i64 wall, .int .i64 count, .int .i64 d0, .int .i64 d1, .int .i64 d2, .int .i64 d3, .slice ta ws.length tc], .agg #[.int .i64 site, .int .i64 seq, .int .i64 wall, .int .i64 count, .int .i64 d0, .int .i64 d1, .int .i64 d2, .int .i64 d3, .slice ta2 ws.length tc2]] x.val fun e w' => e = .returned (.bool true) ∧ Below x.val.heap.size x.val w') := fun x => same_any site seq wall count d0 d1 d2 d3 ta ta2 tc tc2 ws x.val (wA.later (behind hb x.below)) (wB.later (behind hb x.below))
      clear cc dd hcc hcc2 hx hx2 hwa hwa2 wA wB
      go_wp2_with fail
      replace x0 := Later.cell x0
      replace y0 := Later.cell y0
      replace x1 := Later.cell x1
      replace y1 := Later.cell y1
      replace x2 := Later.cell x2
      replace y2 := Later.cell y2
      replace x3 := Later.cell x3
      replace y3 := Later.cell y3
      replace x4 := Later.cell x4
      replace y4 := Later.cell y4
      replace x5 := Later.cell x5
      replace y5 := Later.cell y5
      replace x6 := Later.cell x6
      replace y6 := Later.cell y6
      replace x7 := Later.cell x7
      replace y7 := Later.cell y7
      replace x8 := Later.cell x8
      replace y8 := Later.cell y8
      refine wp_region_later (by kernel_rfl) (by kernel_rfl) ?_
      repeat (go_big_quiet_step (first | rfl | (go_at_call 10; with_reducible exact calls_later (SM.out _))))
      refine wpQuiet_nil ?_
      rintro w5 ⟨⟨_, hb5⟩, rfl⟩
      go_wp2_with fail
      go_roundw
      case rel => exact ⟨k + 1, z + 1, by omega, by have := HZ.out; omega, by go_num, behind hb hb5⟩
      case measure => simp [intOf]; have := HZ.out; omega
    · have g1 : ¬ z < (l.length : Int) := by omega
      clear hz
      go_wp2_with fail
      go_ret
      exact ⟨rfl, hb⟩

end Go.Proofs.YtplbdmcfghhbdaaGreatDoor
