/-
  What slices.Insert of one version does to a key's row, as the model runs it: at the end, in place, or into a new row.
  What slices.Insert of one version does to a key's row, as the model runs it: into a new row.
  Several things in memory, apart: what each is, in which blocks; what is left of all where one, or two, of them change.
  A row of transactions behind another: 'append(x, y...)' where y may be none, or nothing; as the model runs it.
  Which of those that wait is found when they are gone through, the first of the least site that may be applied: it is the next one; no Go in sight.
-/
import Derived.Test.YtpncedpfoakfkaaGreatDoorPgSmall
import Derived.Test.YtpncedpfoakfkaaGreatDoorSiteA
import Derived.Shelf.RegionOpen
import Derived.Lib.JoinLaws
import Derived.Test.YtpncedpfoakfkaaGreatDoorSiteE
import Derived.Maps.AppendAt
namespace Go.Proofs.YtpncedpfoakfkaaGreatDoor
open Go.RowKit

theorem verInfo : (Tryz.prog.info? 59).map (fun i => (i.zero, i.size, i.bytes)) = some (some (.agg #[.int .i64 0, .int .i64 0, .int .i64 0, .int .i64 0, .string ⟨#[]⟩, .bool false]), 6, 56) := by kernel_rfl
theorem verSize : (Tryz.prog.info? 59).map (·.size) = some 6 := by kernel_rfl

/-- what Insert leaves: a row, the same one or a new one -/
def InsPost (w : World) (sv : Value) (L' : List Ver) (g cap : Nat) (w' : World) : Prop :=
  w'.ownsRow 0 59 6 (.slice (some ⟨g, 0, none⟩) L'.length cap) L'.length (versL L') ∧ w.grownBy w' sv.ownBlock ∧ (sv.ownBlock = some g ∨ w.heap.size ≤ g)

/-- with v at place p -/
def insL (L : List Ver) (p : Nat) (v : Ver) : List Ver := L.take p ++ [v] ++ L.drop p
theorem insL_length {L : List Ver} {p : Nat} (v : Ver) (h : p ≤ L.length) : (insL L p v).length = L.length + 1 := by
  simp [insL]
  omega
theorem versL_ins (L : List Ver) (p : Nat) (v : Ver) : versL (insL L p v) = versL (L.take p) ++ verL v ++ versL (L.drop p) := by
  unfold insL
  rw [versL_append, versL_append, versL_one]

set_option maxRecDepth 100000 in
set_option maxHeartbeats 4000000 in
theorem insert_end {sv : Value} {L : List Ver} (v : Ver) (vb : Nat) (w : World) (hown : w.ownsRow 0 59 6 sv L.length (versL L)) (hl : L.length ≤ 1000) (hvb : w.heap[vb]? = some (.cells (verL v).toArray 59 (0, 0))) :
    Calls Tryz.prog 108 #[sv, .int .i64 L.length, .slice (some ⟨vb, 0, none⟩) 1 1] w fun e w' =>
      ∃ g cap, e = .returned (.slice (some ⟨g, 0, none⟩) (L.length + 1) cap) ∧ InsPost w sv (L ++ [v]) g cap w' := by
  obtain ⟨i0, hi, hz0, hz1, hz2⟩ := info_parts verInfo
  have hnews : ∀ j u, (verL v)[j]? = some u → w.cell? ((⟨vb, 0, none⟩ : Addr).add j) = some u := fun j u hu => by
    rw [addr_add, cell_of_row w vb j _ 59 (0, 0) hvb]
    simpa using hu
  have h1 : ∀ u ∈ verL v, u.oneCell' = true := fun u hu => versL_one' [v] u (by rw [versL_one]; exact hu)
  obtain ⟨a, cap, rfl, hV⟩ := vsIn_own hown
  have hc1 := hV.len
  have hc2 := hV.cap
  have HN : Hid (∀ j u, (verL v)[j]? = some u → w.cell? ((⟨vb, 0, none⟩ : Addr).add j) = some u) := hnews
  have HV : Hid (w.heap[vb]? = some (.cells (verL v).toArray 59 (0, 0))) := hvb
  clear hnews hvb hV
  obtain ⟨n, hn⟩ : ∃ n, L.length = n := ⟨_, rfl⟩
  have EL : Hid (L.length = n) := hn
  rw [hn] at hown hc1 hl ⊢
  clear hn
  have hs : (Value.slice a n cap = .slice none 0 0) ∨ ∃ g, a = some ⟨g, 0, none⟩ := by
    rcases hown.2 with ⟨h, _⟩ | ⟨g, c, cur, h, _⟩
    · exact .inl h
    · injection h with h _ _
      exact .inr ⟨g, h⟩
  have FIN : Hid (∀ g cap9 wE, wE.ownsRow 0 59 6 (.slice (some ⟨g, 0, none⟩) (n + 1) cap9) (n + 1) (versL L ++ verL v) → w.grownBy wE (Value.slice a n cap).ownBlock → ((Value.slice a n cap).ownBlock = some g ∨ g = w.heap.size) → InsPost w (.slice a n cap) (L ++ [v]) g cap9 wE) := fun g cap9 wE h1 h2 h3 =>
    ⟨by rw [versL_append, versL_one, List.length_append, EL.out]; exact h1, h2, h3.imp_right (fun e => by omega)⟩
  rcases hs with h0 | ⟨g0, rfl⟩
  · injection h0 with ha hn hcp
    subst ha hn hcp
    go_enter Tryz.func108, Tryz.ntmps108
    go_wp2_with (at_builtin; refine wpList_append_lies _ rfl _ _ 104 rfl 0 59 i0 (.agg #[.int .i64 0, .int .i64 0, .int .i64 0, .int .i64 0, .string ⟨#[]⟩, .bool false]) 6 56 Tryz.underlying104 hi hz0 hz1 hz2 rfl (by decide) _ _ (versL L) rfl hown ⟨vb, 0, none⟩ 1 1 (verL v) rfl rfl HN.out h1 (by decide) (by simp only [maxLen]; omega) (by omega) (by omega) _ rfl ?_; intro g cap9 wE ownE grE egE ltE; have HX : Hid (InsPost w (.slice none 0 0) (L ++ [v]) g cap9 wE) := FIN.out g cap9 wE ownE grE egE; clear ownE grE egE)
    go_ret
    exact ⟨g, cap9, rfl, HX.out⟩
  · go_enter Tryz.func108, Tryz.ntmps108
    go_wp2_with (at_builtin; refine wpList_append_lies _ rfl _ _ 104 rfl 0 59 i0 (.agg #[.int .i64 0, .int .i64 0, .int .i64 0, .int .i64 0, .string ⟨#[]⟩, .bool false]) 6 56 Tryz.underlying104 hi hz0 hz1 hz2 rfl (by decide) _ _ (versL L) rfl hown ⟨vb, 0, none⟩ 1 1 (verL v) rfl rfl HN.out h1 (by decide) (by simp only [maxLen]; omega) (by omega) (by omega) _ rfl ?_; intro g cap9 wE ownE grE egE ltE; have HX : Hid (InsPost w (.slice (some ⟨g0, 0, none⟩) n cap) (L ++ [v]) g cap9 wE) := FIN.out g cap9 wE ownE grE egE; clear ownE grE egE)
    all_goals
      go_ret
      exact ⟨g, cap9, rfl, HX.out⟩

set_option maxRecDepth 100000 in
set_option maxHeartbeats 4000000 in
theorem insert_shift {g n cap p : Nat} {L : List Ver} (v : Ver) (vb : Nat) (w : World) (hown : w.ownsRow 0 59 6 (.slice (some ⟨g, 0, none⟩) n cap) n (versL L)) (hn : L.length = n) (hl : n ≤ 1000) (hp : p < n) (hroom : n + 1 ≤ cap) (hvb : w.heap[vb]? = some (.cells (verL v).toArray 59 (0, 0))) (hne : vb ≠ g) :
    Calls Tryz.prog 108 #[.slice (some ⟨g, 0, none⟩) n cap, .int .i64 p, .slice (some ⟨vb, 0, none⟩) 1 1] w fun e w' =>
      ∃ g' cap', e = .returned (.slice (some ⟨g', 0, none⟩) (n + 1) cap') ∧ InsPost w (.slice (some ⟨g, 0, none⟩) n cap) (insL L p v) g' cap' w' := by
  obtain ⟨g1, cap1, cur, h', hB, hg, hnc, hcm, hcs, htake⟩ := hown.2.resolve_left (fun h => by simp at h)
  simp only [Value.slice.injEq, Option.some.injEq, Addr.mk.injEq, and_true, true_and] at h'
  obtain ⟨rfl, rfl⟩ := h'
  have hc63 : cap ≤ 9223372036854775807 := by simp only [maxLen] at hcm; omega
  have hD : (versL (L.drop p)).length = (n - p) * 6 := by rw [versL_length, List.length_drop, hn]
  have hA : (versL (L.take p)).length = p * 6 := by rw [versL_length, List.length_take]; omega
  have hcs' : ∀ j u, (versL L)[j]? = some u → w.cell? ⟨g, j, none⟩ = some u := fun j u hu => by have := hown.cells (g := g) rfl j u hu; rwa [addr_add] at this
  have hex : ∀ j, j < cap * 6 → (w.cell? ⟨g, j, none⟩).isSome = true := fun j hj => by rw [cell_of_row w g j cur _ (0, 0) hg, Array.getElem?_eq_getElem (by omega)]; rfl
  have hfz : ∀ j, w.frozen? ⟨g, j, none⟩ = false := fun j => frozen_of_row w g j cur _ hg
  have hnews : ∀ j u, (verL v)[j]? = some u → w.cell? ⟨vb, j, none⟩ = some u := fun j u hu => by
    rw [cell_of_row w vb j _ 59 (0, 0) hvb]
    simpa using hu
  have h1 : ∀ u ∈ verL v, u.oneCell' = true := fun u hu => versL_one' [v] u (by rw [versL_one]; exact hu)
  have hov : ∀ lb cb, (callFunc 117 #[.slice (some ⟨vb, 0, none⟩) 1 1, .slice (some ⟨g, (p + 1) * 6, none⟩) lb cb]).run Tryz.prog w = .ok (.value (.bool false)) w := fun lb cb => by
    rw [run_callFunc_extern Tryz.func117 (by kernel_rfl) (by kernel_rfl) (by kernel_rfl) (e := Extern.SlicesOverlaps.overlaps #[104, 104] #[4]) (by kernel_rfl),
      Lib.run_overlaps_apart w 104 4 59 Tryz.underlying104 6 Tryz.sizeOf59 ⟨vb, 0, none⟩ ⟨g, (p + 1) * 6, none⟩ 1 1 lb cb hne 59 59 6 cur.size (by simp [World.shape?, hvb, verL]) (by simp [World.shape?, hg]) (by omega) (by simp [World.frozen?, hvb]) (by simp [World.frozen?, hvb])]
    rfl
  have hcp1 : ∀ ty dc sc, (Builtin.copy_ #[104, 104] ty #[.slice (some ⟨g, (p + 1) * 6, none⟩) (n - p) dc, .slice (some ⟨g, p * 6, none⟩) (n + 1 - p) sc]).run Tryz.prog w.drew = .ok (goInt (n - p : Nat)) (w.drew.setCells g ((p + 1) * 6) (versL (L.drop p))) := fun ty dc sc =>
    run_copy_k w.drew _ _ ty 59 6 g ((p + 1) * 6) (n - p) dc ⟨g, p * 6, none⟩ (n + 1 - p) sc (n - p) (versL (L.drop p)) Tryz.underlying104 verSize (by simp only [Nat.min_def]; split <;> omega) hD
      (fun j u hj => by rw [Addr.add_lit]; exact hcs' (p * 6 + j) u (by rw [← versL_drop, List.getElem?_drop] at hj; exact hj))
      (fun j hj => hex _ (by omega)) (fun j _ => hfz _) (versL_one' _)
  obtain ⟨W1, hW1⟩ : ∃ W1, W1 = w.drew.setCells g ((p + 1) * 6) (versL (L.drop p)) := ⟨_, rfl⟩
  have hcp2 : ∀ (W : World), (∀ x, W.cell? x = W1.cell? x) → (∀ x, W.frozen? x = W1.frozen? x) → ∀ ty dc, (Builtin.copy_ #[104, 104] ty #[.slice (some ⟨g, p * 6, none⟩) (n + 1 - p) dc, .slice (some ⟨vb, 0, none⟩) 1 1]).run Tryz.prog W = .ok (goInt 1) (W.setCells g (p * 6) (verL v)) := fun W hWc hWf ty dc =>
    run_copy_k W _ _ ty 59 6 g (p * 6) (n + 1 - p) dc ⟨vb, 0, none⟩ 1 1 1 (verL v) Tryz.underlying104 verSize (by simp only [Nat.min_def]; split <;> omega) rfl
      (fun j u hj => by
        rw [addr_add, hWc, hW1, World.cell?_setCells_out g _ _ _ _ (fun h _ => absurd h hne)]
        exact hnews j u hj)
      (fun j hj => by
        rw [hWc, hW1]
        exact isSome_set g (versL (L.drop p)) ((p + 1) * 6) w.drew (fun t ht => hex ((p + 1) * 6 + t) (by omega)) (p * 6 + j) (hex (p * 6 + j) (by simp [verL] at hj; omega)))
      (fun j hj => by rw [hWf, hW1, World.frozen?_setCells]; exact hfz _) h1
  have OUT : Hid (InsPost w (.slice (some ⟨g, 0, none⟩) n cap) (insL L p v) g cap (W1.setCells g (p * 6) (verL v))) := by
    obtain ⟨c1, q1, q2⟩ := heap_setCells g (versL (L.drop p)) ((p + 1) * 6) w.drew (cur := cur) (T := 59) hg
    obtain ⟨c2, q3, q4⟩ := heap_setCells g (verL v) (p * 6) (w.drew.setCells g ((p + 1) * 6) (versL (L.drop p))) q1
    rw [hW1]
    refine ⟨own_of_cells (Nat.zero_le _) q3 hcm (by omega) (by rw [insL_length v (by omega)]; omega) (versL_length _) ?_, ?_, .inl rfl⟩
    · rw [versL_ins]
      have := cells_shift (w := w.drew) (g := g) (versL (L.take p)) (verL v) (versL (L.drop p)) (fun j u hj => hcs' j u (by rw [← versL_take, List.getElem?_take] at hj; split at hj; exact hj; cases hj)) (fun j hj => hex j (by rw [hA, hD, verL_length] at hj; omega))
      rw [hA, verL_length, show p * 6 + 6 = (p + 1) * 6 by omega] at this
      exact this
    · have o1 : Only g w w.drew := Only.ofBelow (Below.refl _ _).drew
      exact (o1.trans (only_setCells g _ _ _) (.inl rfl)).trans (only_setCells g _ _ _) (.inl rfl)
  rw [← hW1] at hcp1
  have hcp3 := hcp2 W1 (fun _ => rfl) (fun _ => rfl)
  clear hW1 hcp2
  have hw1 : IntKind.i64.wrap ((p : Int) + 1) = (p : Int) + 1 := by rw [IntKind.wrap_i64]; omega
  have hb1 : (0 : Int) ≤ (p : Int) + 1 := by omega
  have hin : p ≤ n := by omega
  have htn : ((p : Int) + 1).toNat = p + 1 := by omega
  have hb2 : ¬ (cap = p + 1) := by omega
  have hb3 : (p : Int) ≤ (n : Int) + 1 := by omega
  have hb4 : ¬ (cap = p) := by omega
  have hz2 : ¬ ((p : Int) = (n : Int)) := by omega
  have EL : Hid (L.length = n) := hn
  clear hD hA hcs' hex hfz hnews h1 htake hown hcs hB hg hvb hn
  go_enter Tryz.func108, Tryz.ntmps108
  go_wp2_with (simp only [hov])
  go_region_law (refine step_copy_run rfl _ _ 104 104 rfl _ _ (by simp [Act.eval, Act.put]) (by simp [Act.eval, Act.put]) (hcp1 _ _ _) ?_)
  go_wp2_with (at_builtin; refine wpList_copy_run _ rfl _ _ 104 104 rfl _ _ rfl rfl (hcp3 _ _) ?_)
  go_ret
  exact ⟨g, cap, rfl, OUT.out⟩

end Go.Proofs.YtpncedpfoakfkaaGreatDoor

namespace Go.Proofs.YtpncedpfoakfkaaGreatDoor
open Go.RowKit

set_option maxRecDepth 100000 in
set_option maxHeartbeats 4000000 in
theorem insert_grow {g n cap p : Nat} {L : List Ver} (v : Ver) (vb : Nat) (w : World) (hown : w.ownsRow 0 59 6 (.slice (some ⟨g, 0, none⟩) n cap) n (versL L)) (hn : L.length = n) (hl : n ≤ 1000) (hp : p < n) (hroom : ¬ n + 1 ≤ cap) (hvb : w.heap[vb]? = some (.cells (verL v).toArray 59 (0, 0))) :
    Calls Tryz.prog 108 #[.slice (some ⟨g, 0, none⟩) n cap, .int .i64 p, .slice (some ⟨vb, 0, none⟩) 1 1] w fun e w' =>
      ∃ g' cap', e = .returned (.slice (some ⟨g', 0, none⟩) (n + 1) cap') ∧ InsPost w (.slice (some ⟨g, 0, none⟩) n cap) (insL L p v) g' cap' w' := by
  obtain ⟨g1, cap1, cur, h', hB, hg, hnc, hcm, hcs, htake⟩ := hown.2.resolve_left (fun h => by simp at h)
  simp only [Value.slice.injEq, Option.some.injEq, Addr.mk.injEq, and_true, true_and] at h'
  obtain ⟨rfl, rfl⟩ := h'
  obtain rfl : cap = n := by omega
  obtain ⟨i0, hi0, hz0, hzs, hzb⟩ := info_parts verInfo
  have hD : (versL (L.drop p)).length = (cap - p) * 6 := by rw [versL_length, List.length_drop, hn]
  have hA : (versL (L.take p)).length = p * 6 := by rw [versL_length, List.length_take]; omega
  have hcs' : ∀ j u, (versL L)[j]? = some u → w.cell? ⟨g, j, none⟩ = some u := fun j u hu => by have := hown.cells (g := g) rfl j u hu; rwa [addr_add] at this
  have hnews : ∀ j u, (verL v)[j]? = some u → w.cell? ⟨vb, j, none⟩ = some u := fun j u hu => by
    rw [cell_of_row w vb j _ 59 (0, 0) hvb]
    simpa using hu
  have h1 : ∀ u ∈ verL v, u.oneCell' = true := fun u hu => versL_one' [v] u (by rw [versL_one]; exact hu)
  have hbw : g < w.heap.size := (Array.getElem?_eq_some_iff.1 hg).1
  have hvw : vb < w.heap.size := (Array.getElem?_eq_some_iff.1 hvb).1
  have hold : (Builtin.firstCells i0.size p (.slice (some ⟨g, 0, none⟩) p cap)).run Tryz.prog w.drew = .ok (versL (L.take p)).toArray w.drew := by
    rw [hzs]
    exact run_firstCells_some w.drew 6 p ⟨g, 0, none⟩ p cap (versL (L.take p)) hA (fun j u hj => by
      rw [addr_add]
      rw [← versL_take, List.getElem?_take] at hj
      split at hj
      · exact hcs' j u hj
      · cases hj)
  obtain ⟨G, hG⟩ : ∃ G, G = grownCap w (cap + 1) cap 59 := ⟨_, rfl⟩
  have hGn : cap + 1 ≤ G := by rw [hG]; exact grownCap_ge w _ _ _
  have hGm : G ≤ maxLen := by rw [hG]; exact grownCap_le_maxLen w (cap + 1) cap _ (by unfold maxLen; omega)
  obtain ⟨ROW, hROW⟩ : ∃ ROW : Array Value, ROW = (versL (L.take p)).toArray ++ Builtin.zeroCells (Value.agg #[.int .i64 0, .int .i64 0, .int .i64 0, .int .i64 0, .string ⟨#[]⟩, .bool false]).cells (cap + 1 - p) ++ Builtin.zeroCells (Value.agg #[.int .i64 0, .int .i64 0, .int .i64 0, .int .i64 0, .string ⟨#[]⟩, .bool false]).cells (G - (cap + 1)) := ⟨_, rfl⟩
  have hz6 : (Value.agg #[.int .i64 0, .int .i64 0, .int .i64 0, .int .i64 0, .string ⟨#[]⟩, .bool false]).cells.size = 6 := rfl
  have hRs : ROW.size = G * 6 := by
    rw [hROW]
    simp only [Array.size_append, List.size_toArray, size_zeroCells, hz6, hA]
    omega
  have hRA : ∀ j u, (versL (L.take p))[j]? = some u → ROW[j]? = some u := fun j u hu => by
    have hj : j < (versL (L.take p)).length := (List.getElem?_eq_some_iff.1 hu).1
    rw [hROW, Array.append_assoc, Array.getElem?_append_left (by simpa using hj)]
    simpa using hu
  have hkk : (cap : Int) + 1 - (p : Int) = ((cap + 1 - p : Nat) : Int) := by omega
  have hik : p + (cap + 1 - p) = cap + 1 := by omega
  have hrz : ∀ ty, (Builtin.append_ #[104, 3] ty #[.slice (some ⟨g, 0, none⟩) p cap, .int .i64 ((cap : Int) + 1 - (p : Int))]).run Tryz.prog w =
      .ok (.slice (some ⟨w.heap.size, 0, none⟩) (cap + 1) G) (w.drew.alloc (.cells ROW 59)) := fun ty => by
    have h := Lib.run_append_grow_zeros w 104 3 ty 59 i0 _ .i64 .i64 Tryz.underlying104 Tryz.underlying3 hi0 hz0 (some ⟨g, 0, none⟩) p cap (versL (L.take p)) hold (cap + 1 - p) (by omega) (by omega) (by omega) (by omega) (by rw [hzb]; omega) (by rw [hzb, hik]; exact growslice_fits (by omega) (by omega))
    rw [hik, ← hG, ← hROW] at h
    rw [hkk]
    exact h
  obtain ⟨W1, hW1⟩ : ∃ W1, W1 = w.drew.alloc (.cells ROW 59) := ⟨_, rfl⟩
  have hgN : W1.heap[w.heap.size]? = some (.cells ROW 59 (0, 0)) := by rw [hW1]; exact heap_alloc_new w.drew _
  have hN : ∀ j, j < G * 6 → (W1.cell? ⟨w.heap.size, j, none⟩).isSome = true := fun j hj => by
    rw [cell_of_row W1 w.heap.size j ROW _ (0, 0) hgN, Array.getElem?_eq_getElem (by omega)]; rfl
  have hNA : ∀ j u, (versL (L.take p))[j]? = some u → W1.cell? ⟨w.heap.size, j, none⟩ = some u := fun j u hu => by
    rw [cell_of_row W1 w.heap.size j ROW _ (0, 0) hgN]
    exact hRA j u hu
  have hNf : ∀ j, W1.frozen? ⟨w.heap.size, j, none⟩ = false := fun j => frozen_of_row W1 w.heap.size j ROW _ hgN
  have hb1 : Below w.heap.size w W1 := by rw [hW1]; exact boxed (Below.refl _ w).drew _
  have hcpA : ∀ (W : World), (∀ x, W.cell? x = W1.cell? x) → (∀ x, W.frozen? x = W1.frozen? x) → ∀ ty dc, (Builtin.copy_ #[104, 104] ty #[.slice (some ⟨w.heap.size, p * 6, none⟩) (cap + 1 - p) dc, .slice (some ⟨vb, 0, none⟩) 1 1]).run Tryz.prog W = .ok (goInt 1) (W.setCells w.heap.size (p * 6) (verL v)) := fun W hWc hWf ty dc =>
    run_copy_k W _ _ ty 59 6 w.heap.size (p * 6) (cap + 1 - p) dc ⟨vb, 0, none⟩ 1 1 1 (verL v) Tryz.underlying104 verSize (by simp only [Nat.min_def]; split <;> omega) rfl
      (fun j u hj => by
        rw [addr_add, hWc]
        exact cell_later hb1 (hnews j u hj))
      (fun j hj => by rw [hWc]; exact hN _ (by simp [verL] at hj; omega))
      (fun j hj => by rw [hWf]; exact hNf _) h1
  have hcpB : ∀ (W : World), (∀ x, W.cell? x = (W1.setCells w.heap.size (p * 6) (verL v)).cell? x) → (∀ x, W.frozen? x = (W1.setCells w.heap.size (p * 6) (verL v)).frozen? x) → ∀ ty dc sc, (Builtin.copy_ #[104, 104] ty #[.slice (some ⟨w.heap.size, (p + 1) * 6, none⟩) (cap - p) dc, .slice (some ⟨g, p * 6, none⟩) (cap - p) sc]).run Tryz.prog W = .ok (goInt (cap - p : Nat)) (W.setCells w.heap.size ((p + 1) * 6) (versL (L.drop p))) := fun W hWc hWf ty dc sc =>
    run_copy_k W _ _ ty 59 6 w.heap.size ((p + 1) * 6) (cap - p) dc ⟨g, p * 6, none⟩ (cap - p) sc (cap - p) (versL (L.drop p)) Tryz.underlying104 verSize (by simp) hD
      (fun j u hj => by
        rw [Addr.add_lit, hWc, World.cell?_setCells_out _ _ _ _ _ (fun h _ => absurd h (by show g ≠ w.heap.size; omega))]
        exact cell_later hb1 (hcs' (p * 6 + j) u (by rw [← versL_drop, List.getElem?_drop] at hj; exact hj)))
      (fun j hj => by
        rw [hWc]
        exact isSome_set w.heap.size (verL v) (p * 6) W1 (fun t ht => hN (p * 6 + t) (by simp [verL] at ht; omega)) ((p + 1) * 6 + j) (hN ((p + 1) * 6 + j) (by omega)))
      (fun j hj => by rw [hWf, World.frozen?_setCells]; exact hNf _) (versL_one' _)
  obtain ⟨W2, hW2⟩ : ∃ W2, W2 = W1.setCells w.heap.size (p * 6) (verL v) := ⟨_, rfl⟩
  obtain ⟨W3, hW3⟩ : ∃ W3, W3 = W2.drew.setCells w.heap.size ((p + 1) * 6) (versL (L.drop p)) := ⟨_, rfl⟩
  have OUT : Hid (InsPost w (.slice (some ⟨g, 0, none⟩) cap cap) (insL L p v) w.heap.size G W3) := by
    obtain ⟨c1, q1, q2⟩ := heap_setCells w.heap.size (verL v) (p * 6) W1 hgN
    rw [← hW2] at q1
    obtain ⟨c2, q3, q4⟩ := heap_setCells w.heap.size (versL (L.drop p)) ((p + 1) * 6) W2.drew (cur := c1) (T := 59) q1
    rw [← hW3] at q3
    refine ⟨own_of_cells (Nat.zero_le _) q3 hGm (by omega) (by rw [insL_length v (by omega)]; omega) (versL_length _) ?_, ?_, .inr (Nat.le_refl _)⟩
    · rw [versL_ins]
      have := cells_shift2 (w := W1) (g := w.heap.size) (versL (L.take p)) (verL v) (versL (L.drop p)) hNA (fun j hj => hN j (by rw [hA, hD, verL_length] at hj; omega))
      rw [hA, verL_length, show p * 6 + 6 = (p + 1) * 6 by omega, ← hW2] at this
      intro j u hu
      rw [hW3]
      have e := this j u hu
      rw [← e]
      have hh : ∀ (vs : List Value) (o : Nat) (X : World), (X.drew.setCells w.heap.size o vs).heap = (X.setCells w.heap.size o vs).heap := by
        intro vs
        induction vs with
        | nil => intro o X; rfl
        | cons u vs ih => intro o X; exact ih (o + 1) (X.setCell ⟨w.heap.size, o, none⟩ u)
      unfold World.cell?
      rw [hh]
    · have o1 : Only w.heap.size W1 W2 := by rw [hW2]; exact only_setCells _ _ _ _
      have o2 : Only w.heap.size W2 W3 := by rw [hW3]; exact (Only.ofBelow (Below.refl _ _).drew).trans (only_setCells _ _ _ _) (.inl rfl)
      have o3 := (Only.ofBelow (g := w.heap.size) hb1).trans (o1.trans o2 (.inl rfl)) (.inl rfl)
      exact ⟨o3.os, o3.tape, o3.output, o3.size, fun k hk _ => o3.block k hk (fun e => by injection e; omega)⟩
  have hA3 := hcpA W1 (fun _ => rfl) (fun _ => rfl)
  have hB3 := hcpB W2.drew (fun x => by rw [← hW2]; rfl) (fun x => by rw [← hW2]; rfl)
  rw [← hW2] at hA3
  rw [← hW3] at hB3
  rw [← hW1] at hrz
  have hw1 : IntKind.i64.wrap ((p : Int) + 1) = (p : Int) + 1 := by rw [IntKind.wrap_i64]; omega
  have hw2 : (0 : Int) ≤ (p : Int) + 1 := by omega
  have hin : p ≤ cap := by omega
  have htn : ((p : Int) + 1).toNat = p + 1 := by omega
  have hG63 : G ≤ 9223372036854775807 := by simp only [maxLen] at hGm; omega
  have hG1 : ¬ (G = p + 1) := by omega
  have hG2 : ¬ (G = p) := by omega
  have hc1 : ¬ (cap = p) := by omega
  have hb3 : (p : Int) ≤ (cap : Int) + 1 := by omega
  have hb5 : (p : Int) ≤ (cap : Int) := by omega
  have hz2 : ¬ ((p : Int) = (cap : Int)) := by omega
  have hz3 : (cap : Int) < (cap : Int) + 1 := by omega
  have EL : Hid (L.length = cap) := hn
  clear hD hA hcs' hnews h1 htake hown hcs hB hg hvb hn hold hROW hG hRs hRA hz6 hW1 hW2 hW3 hgN hN hNA hNf hcpA hcpB hkk hik hi0 hz0 hzs hzb hb1 hnc hcm hGm
  go_enter Tryz.func108, Tryz.ntmps108
  go_wp2_with (first
    | (at_builtin; refine Lib.wpList_append_run _ rfl _ _ _ _ rfl _ _ rfl rfl _ _ (hrz _) ?_)
    | (at_builtin; refine wpList_copy_run _ rfl _ _ 104 104 rfl _ _ rfl rfl (hA3 _ _) ?_))
  go_region_law (refine step_copy_run rfl _ _ 104 104 rfl _ _ (by simp [Act.eval, Act.put]) (by simp [Act.eval, Act.put]) (hB3 _ _ _) ?_)
  go_wp2_with fail
  go_ret
  exact ⟨w.heap.size, G, rfl, OUT.out⟩

theorem insL_end (L : List Ver) (v : Ver) : insL L L.length v = L ++ [v] := by simp [insL]

/-- Insert of one version, wherever -/
theorem insert_any {sv : Value} {L : List Ver} {p : Nat} (v : Ver) (vb : Nat) (w : World) (hown : w.ownsRow 0 59 6 sv L.length (versL L)) (hp : p ≤ L.length) (hl : L.length ≤ 1000) (hvb : w.heap[vb]? = some (.cells (verL v).toArray 59 (0, 0))) (hne : sv.ownBlock ≠ some vb) :
    Calls Tryz.prog 108 #[sv, .int .i64 p, .slice (some ⟨vb, 0, none⟩) 1 1] w fun e w' =>
      ∃ g cap, e = .returned (.slice (some ⟨g, 0, none⟩) (L.length + 1) cap) ∧ InsPost w sv (insL L p v) g cap w' := by
  rcases Nat.lt_or_ge p L.length with h | h
  · rcases hown.2 with ⟨_, h0⟩ | ⟨g, cap, cur, rfl, _⟩
    · omega
    · by_cases hroom : L.length + 1 ≤ cap
      · exact insert_shift v vb w hown rfl hl h hroom hvb (fun e => hne (by rw [e]; rfl))
      · exact insert_grow v vb w hown rfl hl h hroom hvb
  · obtain rfl : p = L.length := by omega
    rw [insL_end]
    exact insert_end v vb w hown hl hvb

end Go.Proofs.YtpncedpfoakfkaaGreatDoor

namespace Go.Proofs.YtpncedpfoakfkaaGreatDoor
open Go.RowKit

/-- a thing in memory: what it is to be there, in blocks of G -/
structure Part where
  is : World → (Nat → Prop) → Prop
  lt : ∀ w G, is w G → ∀ k, G k → k < w.heap.size
  kept : ∀ w w' G, is w G → (∀ k, G k → w'.heap[k]? = w.heap[k]?) → w.heap.size ≤ w'.heap.size → is w' G
/-- what is left: another thing, in its blocks and new ones -/
def Left (p : Part) (w : World) (G : Nat → Prop) (w' : World) : Prop := ∃ G', p.is w' G' ∧ (∀ k, G' k → G k ∨ w.heap.size ≤ k) ∧ Touch G w w'
/-- what is left of two; Y: blocks that are new, and not the first one's -/
def Left2 (p q : Part) (w : World) (G H Y : Nat → Prop) (w' : World) : Prop := ∃ G' H', p.is w' G' ∧ q.is w' H' ∧ (∀ k, G' k → G k ∨ w.heap.size ≤ k) ∧ (∀ k, H' k → H k ∨ w.heap.size ≤ k) ∧ (∀ k, G' k → ¬ H' k) ∧ (∀ k, Y k → w.heap.size ≤ k ∧ k < w'.heap.size ∧ ¬ G' k) ∧ Touch (fun k => G k ∨ H k) w w'
def NoY : Nat → Prop := fun _ => False
/-- where they lie; X: blocks that are nobody's; Y: blocks that are nobody's but perhaps the o-th one's -/
structure AsideAt (w : World) (n : Nat) (ps : Nat → Part) (Gs : Nat → Nat → Prop) (X : Nat → Prop) (o : Nat) (Y : Nat → Prop) : Prop where
  is : ∀ i, i < n → (ps i).is w (Gs i)
  apart : ∀ i j k, i < n → j < n → i ≠ j → Gs i k → ¬ Gs j k
  free : ∀ k, X k → k < w.heap.size ∧ ∀ i, i < n → ¬ Gs i k
  half : ∀ k, Y k → k < w.heap.size ∧ ∀ i, i < n → i ≠ o → ¬ Gs i k
/-- several, apart -/
def Aside (w : World) (n : Nat) (ps : Nat → Part) (X : Nat → Prop) (o : Nat) (Y : Nat → Prop) : Prop := ∃ Gs, AsideAt w n ps Gs X o Y
section
variable {w w' : World} {n : Nat} {ps ps' : Nat → Part} {Gs : Nat → Nat → Prop} {X Y Y' : Nat → Prop} {o : Nat}
theorem Aside.later (h : Aside w n ps X o Y) (hb : Below w.heap.size w w') : Aside w' n ps X o Y := by
  obtain ⟨Gs, h⟩ := h
  exact ⟨Gs, fun i hi => (ps i).kept _ _ _ (h.is i hi) (fun k hk => hb.block k ((ps i).lt _ _ (h.is i hi) k hk)) hb.size, h.apart, fun k hk => ⟨Nat.lt_of_lt_of_le (h.free k hk).1 hb.size, (h.free k hk).2⟩, fun k hk => ⟨Nat.lt_of_lt_of_le (h.half k hk).1 hb.size, (h.half k hk).2⟩⟩
/-- fewer blocks that are nobody's, and none that are half so -/
theorem Aside.less {X' : Nat → Prop} {o' : Nat} (h : Aside w n ps X o Y) (hX : ∀ k, X' k → X k) : Aside w n ps X' o' NoY := by
  obtain ⟨Gs, h⟩ := h
  exact ⟨Gs, h.is, h.apart, fun k hk => h.free k (hX k hk), fun k hk => hk.elim⟩
/-- what is new is nobody's -/
theorem Aside.more (h : Aside w n ps X o Y) (hb : Below w.heap.size w w') : Aside w' n ps (fun k => X k ∨ (w.heap.size ≤ k ∧ k < w'.heap.size)) o Y := by
  obtain ⟨Gs, h⟩ := h
  refine ⟨Gs, fun i hi => (ps i).kept _ _ _ (h.is i hi) (fun k hk => hb.block k ((ps i).lt _ _ (h.is i hi) k hk)) hb.size, h.apart, fun k hk => ?_, fun k hk => ⟨Nat.lt_of_lt_of_le (h.half k hk).1 hb.size, (h.half k hk).2⟩⟩
  rcases hk with h1 | h1
  · exact ⟨Nat.lt_of_lt_of_le (h.free k h1).1 hb.size, (h.free k h1).2⟩
  · exact ⟨h1.2, fun i hi e => by have := (ps i).lt _ _ (h.is i hi) k e; omega⟩
theorem Aside.new (h : Aside w n ps X o Y) (x : Obj) : Aside (w.alloc x) n ps (fun k => X k ∨ k = w.heap.size) o Y := by
  obtain ⟨Gs, h⟩ := h.more (boxed (Below.refl _ w) x)
  exact ⟨Gs, h.is, h.apart, fun k hk => h.free k (by
    rcases hk with h1 | h1
    · exact .inl h1
    · exact .inr ⟨by omega, by simp; omega⟩), h.half⟩
/-- one of them changes -/
theorem AsideAt.step (h : AsideAt w n ps Gs X o Y) {i : Nat} (hi : i < n) {p : Part} (hl : Left p w (Gs i) w') (e1 : ps' i = p) (e2 : ∀ j, j < n → j ≠ i → ps' j = ps j) (ho : i ≠ o) : Aside w' n ps' X o Y ∧ Keeps (fun k => X k ∨ Y k) w w' := by
  obtain ⟨G', p1, p2, tt⟩ := hl
  refine ⟨⟨fun j => if j = i then G' else Gs j, fun j hj => ?_, fun a b k ha hb hab hk hk2 => ?_, fun k hk => ⟨Nat.lt_of_lt_of_le (h.free k hk).1 tt.size, fun j hj hg => ?_⟩, fun k hk => ⟨Nat.lt_of_lt_of_le (h.half k hk).1 tt.size, fun j hj hjo hg => ?_⟩⟩, tt.os, tt.tape, tt.output, tt.size, fun k hk => ?_⟩
  · by_cases hji : j = i
    · rw [if_pos hji, hji, e1]; exact p1
    · rw [if_neg hji, e2 j hj hji]
      refine (ps j).kept _ _ _ (h.is j hj) (fun k hk => tt.block k ((ps j).lt _ _ (h.is j hj) k hk) (fun e => h.apart j i k hj hi hji hk e)) tt.size
  · by_cases ga : a = i
    · rw [if_pos ga] at hk
      have gb : b ≠ i := fun e => hab (ga.trans e.symm)
      rw [if_neg gb] at hk2
      rcases p2 k hk with h1 | h1
      · exact h.apart i b k hi hb (Ne.symm gb) h1 hk2
      · have := (ps b).lt _ _ (h.is b hb) k hk2; omega
    · rw [if_neg ga] at hk
      by_cases gb : b = i
      · rw [if_pos gb] at hk2
        rcases p2 k hk2 with h1 | h1
        · exact h.apart a i k ha hi ga hk h1
        · have := (ps a).lt _ _ (h.is a ha) k hk; omega
      · rw [if_neg gb] at hk2
        exact h.apart a b k ha hb hab hk hk2
  · by_cases hji : j = i
    · rw [if_pos hji] at hg
      rcases p2 k hg with h1 | h1
      · exact (h.free k hk).2 i hi h1
      · have := (h.free k hk).1; omega
    · rw [if_neg hji] at hg
      exact (h.free k hk).2 j hj hg
  · by_cases hji : j = i
    · rw [if_pos hji] at hg
      rcases p2 k hg with h1 | h1
      · exact (h.half k hk).2 i hi ho h1
      · have := (h.half k hk).1; omega
    · rw [if_neg hji] at hg
      exact (h.half k hk).2 j hj hjo hg
  · rcases hk with h1 | h1
    · exact tt.block k (h.free k h1).1 (fun e => (h.free k h1).2 i hi e)
    · exact tt.block k (h.half k h1).1 (fun e => (h.half k h1).2 i hi ho e)
/-- two of them change; what is new may be the second one's -/
theorem AsideAt.step2 (h : AsideAt w n ps Gs X o NoY) {i j : Nat} (hi : i < n) (hj : j < n) {p q : Part} (hl : Left2 p q w (Gs i) (Gs j) Y' w') (e1 : ps' i = p) (e1' : ps' j = q) (e2 : ∀ m, m < n → m ≠ i → m ≠ j → ps' m = ps m) : Aside w' n ps' X j Y' ∧ Keeps X w w' := by
  obtain ⟨G', H', p1, q1, p2, q2, pq, hY, tt⟩ := hl
  refine ⟨⟨fun m => if m = i then G' else if m = j then H' else Gs m, fun m hm => ?_, fun a b k ha hb hab hk hk2 => ?_, fun k hk => ⟨Nat.lt_of_lt_of_le (h.free k hk).1 tt.size, fun m hm hg => ?_⟩, fun k hk => ⟨(hY k hk).2.1, fun m hm hmj hg => ?_⟩⟩, tt.os, tt.tape, tt.output, tt.size, fun k hk => ?_⟩
  · by_cases g1 : m = i
    · rw [if_pos g1, g1, e1]; exact p1
    · by_cases g2 : m = j
      · rw [if_neg g1, if_pos g2, g2, e1']; exact q1
      · rw [if_neg g1, if_neg g2, e2 m hm g1 g2]
        exact (ps m).kept _ _ _ (h.is m hm) (fun k hk => tt.block k ((ps m).lt _ _ (h.is m hm) k hk) (fun e => by
          rcases e with e | e
          · exact h.apart m i k hm hi g1 hk e
          · exact h.apart m j k hm hj g2 hk e)) tt.size
  · have old : ∀ m, m < n → m ≠ i → m ≠ j → Gs m k → ¬ G' k ∧ ¬ H' k := fun m hm g1 g2 hg => by
      have lt := (ps m).lt _ _ (h.is m hm) k hg
      constructor
      · intro e
        rcases p2 k e with h1 | h1
        · exact h.apart m i k hm hi g1 hg h1
        · omega
      · intro e
        rcases q2 k e with h1 | h1
        · exact h.apart m j k hm hj g2 hg h1
        · omega
    by_cases ai : a = i
    · rw [if_pos ai] at hk
      have bi : b ≠ i := fun e => hab (ai.trans e.symm)
      rw [if_neg bi] at hk2
      by_cases bj : b = j
      · rw [if_pos bj] at hk2
        exact pq k hk hk2
      · rw [if_neg bj] at hk2
        exact (old b hb bi bj hk2).1 hk
    · rw [if_neg ai] at hk
      by_cases aj : a = j
      · rw [if_pos aj] at hk
        have bj : b ≠ j := fun e => hab (aj.trans e.symm)
        by_cases bi : b = i
        · rw [if_pos bi] at hk2
          exact pq k hk2 hk
        · rw [if_neg bi, if_neg bj] at hk2
          exact (old b hb bi bj hk2).2 hk
      · rw [if_neg aj] at hk
        by_cases bi : b = i
        · rw [if_pos bi] at hk2
          exact (old a ha ai aj hk).1 hk2
        · rw [if_neg bi] at hk2
          by_cases bj : b = j
          · rw [if_pos bj] at hk2
            exact (old a ha ai aj hk).2 hk2
          · rw [if_neg bj] at hk2
            exact h.apart a b k ha hb hab hk hk2
  · have f := h.free k hk
    by_cases g1 : m = i
    · rw [if_pos g1] at hg
      rcases p2 k hg with h1 | h1
      · exact f.2 i hi h1
      · have := f.1; omega
    · rw [if_neg g1] at hg
      by_cases g2 : m = j
      · rw [if_pos g2] at hg
        rcases q2 k hg with h1 | h1
        · exact f.2 j hj h1
        · have := f.1; omega
      · rw [if_neg g2] at hg
        exact f.2 m hm hg
  · by_cases g1 : m = i
    · rw [if_pos g1] at hg
      exact (hY k hk).2.2 hg
    · rw [if_neg g1, if_neg hmj] at hg
      have := (ps m).lt _ _ (h.is m hm) k hg
      have := (hY k hk).1
      omega
  · exact tt.block k (h.free k hk).1 (fun e => by
      rcases e with e | e
      · exact (h.free k hk).2 i hi e
      · exact (h.free k hk).2 j hj e)
/-- two of them change, and what is half nobody's stays: it is another one's -/
theorem AsideAt.step2h (h : AsideAt w n ps Gs X o Y) {i j : Nat} (hi : i < n) (hj : j < n) (ho : o ≠ i) (ho2 : o ≠ j) {p q : Part} (hl : Left2 p q w (Gs i) (Gs j) NoY w') (e1 : ps' i = p) (e1' : ps' j = q) (e2 : ∀ m, m < n → m ≠ i → m ≠ j → ps' m = ps m) : Aside w' n ps' X o NoY ∧ Keeps (fun k => X k ∨ Y k) w w' := by
  obtain ⟨r1, r2⟩ := AsideAt.step2 (ps' := ps') ⟨h.is, h.apart, h.free, fun k hk => hk.elim⟩ hi hj hl e1 e1' e2 (o := o)
  obtain ⟨G', H', p1, q1, p2, q2, pq, hY, tt⟩ := hl
  refine ⟨r1.less (fun k hk => hk), r2.os, r2.tape, r2.output, r2.size, fun k hk => ?_⟩
  rcases hk with h1 | h1
  · exact r2.block k h1
  · exact tt.block k (h.half k h1).1 (fun e => by
      rcases e with e | e
      · exact (h.half k h1).2 i hi (Ne.symm ho) e
      · exact (h.half k h1).2 j hj (Ne.symm ho2) e)
end

end Go.Proofs.YtpncedpfoakfkaaGreatDoor

namespace Go.Proofs.YtpncedpfoakfkaaGreatDoor
open Go.RowKit

theorem txsC_length (l : List TxM) : (txsC l).length = l.length * 9 := by
  induction l with
  | nil => rfl
  | cons x l ih =>
    show (txC x ++ txsC l).length = _
    rw [List.length_append, ih]
    simp [txC]
    omega
theorem txsC_one (l : List TxM) : ∀ u ∈ txsC l, u.oneCell' = true := by
  intro u hu
  obtain ⟨x, _, hx⟩ := List.mem_flatMap.1 hu
  exact txC_one x u hx
theorem txsC_inv : ∀ (l : List TxM) (j : Nat) (u : Value), (txsC l)[j]? = some u → ∃ m, l[j / 9]? = some m ∧ (txC m)[j % 9]? = some u
  | [], j, u, h => by simp [txsC] at h
  | x :: l, j, u, h => by
    have e : txsC (x :: l) = txC x ++ txsC l := rfl
    rw [e] at h
    have hx : (txC x).length = 9 := rfl
    by_cases hj : j < 9
    · rw [List.getElem?_append_left (by rw [hx]; exact hj)] at h
      exact ⟨x, by rw [Nat.div_eq_of_lt hj]; rfl, by rw [Nat.mod_eq_of_lt hj]; exact h⟩
    · rw [List.getElem?_append_right (by rw [hx]; omega), hx] at h
      obtain ⟨m, h1, h2⟩ := txsC_inv l (j - 9) u h
      refine ⟨m, ?_, ?_⟩
      · rw [show j / 9 = (j - 9) / 9 + 1 by omega]
        simpa using h1
      · rw [show j % 9 = (j - 9) % 9 by omega]
        exact h2
/-- the source's cells -/
theorem txs_news {w : World} {wb off : Nat} {l : List TxM} (h : ∀ i m r u, l[i]? = some m → (txC m)[r]? = some u → w.cell? ⟨wb, off + (i * 9 + r), none⟩ = some u) : ∀ j u, (txsC l)[j]? = some u → w.cell? ((⟨wb, off, none⟩ : Addr).add j) = some u := fun j u hu => by
  obtain ⟨m, h1, h2⟩ := txsC_inv l j u hu
  have hadd : (⟨wb, off, none⟩ : Addr).add j = ⟨wb, off + j, none⟩ := by unfold Addr.add; split <;> simp_all
  rw [hadd]
  have := h (j / 9) m (j % 9) u h1 h2
  rw [show j / 9 * 9 + j % 9 = j by omega] at this
  exact this

/-- of a nil source nothing comes -/
theorem run_append_none (w : World) (ty : TypeId) (g n cap c : Nat) (hc : n ≤ cap) : (Builtin.append_ #[35, 35] ty #[.slice (some ⟨g, 0, none⟩) n cap, .slice none 0 c]).run Tryz.prog w = .ok (.slice (some ⟨g, 0, none⟩) n cap) w := by
  simp [Builtin.append_, go_sem, Builtin.lenOf, Builtin.firstCells, hc]

/-- behind a row that is no nil one -/
theorem run_append_txs (w : World) (ty : TypeId) {g n cap : Nat} {xs : List Value} (hown : w.ownsRow 0 44 9 (.slice (some ⟨g, 0, none⟩) n cap) n xs) {a : Option Addr} {c : Nat} {l : List TxM} (hT : TxsIn w a c l) (hl : n + l.length ≤ 2000) :
    ∃ g' cap' w', (Builtin.append_ #[35, 35] ty #[.slice (some ⟨g, 0, none⟩) n cap, .slice a l.length c]).run Tryz.prog w = .ok (.slice (some ⟨g', 0, none⟩) (n + l.length) cap') w' ∧
      w'.ownsRow 0 44 9 (.slice (some ⟨g', 0, none⟩) (n + l.length) cap') (n + l.length) (xs ++ txsC l) ∧ w.grownBy w' (some g) ∧ (g' = g ∨ g' = w.heap.size) ∧ g' < w'.heap.size := by
  obtain ⟨i0, hi, hz0, hz1, hz2⟩ := info_parts txInfo
  have hgl : g < w.heap.size := (hown.lt g (by simp [Value.ownBlock])).2
  have hcap : n ≤ cap := by
    rcases hown.2 with ⟨h, _⟩ | ⟨g2, cap2, cur, e, _, _, h3, _⟩
    · cases h
    · injection e with _ _ e3
      rw [e3]
      exact h3
  cases a with
  | none =>
    have h0 : l = [] := by
      rcases hT.held with h | ⟨_, _, h, _⟩
      · exact h
      · cases h
    subst h0
    refine ⟨g, cap, w, run_append_none w ty g n cap c hcap, ?_, ⟨rfl, rfl, rfl, Nat.le_refl _, fun _ _ _ => rfl⟩, .inl rfl, hgl⟩
    show w.ownsRow 0 _ 9 _ n (xs ++ [])
    rw [List.append_nil]
    exact hown
  | some ad =>
    have hn : ∀ j u, (txsC l)[j]? = some u → w.cell? (ad.add j) = some u := by
      rcases hT.held with h | ⟨wb, off, h, hc⟩
      · subst h
        intro j u hu
        simp [txsC] at hu
      · injection h with h
        subst h
        exact txs_news hc
    obtain ⟨v', w', hr, h2, h3, h4, h5⟩ := run_append_own_at (P := Tryz.prog) w 0 35 ty 44 i0 (.agg #[.int .i64 0, .int .i64 0, .int .i64 0, .int .i64 0, .int .i64 0, .int .i64 0, .int .i64 0, .int .i64 0, .slice none 0 0]) 9 88 Tryz.underlying35 hi hz0 hz1 hz2 rfl (by decide) (.slice (some ⟨g, 0, none⟩) n cap) n xs hown ad l.length c (txsC l) (txsC_length l) hn (txsC_one l) (by simp only [maxLen]; omega) (by omega) (Nat.zero_le _)
    rcases h2.2 with ⟨e, _⟩ | ⟨g', cap', cur, rfl, _, _⟩
    · have := (h4.1 e).1
      cases this
    · refine ⟨g', cap', w', hr, h2, h3, ?_, (h2.lt g' (by simp [Value.ownBlock])).2⟩
      rcases h5 with h | h
      · exact .inl (by simpa [Value.ownBlock] using h)
      · exact .inr (by simpa [Value.ownBlock] using h)

theorem step_append_txs {ops : Array Oper} {o : Oper} {a : Act} {K : Act → World → Prop} {Q : Exit → Act → World → Prop} {E : Prop} (w : World) (hgd : o.guard = none) (s x : Operand) (ho : o.op = .call { callee := .builtin .append, args := #[s, x], argTypes := #[35, 35] })
    {g n cap : Nat} {xs : List Value} (hs : a.eval s = .slice (some ⟨g, 0, none⟩) n cap) (hown : w.ownsRow 0 44 9 (.slice (some ⟨g, 0, none⟩) n cap) n xs) {sa : Option Addr} {c : Nat} {l : List TxM} (hx : a.eval x = .slice sa l.length c) (hT : TxsIn w sa c l) (hl : n + l.length ≤ 2000)
    (h : ∀ g' cap' w', w'.ownsRow 0 44 9 (.slice (some ⟨g', 0, none⟩) (n + l.length) cap') (n + l.length) (xs ++ txsC l) → w.grownBy w' (some g) → (g' = g ∨ g' = w.heap.size) → g' < w'.heap.size → K (a.put o.dst (.slice (some ⟨g', 0, none⟩) (n + l.length) cap')) w') :
    if Region.wanted o (yielded ops a.tmps) = true then Oper.wp Tryz.prog o a w K Q else E := by
  have hw : Region.wanted o (yielded ops a.tmps) = true := by simp [Region.wanted, hgd]
  rw [if_pos hw]
  obtain ⟨g', cap', w', hr, h2, h3, h4, h5⟩ := run_append_txs w o.type hown hT hl
  unfold Oper.wp execOp
  simp only [ho, resolve, invoke, builtin, Sem.run_bind, Sem.run_pure, Result.andThen_ok, List.map_toArray, List.map_cons, List.map_nil, hs, hx, hr]
  exact h g' cap' w' h2 h3 h4 h5

end Go.Proofs.YtpncedpfoakfkaaGreatDoor

namespace Go.Proofs.YtpncedpfoakfkaaGreatDoor
open Go.RowKit

/-- the best of the first k: none (-1), or where it is -/
def BestIs (S : SiteS) (waits : List TxM) (k : Nat) (z : Int) : Prop :=
  (z = -1 ∧ ∀ j x, j < k → waits[j]? = some x → readyS S x.t = false) ∨
  (∃ (i : Nat) (x : TxM), z = i ∧ i < k ∧ waits[i]? = some x ∧ readyS S x.t = true ∧ (∀ j y, j < k → waits[j]? = some y → readyS S y.t = true → x.t.site ≤ y.t.site) ∧ ∀ j y, j < i → waits[j]? = some y → readyS S y.t = true → x.t.site < y.t.site)
theorem best_start (S : SiteS) (waits : List TxM) : BestIs S waits 0 (-1) := .inl ⟨rfl, fun j x h => by omega⟩
theorem best_no {S : SiteS} {waits : List TxM} {k : Nat} {z : Int} {x : TxM} (h : BestIs S waits k z) (hx : waits[k]? = some x) (hr : readyS S x.t = false) : BestIs S waits (k + 1) z := by
  have ext : ∀ j y, j < k + 1 → waits[j]? = some y → readyS S y.t = true → j < k := fun j y hj hy hyr => by
    rcases Nat.lt_or_ge j k with h1 | h1
    · exact h1
    · have : j = k := by omega
      subst this
      rw [hx] at hy
      injection hy with hy
      subst hy
      rw [hr] at hyr
      cases hyr
  rcases h with ⟨rfl, h⟩ | ⟨i, y, rfl, h1, h2, h3, h4, h5⟩
  · refine .inl ⟨rfl, fun j y hj hy => ?_⟩
    cases hyr : readyS S y.t with
    | false => rfl
    | true => rw [← hyr]; exact h j y (ext j y hj hy hyr) hy
  · exact .inr ⟨i, y, rfl, by omega, h2, h3, fun j u hj hu hur => h4 j u (ext j u hj hu hur) hu hur, h5⟩
theorem best_first {S : SiteS} {waits : List TxM} {k : Nat} {x : TxM} (h : BestIs S waits k (-1)) (hx : waits[k]? = some x) (hr : readyS S x.t = true) : BestIs S waits (k + 1) k := by
  rcases h with ⟨_, h⟩ | ⟨i, y, e, _⟩
  · refine .inr ⟨k, x, rfl, by omega, hx, hr, fun j y hj hy hyr => ?_, fun j y hj hy hyr => ?_⟩
    · rcases Nat.lt_or_ge j k with h1 | h1
      · rw [h j y h1 hy] at hyr; cases hyr
      · have : j = k := by omega
        subst this
        rw [hx] at hy
        injection hy with hy
        rw [hy]
        exact Int.le_refl _
    · rw [h j y hj hy] at hyr; cases hyr
  · omega
theorem best_at {S : SiteS} {waits : List TxM} {k : Nat} {z : Int} (h : BestIs S waits k z) (hz : 0 ≤ z) : ∃ (i : Nat) (x : TxM), z = i ∧ i < k ∧ waits[i]? = some x := by
  rcases h with ⟨e, _⟩ | ⟨i, x, e, h1, h2, _⟩
  · omega
  · exact ⟨i, x, e, h1, h2⟩
theorem best_less {S : SiteS} {waits : List TxM} {k i : Nat} {x y : TxM} (h : BestIs S waits k i) (hy : waits[i]? = some y) (hx : waits[k]? = some x) (hr : readyS S x.t = true) (hl : x.t.site < y.t.site) : BestIs S waits (k + 1) k := by
  rcases h with ⟨e, _⟩ | ⟨i', y', e, h1, h2, h3, h4, h5⟩
  · omega
  · have : i' = i := by omega
    subst this
    rw [hy] at h2
    injection h2 with h2
    subst h2
    refine .inr ⟨k, x, rfl, by omega, hx, hr, fun j u hj hu hur => ?_, fun j u hj hu hur => ?_⟩
    · rcases Nat.lt_or_ge j k with h6 | h6
      · have := h4 j u h6 hu hur
        omega
      · have : j = k := by omega
        subst this
        rw [hx] at hu
        injection hu with hu
        rw [hu]
        exact Int.le_refl _
    · have := h4 j u hj hu hur
      omega
theorem best_keep {S : SiteS} {waits : List TxM} {k i : Nat} {x y : TxM} (h : BestIs S waits k i) (hy : waits[i]? = some y) (hx : waits[k]? = some x) (hl : ¬ x.t.site < y.t.site) : BestIs S waits (k + 1) i := by
  rcases h with ⟨e, _⟩ | ⟨i', y', e, h1, h2, h3, h4, h5⟩
  · omega
  · have : i' = i := by omega
    subst this
    rw [hy] at h2
    injection h2 with h2
    subst h2
    refine .inr ⟨i', y, rfl, by omega, hy, h3, fun j u hj hu hur => ?_, h5⟩
    rcases Nat.lt_or_ge j k with h6 | h6
    · exact h4 j u h6 hu hur
    · have : j = k := by omega
      subst this
      rw [hx] at hu
      injection hu with hu
      rw [← hu]
      omega
/-- the first of a list that is so -/
theorem find_first {α : Type} {p : α → Bool} : ∀ {l : List α} {i : Nat} {x : α}, l[i]? = some x → p x = true → (∀ j y, j < i → l[j]? = some y → p y = false) → l.find? p = some x
  | [], _, _, h, _, _ => by simp at h
  | a :: l, 0, x, h, hp, _ => by
    simp at h
    subst h
    simp [hp]
  | a :: l, i + 1, x, h, hp, hn => by
    have h0 := hn 0 a (by omega) rfl
    rw [List.find?_cons, h0]
    exact find_first (l := l) (i := i) (by simpa using h) hp (fun j y hj hy => hn (j + 1) y (by omega) (by simpa using hy))
theorem best_end {S : SiteS} {waits : List TxM} {z : Int} (h : BestIs S waits waits.length z) (hw : waits.map (·.t) = S.waits) (hs : ∀ x ∈ S.waits, 0 ≤ x.site ∧ x.site ≤ 3) :
    (z = -1 ∧ nextS S = none) ∨ ∃ (i : Nat) (x : TxM), z = i ∧ waits[i]? = some x ∧ nextS S = some x.t := by
  rcases h with ⟨rfl, h⟩ | ⟨i, x, rfl, h1, h2, h3, h4, h5⟩
  · have no : ∀ s, pickS S s = none := fun s => pickS_none' (fun t ht _ => by
      rw [← hw] at ht
      obtain ⟨m, hm, rfl⟩ := List.mem_map.1 ht
      obtain ⟨j, hj⟩ := List.getElem?_of_mem hm
      exact h j m (List.getElem?_eq_some_iff.1 hj).1 hj)
    exact .inl ⟨rfl, by simp [nextS, no]⟩
  · refine .inr ⟨i, x, rfl, h2, ?_⟩
    have hget : S.waits[i]? = some x.t := by rw [← hw, List.getElem?_map, h2]; rfl
    have back : ∀ j t, S.waits[j]? = some t → ∃ m, waits[j]? = some m ∧ m.t = t ∧ j < waits.length := fun j t hj => by
      rw [← hw, List.getElem?_map] at hj
      cases hm : waits[j]? with
      | none => rw [hm] at hj; cases hj
      | some m =>
        rw [hm] at hj
        injection hj with hj
        exact ⟨m, rfl, hj, (List.getElem?_eq_some_iff.1 hm).1⟩
    have pk : pickS S x.t.site = some x.t := by
      refine find_first hget (by simp [h3]) (fun j t hj ht => ?_)
      obtain ⟨m, m1, rfl, m3⟩ := back j t ht
      cases hr : readyS S m.t with
      | false => simp
      | true =>
        have := h5 j m hj m1 hr
        simp
        omega
    have lo : ∀ s, s < x.t.site → pickS S s = none := fun s hlt => pickS_none' (fun t ht hts => by
      obtain ⟨j, hj⟩ := List.getElem?_of_mem ht
      obtain ⟨m, m1, rfl, m3⟩ := back j t hj
      cases hr : readyS S m.t with
      | false => rfl
      | true =>
        have := h4 j m m3 m1 hr
        omega)
    obtain ⟨b0, b3⟩ := hs x.t (List.mem_of_getElem? hget)
    have hc : x.t.site = 0 ∨ x.t.site = 1 ∨ x.t.site = 2 ∨ x.t.site = 3 := by omega
    unfold nextS
    rcases hc with e | e | e | e <;> rw [e] at pk lo
    · rw [pk]
    · rw [lo 0 (by omega), pk]
    · rw [lo 0 (by omega), lo 1 (by omega), pk]
    · rw [lo 0 (by omega), lo 1 (by omega), lo 2 (by omega), pk]

end Go.Proofs.YtpncedpfoakfkaaGreatDoor
