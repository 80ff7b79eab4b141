import Derived.Test.YtoanjdndmlffdaaGreatDoorPgSmall
import Derived.Lib.JoinLaws
namespace Go.Proofs.YtoanjdndmlffdaaGreatDoor
open Go.RowKit
section
theorem verInfo : (Tryz.prog.info? 130).map (fun i => (i.zero, i.size, i.bytes)) = some (some (.agg #[.int .i64 0, .int .i64 0, .int .i64 0, .int .i64 0, .string ⟨#[]⟩, .bool false]), 6, 56) := by kernel_rfl
theorem verSize : (Tryz.prog.info? 130).map (·.size) = some 6 := by kernel_rfl

/-- what Insert leaves: a row, the same one or a new one -/
def InsPost (w : World) (sv : Value) (L' : List Ver) (g cap : Nat) (w' : World) : Prop :=
  w'.ownsRow 0 130 6 (.slice (some ⟨g, 0, none⟩) L'.length cap) L'.length (versL L') ∧ w.grownBy w' sv.ownBlock ∧ (sv.ownBlock = some g ∨ w.heap.size ≤ g)

/-- with v at place p -/
def insL (L : List Ver) (p : Nat) (v : Ver) : List Ver := L.take p ++ [v] ++ L.drop p
theorem insL_length {L : List Ver} {p : Nat} (v : Ver) (h : p ≤ L.length) : (insL L p v).length = L.length + 1 := by
  simp [insL]
  omega
theorem versL_ins (L : List Ver) (p : Nat) (v : Ver) : versL (insL L p v) = versL (L.take p) ++ verL v ++ versL (L.drop p) := by
  unfold insL
  rw [versL_append, versL_append, versL_one]

set_option maxRecDepth 100000 in
set_option maxHeartbeats 4000000 in
theorem insert_end {sv : Value} {L : List Ver} (v : Ver) (vb : Nat) (w : World) (hown : w.ownsRow 0 130 6 sv L.length (versL L)) (hl : L.length ≤ 1000) (hvb : w.heap[vb]? = some (.cells (verL v).toArray 130 (0, 0))) :
    Calls Tryz.prog 286 #[sv, .int .i64 L.length, .slice (some ⟨vb, 0, none⟩) 1 1] w fun e w' =>
      ∃ g cap, e = .returned (.slice (some ⟨g, 0, none⟩) (L.length + 1) cap) ∧ InsPost w sv (L ++ [v]) g cap w' := by
  obtain ⟨i0, hi, hz0, hz1, hz2⟩ := info_parts verInfo
  have hnews : ∀ j u, (verL v)[j]? = some u → w.cell? ((⟨vb, 0, none⟩ : Addr).add j) = some u := fun j u hu => by
    rw [addr_add, cell_of_row w vb j _ 130 (0, 0) hvb]
    simpa using hu
  have h1 : ∀ u ∈ verL v, u.oneCell' = true := fun u hu => versL_one' [v] u (by rw [versL_one]; exact hu)
  obtain ⟨a, cap, rfl, hV⟩ := vsIn_own hown
  have hc1 := hV.len
  have hc2 := hV.cap
  have HN : Hid (∀ j u, (verL v)[j]? = some u → w.cell? ((⟨vb, 0, none⟩ : Addr).add j) = some u) := hnews
  have HV : Hid (w.heap[vb]? = some (.cells (verL v).toArray 130 (0, 0))) := hvb
  clear hnews hvb hV
  obtain ⟨n, hn⟩ : ∃ n, L.length = n := ⟨_, rfl⟩
  have EL : Hid (L.length = n) := hn
  rw [hn] at hown hc1 hl ⊢
  clear hn
  have hs : (Value.slice a n cap = .slice none 0 0) ∨ ∃ g, a = some ⟨g, 0, none⟩ := by
    rcases hown.2 with ⟨h, _⟩ | ⟨g, c, cur, h, _⟩
    · exact .inl h
    · injection h with h _ _
      exact .inr ⟨g, h⟩
  have FIN : Hid (∀ g cap9 wE, wE.ownsRow 0 130 6 (.slice (some ⟨g, 0, none⟩) (n + 1) cap9) (n + 1) (versL L ++ verL v) → w.grownBy wE (Value.slice a n cap).ownBlock → ((Value.slice a n cap).ownBlock = some g ∨ g = w.heap.size) → InsPost w (.slice a n cap) (L ++ [v]) g cap9 wE) := fun g cap9 wE h1 h2 h3 =>
    ⟨by rw [versL_append, versL_one, List.length_append, EL.out]; exact h1, h2, h3.imp_right (fun e => by omega)⟩
  rcases hs with h0 | ⟨g0, rfl⟩
  · injection h0 with ha hn hcp
    subst ha hn hcp
    go_enter Tryz.func286, Tryz.ntmps286
    go_wp2_with (at_builtin; refine wpList_append_lies _ rfl _ _ 215 rfl 0 130 i0 (.agg #[.int .i64 0, .int .i64 0, .int .i64 0, .int .i64 0, .string ⟨#[]⟩, .bool false]) 6 56 Tryz.underlying215 hi hz0 hz1 hz2 rfl (by decide) _ _ (versL L) rfl hown ⟨vb, 0, none⟩ 1 1 (verL v) rfl rfl HN.out h1 (by decide) (by simp only [maxLen]; omega) (by omega) (by omega) _ rfl ?_; intro g cap9 wE ownE grE egE ltE; have HX : Hid (InsPost w (.slice none 0 0) (L ++ [v]) g cap9 wE) := FIN.out g cap9 wE ownE grE egE; clear ownE grE egE)
    go_ret
    exact ⟨g, cap9, rfl, HX.out⟩
  · go_enter Tryz.func286, Tryz.ntmps286
    go_wp2_with (at_builtin; refine wpList_append_lies _ rfl _ _ 215 rfl 0 130 i0 (.agg #[.int .i64 0, .int .i64 0, .int .i64 0, .int .i64 0, .string ⟨#[]⟩, .bool false]) 6 56 Tryz.underlying215 hi hz0 hz1 hz2 rfl (by decide) _ _ (versL L) rfl hown ⟨vb, 0, none⟩ 1 1 (verL v) rfl rfl HN.out h1 (by decide) (by simp only [maxLen]; omega) (by omega) (by omega) _ rfl ?_; intro g cap9 wE ownE grE egE ltE; have HX : Hid (InsPost w (.slice (some ⟨g0, 0, none⟩) n cap) (L ++ [v]) g cap9 wE) := FIN.out g cap9 wE ownE grE egE; clear ownE grE egE)
    all_goals
      go_ret
      exact ⟨g, cap9, rfl, HX.out⟩

set_option maxRecDepth 100000 in
set_option maxHeartbeats 4000000 in
theorem insert_shift {g n cap p : Nat} {L : List Ver} (v : Ver) (vb : Nat) (w : World) (hown : w.ownsRow 0 130 6 (.slice (some ⟨g, 0, none⟩) n cap) n (versL L)) (hn : L.length = n) (hl : n ≤ 1000) (hp : p < n) (hroom : n + 1 ≤ cap) (hvb : w.heap[vb]? = some (.cells (verL v).toArray 130 (0, 0))) (hne : vb ≠ g) :
    Calls Tryz.prog 286 #[.slice (some ⟨g, 0, none⟩) n cap, .int .i64 p, .slice (some ⟨vb, 0, none⟩) 1 1] w fun e w' =>
      ∃ g' cap', e = .returned (.slice (some ⟨g', 0, none⟩) (n + 1) cap') ∧ InsPost w (.slice (some ⟨g, 0, none⟩) n cap) (insL L p v) g' cap' w' := by
  obtain ⟨g1, cap1, cur, h', hB, hg, hnc, hcm, hcs, htake⟩ := hown.2.resolve_left (fun h => by simp at h)
  simp only [Value.slice.injEq, Option.some.injEq, Addr.mk.injEq, and_true, true_and] at h'
  obtain ⟨rfl, rfl⟩ := h'
  have hc63 : cap ≤ 9223372036854775807 := by simp only [maxLen] at hcm; omega
  have hD : (versL (L.drop p)).length = (n - p) * 6 := by rw [versL_length, List.length_drop, hn]
  have hA : (versL (L.take p)).length = p * 6 := by rw [versL_length, List.length_take]; omega
  have hcs' : ∀ j u, (versL L)[j]? = some u → w.cell? ⟨g, j, none⟩ = some u := fun j u hu => by have := hown.cells (g := g) rfl j u hu; rwa [addr_add] at this
  have hex : ∀ j, j < cap * 6 → (w.cell? ⟨g, j, none⟩).isSome = true := fun j hj => by rw [cell_of_row w g j cur _ (0, 0) hg, Array.getElem?_eq_getElem (by omega)]; rfl
  have hfz : ∀ j, w.frozen? ⟨g, j, none⟩ = false := fun j => frozen_of_row w g j cur _ hg
  have hnews : ∀ j u, (verL v)[j]? = some u → w.cell? ⟨vb, j, none⟩ = some u := fun j u hu => by
    rw [cell_of_row w vb j _ 130 (0, 0) hvb]
    simpa using hu
  have h1 : ∀ u ∈ verL v, u.oneCell' = true := fun u hu => versL_one' [v] u (by rw [versL_one]; exact hu)
  have hov : ∀ lb cb, (callFunc 290 #[.slice (some ⟨vb, 0, none⟩) 1 1, .slice (some ⟨g, (p + 1) * 6, none⟩) lb cb]).run Tryz.prog w = .ok (.value (.bool false)) w := fun lb cb => by
    rw [run_callFunc_extern Tryz.func290 (by kernel_rfl) (by kernel_rfl) (by kernel_rfl) (e := Extern.SlicesOverlaps.overlaps #[215, 215] #[4]) (by kernel_rfl),
      Lib.run_overlaps_apart w 215 4 130 Tryz.underlying215 6 Tryz.sizeOf130 ⟨vb, 0, none⟩ ⟨g, (p + 1) * 6, none⟩ 1 1 lb cb hne 130 130 6 cur.size (by simp [World.shape?, hvb, verL]) (by simp [World.shape?, hg]) (by omega) (by simp [World.frozen?, hvb]) (by simp [World.frozen?, hvb])]
    rfl
  have hcp1 : ∀ ty dc sc, (Builtin.copy_ #[215, 215] ty #[.slice (some ⟨g, (p + 1) * 6, none⟩) (n - p) dc, .slice (some ⟨g, p * 6, none⟩) (n + 1 - p) sc]).run Tryz.prog w.drew = .ok (goInt (n - p : Nat)) (w.drew.setCells g ((p + 1) * 6) (versL (L.drop p))) := fun ty dc sc =>
    run_copy_k w.drew _ _ ty 130 6 g ((p + 1) * 6) (n - p) dc ⟨g, p * 6, none⟩ (n + 1 - p) sc (n - p) (versL (L.drop p)) Tryz.underlying215 verSize (by simp only [Nat.min_def]; split <;> omega) hD
      (fun j u hj => by rw [Addr.add_lit]; exact hcs' (p * 6 + j) u (by rw [← versL_drop, List.getElem?_drop] at hj; exact hj))
      (fun j hj => hex _ (by omega)) (fun j _ => hfz _) (versL_one' _)
  obtain ⟨W1, hW1⟩ : ∃ W1, W1 = w.drew.setCells g ((p + 1) * 6) (versL (L.drop p)) := ⟨_, rfl⟩
  have hcp2 : ∀ (W : World), (∀ x, W.cell? x = W1.cell? x) → (∀ x, W.frozen? x = W1.frozen? x) → ∀ ty dc, (Builtin.copy_ #[215, 215] ty #[.slice (some ⟨g, p * 6, none⟩) (n + 1 - p) dc, .slice (some ⟨vb, 0, none⟩) 1 1]).run Tryz.prog W = .ok (goInt 1) (W.setCells g (p * 6) (verL v)) := fun W hWc hWf ty dc =>
    run_copy_k W _ _ ty 130 6 g (p * 6) (n + 1 - p) dc ⟨vb, 0, none⟩ 1 1 1 (verL v) Tryz.underlying215 verSize (by simp only [Nat.min_def]; split <;> omega) rfl
      (fun j u hj => by
        rw [addr_add, hWc, hW1, World.cell?_setCells_out g _ _ _ _ (fun h _ => absurd h hne)]
        exact hnews j u hj)
      (fun j hj => by
        rw [hWc, hW1]
        exact isSome_set g (versL (L.drop p)) ((p + 1) * 6) w.drew (fun t ht => hex ((p + 1) * 6 + t) (by omega)) (p * 6 + j) (hex (p * 6 + j) (by simp [verL] at hj; omega)))
      (fun j hj => by rw [hWf, hW1, World.frozen?_setCells]; exact hfz _) h1
  have OUT : Hid (InsPost w (.slice (some ⟨g, 0, none⟩) n cap) (insL L p v) g cap (W1.setCells g (p * 6) (verL v))) := by
    obtain ⟨c1, q1, q2⟩ := heap_setCells g (versL (L.drop p)) ((p + 1) * 6) w.drew (cur := cur) (T := 130) hg
    obtain ⟨c2, q3, q4⟩ := heap_setCells g (verL v) (p * 6) (w.drew.setCells g ((p + 1) * 6) (versL (L.drop p))) q1
    rw [hW1]
    refine ⟨own_of_cells (Nat.zero_le _) q3 hcm (by omega) (by rw [insL_length v (by omega)]; omega) (versL_length _) ?_, ?_, .inl rfl⟩
    · rw [versL_ins]
      have := cells_shift (w := w.drew) (g := g) (versL (L.take p)) (verL v) (versL (L.drop p)) (fun j u hj => hcs' j u (by rw [← versL_take, List.getElem?_take] at hj; split at hj; exact hj; cases hj)) (fun j hj => hex j (by rw [hA, hD, verL_length] at hj; omega))
      rw [hA, verL_length, show p * 6 + 6 = (p + 1) * 6 by omega] at this
      exact this
    · have o1 : Only g w w.drew := Only.ofBelow (Below.refl _ _).drew
      exact (o1.trans (only_setCells g _ _ _) (.inl rfl)).trans (only_setCells g _ _ _) (.inl rfl)
  rw [← hW1] at hcp1
  have hcp3 := hcp2 W1 (fun _ => rfl) (fun _ => rfl)
  clear hW1 hcp2
  have hw1 : IntKind.i64.wrap ((p : Int) + 1) = (p : Int) + 1 := by rw [IntKind.wrap_i64]; omega
  have hb1 : (0 : Int) ≤ (p : Int) + 1 := by omega
  have hin : p ≤ n := by omega
  have htn : ((p : Int) + 1).toNat = p + 1 := by omega
  have hb2 : ¬ (cap = p + 1) := by omega
  have hb3 : (p : Int) ≤ (n : Int) + 1 := by omega
  have hb4 : ¬ (cap = p) := by omega
  have hz2 : ¬ ((p : Int) = (n : Int)) := by omega
  have EL : Hid (L.length = n) := hn
  clear hD hA hcs' hex hfz hnews h1 htake hown hcs hB hg hvb hn
  go_enter Tryz.func286, Tryz.ntmps286
  go_wp2_with (simp only [hov])
  go_region_law (refine step_copy_run rfl _ _ 215 215 rfl _ _ (by simp [Act.eval, Act.put]) (by simp [Act.eval, Act.put]) (hcp1 _ _ _) ?_)
  go_wp2_with (at_builtin; refine wpList_copy_run _ rfl _ _ 215 215 rfl _ _ rfl rfl (hcp3 _ _) ?_)
  go_ret
  exact ⟨g, cap, rfl, OUT.out⟩
end
set_option maxRecDepth 100000 in
set_option maxHeartbeats 4000000 in
theorem insert_grow {g n cap p : Nat} {L : List Ver} (v : Ver) (vb : Nat) (w : World) (hown : w.ownsRow 0 130 6 (.slice (some ⟨g, 0, none⟩) n cap) n (versL L)) (hn : L.length = n) (hl : n ≤ 1000) (hp : p < n) (hroom : ¬ n + 1 ≤ cap) (hvb : w.heap[vb]? = some (.cells (verL v).toArray 130 (0, 0))) :
    Calls Tryz.prog 286 #[.slice (some ⟨g, 0, none⟩) n cap, .int .i64 p, .slice (some ⟨vb, 0, none⟩) 1 1] w fun e w' =>
      ∃ g' cap', e = .returned (.slice (some ⟨g', 0, none⟩) (n + 1) cap') ∧ InsPost w (.slice (some ⟨g, 0, none⟩) n cap) (insL L p v) g' cap' w' := by
  obtain ⟨g1, cap1, cur, h', hB, hg, hnc, hcm, hcs, htake⟩ := hown.2.resolve_left (fun h => by simp at h)
  simp only [Value.slice.injEq, Option.some.injEq, Addr.mk.injEq, and_true, true_and] at h'
  obtain ⟨rfl, rfl⟩ := h'
  obtain rfl : cap = n := by omega
  obtain ⟨i0, hi0, hz0, hzs, hzb⟩ := info_parts verInfo
  have hD : (versL (L.drop p)).length = (cap - p) * 6 := by rw [versL_length, List.length_drop, hn]
  have hA : (versL (L.take p)).length = p * 6 := by rw [versL_length, List.length_take]; omega
  have hcs' : ∀ j u, (versL L)[j]? = some u → w.cell? ⟨g, j, none⟩ = some u := fun j u hu => by have := hown.cells (g := g) rfl j u hu; rwa [addr_add] at this
  have hnews : ∀ j u, (verL v)[j]? = some u → w.cell? ⟨vb, j, none⟩ = some u := fun j u hu => by
    rw [cell_of_row w vb j _ 130 (0, 0) hvb]
    simpa using hu
  have h1 : ∀ u ∈ verL v, u.oneCell' = true := fun u hu => versL_one' [v] u (by rw [versL_one]; exact hu)
  have hbw : g < w.heap.size := (Array.getElem?_eq_some_iff.1 hg).1
  have hvw : vb < w.heap.size := (Array.getElem?_eq_some_iff.1 hvb).1
  have hold : (Builtin.firstCells i0.size p (.slice (some ⟨g, 0, none⟩) p cap)).run Tryz.prog w.drew = .ok (versL (L.take p)).toArray w.drew := by
    rw [hzs]
    exact run_firstCells_some w.drew 6 p ⟨g, 0, none⟩ p cap (versL (L.take p)) hA (fun j u hj => by
      rw [addr_add]
      rw [← versL_take, List.getElem?_take] at hj
      split at hj
      · exact hcs' j u hj
      · cases hj)
  obtain ⟨G, hG⟩ : ∃ G, G = grownCap w (cap + 1) cap 130 := ⟨_, rfl⟩
  have hGn : cap + 1 ≤ G := by rw [hG]; exact grownCap_ge w _ _ _
  have hGm : G ≤ maxLen := by rw [hG]; exact grownCap_le_maxLen w (cap + 1) cap _ (by unfold maxLen; omega)
  obtain ⟨ROW, hROW⟩ : ∃ ROW : Array Value, ROW = (versL (L.take p)).toArray ++ Builtin.zeroCells (Value.agg #[.int .i64 0, .int .i64 0, .int .i64 0, .int .i64 0, .string ⟨#[]⟩, .bool false]).cells (cap + 1 - p) ++ Builtin.zeroCells (Value.agg #[.int .i64 0, .int .i64 0, .int .i64 0, .int .i64 0, .string ⟨#[]⟩, .bool false]).cells (G - (cap + 1)) := ⟨_, rfl⟩
  have hz6 : (Value.agg #[.int .i64 0, .int .i64 0, .int .i64 0, .int .i64 0, .string ⟨#[]⟩, .bool false]).cells.size = 6 := rfl
  have hRs : ROW.size = G * 6 := by
    rw [hROW]
    simp only [Array.size_append, List.size_toArray, size_zeroCells, hz6, hA]
    omega
  have hRA : ∀ j u, (versL (L.take p))[j]? = some u → ROW[j]? = some u := fun j u hu => by
    have hj : j < (versL (L.take p)).length := (List.getElem?_eq_some_iff.1 hu).1
    rw [hROW, Array.append_assoc, Array.getElem?_append_left (by simpa using hj)]
    simpa using hu
  have hkk : (cap : Int) + 1 - (p : Int) = ((cap + 1 - p : Nat) : Int) := by omega
  have hik : p + (cap + 1 - p) = cap + 1 := by omega
  have hrz : ∀ ty, (Builtin.append_ #[215, 3] ty #[.slice (some ⟨g, 0, none⟩) p cap, .int .i64 ((cap : Int) + 1 - (p : Int))]).run Tryz.prog w =
      .ok (.slice (some ⟨w.heap.size, 0, none⟩) (cap + 1) G) (w.drew.alloc (.cells ROW 130)) := fun ty => by
    have h := Lib.run_append_grow_zeros w 215 3 ty 130 i0 _ .i64 .i64 Tryz.underlying215 Tryz.underlying3 hi0 hz0 (some ⟨g, 0, none⟩) p cap (versL (L.take p)) hold (cap + 1 - p) (by omega) (by omega) (by omega) (by omega) (by rw [hzb]; omega) (by rw [hzb, hik]; exact growslice_fits (by omega) (by omega))
    rw [hik, ← hG, ← hROW] at h
    rw [hkk]
    exact h
  obtain ⟨W1, hW1⟩ : ∃ W1, W1 = w.drew.alloc (.cells ROW 130) := ⟨_, rfl⟩
  have hgN : W1.heap[w.heap.size]? = some (.cells ROW 130 (0, 0)) := by rw [hW1]; exact heap_alloc_new w.drew _
  have hN : ∀ j, j < G * 6 → (W1.cell? ⟨w.heap.size, j, none⟩).isSome = true := fun j hj => by
    rw [cell_of_row W1 w.heap.size j ROW _ (0, 0) hgN, Array.getElem?_eq_getElem (by omega)]; rfl
  have hNA : ∀ j u, (versL (L.take p))[j]? = some u → W1.cell? ⟨w.heap.size, j, none⟩ = some u := fun j u hu => by
    rw [cell_of_row W1 w.heap.size j ROW _ (0, 0) hgN]
    exact hRA j u hu
  have hNf : ∀ j, W1.frozen? ⟨w.heap.size, j, none⟩ = false := fun j => frozen_of_row W1 w.heap.size j ROW _ hgN
  have hb1 : Below w.heap.size w W1 := by rw [hW1]; exact boxed (Below.refl _ w).drew _
  have hcpA : ∀ (W : World), (∀ x, W.cell? x = W1.cell? x) → (∀ x, W.frozen? x = W1.frozen? x) → ∀ ty dc, (Builtin.copy_ #[215, 215] ty #[.slice (some ⟨w.heap.size, p * 6, none⟩) (cap + 1 - p) dc, .slice (some ⟨vb, 0, none⟩) 1 1]).run Tryz.prog W = .ok (goInt 1) (W.setCells w.heap.size (p * 6) (verL v)) := fun W hWc hWf ty dc =>
    run_copy_k W _ _ ty 130 6 w.heap.size (p * 6) (cap + 1 - p) dc ⟨vb, 0, none⟩ 1 1 1 (verL v) Tryz.underlying215 verSize (by simp only [Nat.min_def]; split <;> omega) rfl
      (fun j u hj => by
        rw [addr_add, hWc]
        exact cell_later hb1 (hnews j u hj))
      (fun j hj => by rw [hWc]; exact hN _ (by simp [verL] at hj; omega))
      (fun j hj => by rw [hWf]; exact hNf _) h1
  have hcpB : ∀ (W : World), (∀ x, W.cell? x = (W1.setCells w.heap.size (p * 6) (verL v)).cell? x) → (∀ x, W.frozen? x = (W1.setCells w.heap.size (p * 6) (verL v)).frozen? x) → ∀ ty dc sc, (Builtin.copy_ #[215, 215] ty #[.slice (some ⟨w.heap.size, (p + 1) * 6, none⟩) (cap - p) dc, .slice (some ⟨g, p * 6, none⟩) (cap - p) sc]).run Tryz.prog W = .ok (goInt (cap - p : Nat)) (W.setCells w.heap.size ((p + 1) * 6) (versL (L.drop p))) := fun W hWc hWf ty dc sc =>
    run_copy_k W _ _ ty 130 6 w.heap.size ((p + 1) * 6) (cap - p) dc ⟨g, p * 6, none⟩ (cap - p) sc (cap - p) (versL (L.drop p)) Tryz.underlying215 verSize (by simp) hD
      (fun j u hj => by
        rw [Addr.add_lit, hWc, World.cell?_setCells_out _ _ _ _ _ (fun h _ => absurd h (by show g ≠ w.heap.size; omega))]
        exact cell_later hb1 (hcs' (p * 6 + j) u (by rw [← versL_drop, List.getElem?_drop] at hj; exact hj)))
      (fun j hj => by
        rw [hWc]
        exact isSome_set w.heap.size (verL v) (p * 6) W1 (fun t ht => hN (p * 6 + t) (by simp [verL] at ht; omega)) ((p + 1) * 6 + j) (hN ((p + 1) * 6 + j) (by omega)))
      (fun j hj => by rw [hWf, World.frozen?_setCells]; exact hNf _) (versL_one' _)
  obtain ⟨W2, hW2⟩ : ∃ W2, W2 = W1.setCells w.heap.size (p * 6) (verL v) := ⟨_, rfl⟩
  obtain ⟨W3, hW3⟩ : ∃ W3, W3 = W2.drew.setCells w.heap.size ((p + 1) * 6) (versL (L.drop p)) := ⟨_, rfl⟩
  have OUT : Hid (InsPost w (.slice (some ⟨g, 0, none⟩) cap cap) (insL L p v) w.heap.size G W3) := by
    obtain ⟨c1, q1, q2⟩ := heap_setCells w.heap.size (verL v) (p * 6) W1 hgN
    rw [← hW2] at q1
    obtain ⟨c2, q3, q4⟩ := heap_setCells w.heap.size (versL (L.drop p)) ((p + 1) * 6) W2.drew (cur := c1) (T := 130) q1
    rw [← hW3] at q3
    refine ⟨own_of_cells (Nat.zero_le _) q3 hGm (by omega) (by rw [insL_length v (by omega)]; omega) (versL_length _) ?_, ?_, .inr (Nat.le_refl _)⟩
    · rw [versL_ins]
      have := cells_shift2 (w := W1) (g := w.heap.size) (versL (L.take p)) (verL v) (versL (L.drop p)) hNA (fun j hj => hN j (by rw [hA, hD, verL_length] at hj; omega))
      rw [hA, verL_length, show p * 6 + 6 = (p + 1) * 6 by omega, ← hW2] at this
      intro j u hu
      rw [hW3]
      have e := this j u hu
      rw [← e]
      have hh : ∀ (vs : List Value) (o : Nat) (X : World), (X.drew.setCells w.heap.size o vs).heap = (X.setCells w.heap.size o vs).heap := by
        intro vs
        induction vs with
        | nil => intro o X; rfl
        | cons u vs ih => intro o X; exact ih (o + 1) (X.setCell ⟨w.heap.size, o, none⟩ u)
      unfold World.cell?
      rw [hh]
    · have o1 : Only w.heap.size W1 W2 := by rw [hW2]; exact only_setCells _ _ _ _
      have o2 : Only w.heap.size W2 W3 := by rw [hW3]; exact (Only.ofBelow (Below.refl _ _).drew).trans (only_setCells _ _ _ _) (.inl rfl)
      have o3 := (Only.ofBelow (g := w.heap.size) hb1).trans (o1.trans o2 (.inl rfl)) (.inl rfl)
      exact ⟨o3.os, o3.tape, o3.output, o3.size, fun k hk _ => o3.block k hk (fun e => by injection e; omega)⟩
  have hA3 := hcpA W1 (fun _ => rfl) (fun _ => rfl)
  have hB3 := hcpB W2.drew (fun x => by rw [← hW2]; rfl) (fun x => by rw [← hW2]; rfl)
  rw [← hW2] at hA3
  rw [← hW3] at hB3
  rw [← hW1] at hrz
  have hw1 : IntKind.i64.wrap ((p : Int) + 1) = (p : Int) + 1 := by rw [IntKind.wrap_i64]; omega
  have hw2 : (0 : Int) ≤ (p : Int) + 1 := by omega
  have hin : p ≤ cap := by omega
  have htn : ((p : Int) + 1).toNat = p + 1 := by omega
  have hG63 : G ≤ 9223372036854775807 := by simp only [maxLen] at hGm; omega
  have hG1 : ¬ (G = p + 1) := by omega
  have hG2 : ¬ (G = p) := by omega
  have hc1 : ¬ (cap = p) := by omega
  have hb3 : (p : Int) ≤ (cap : Int) + 1 := by omega
  have hb5 : (p : Int) ≤ (cap : Int) := by omega
  have hz2 : ¬ ((p : Int) = (cap : Int)) := by omega
  have hz3 : (cap : Int) < (cap : Int) + 1 := by omega
  have EL : Hid (L.length = cap) := hn
  clear hD hA hcs' hnews h1 htake hown hcs hB hg hvb hn hold hROW hG hRs hRA hz6 hW1 hW2 hW3 hgN hN hNA hNf hcpA hcpB hkk hik hi0 hz0 hzs hzb hb1 hnc hcm hGm
  go_enter Tryz.func286, Tryz.ntmps286
  go_wp2_with (first
    | (at_builtin; refine Lib.wpList_append_run _ rfl _ _ _ _ rfl _ _ rfl rfl _ _ (hrz _) ?_)
    | (at_builtin; refine wpList_copy_run _ rfl _ _ 215 215 rfl _ _ rfl rfl (hA3 _ _) ?_))
  go_region_law (refine step_copy_run rfl _ _ 215 215 rfl _ _ (by simp [Act.eval, Act.put]) (by simp [Act.eval, Act.put]) (hB3 _ _ _) ?_)
  go_wp2_with fail
  go_ret
  exact ⟨w.heap.size, G, rfl, OUT.out⟩

theorem insL_end (L : List Ver) (v : Ver) : insL L L.length v = L ++ [v] := by simp [insL]

theorem insert_any {sv : Value} {L : List Ver} {p : Nat} (v : Ver) (vb : Nat) (w : World) (hown : w.ownsRow 0 130 6 sv L.length (versL L)) (hp : p ≤ L.length) (hl : L.length ≤ 1000) (hvb : w.heap[vb]? = some (.cells (verL v).toArray 130 (0, 0))) (hne : sv.ownBlock ≠ some vb) :
    Calls Tryz.prog 286 #[sv, .int .i64 p, .slice (some ⟨vb, 0, none⟩) 1 1] w fun e w' =>
      ∃ g cap, e = .returned (.slice (some ⟨g, 0, none⟩) (L.length + 1) cap) ∧ InsPost w sv (insL L p v) g cap w' := by
  rcases Nat.lt_or_ge p L.length with h | h
  · rcases hown.2 with ⟨_, h0⟩ | ⟨g, cap, cur, rfl, _⟩
    · omega
    · by_cases hroom : L.length + 1 ≤ cap
      · exact insert_shift v vb w hown rfl hl h hroom hvb (fun e => hne (by rw [e]; rfl))
      · exact insert_grow v vb w hown rfl hl h hroom hvb
  · obtain rfl : p = L.length := by omega
    rw [insL_end]
    exact insert_end v vb w hown hl hvb
end Go.Proofs.YtoanjdndmlffdaaGreatDoor
