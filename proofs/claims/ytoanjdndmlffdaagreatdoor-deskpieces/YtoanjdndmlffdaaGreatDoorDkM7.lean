import Derived.Test.YtoanjdndmlffdaaGreatDoorDkM5
namespace Go.Proofs.YtoanjdndmlffdaaGreatDoor
open Go.RowKit
set_option maxRecDepth 100000
set_option maxHeartbeats 8000000
/-- cells, one behind the other -/
structure RowC (w : World) (b : Nat) (vs : List Value) : Prop where
  cell : ∀ j v, vs[j]? = some v → w.cell? ⟨b, j, none⟩ = some v
  lt : b < w.heap.size
theorem RowC.kept {w w' : World} {b : Nat} {vs : List Value} (h : RowC w b vs) (e : w'.heap[b]? = w.heap[b]?) (hs : w.heap.size ≤ w'.heap.size) : RowC w' b vs :=
  ⟨fun j v hv => by rw [World.cell?_of_block (w := w) e]; exact h.cell j v hv, Nat.lt_of_lt_of_le h.lt hs⟩
theorem RowC.later {w w' : World} {b : Nat} {vs : List Value} (h : RowC w b vs) (hb : Below w.heap.size w w') : RowC w' b vs := h.kept (hb.block b h.lt) hb.size
theorem RowC.far {w : World} {b : Nat} {vs : List Value} (h : RowC w b vs) (p : Addr) (u : Value) (hn : p.block ≠ b) : RowC (w.setCell p u) b vs := h.kept (Below.heap_setCell _ _ _ _ (Ne.symm hn)) (by simp [World.setCell])
theorem RowC.boxed {w : World} {b : Nat} {vs : List Value} (h : RowC w b vs) (o : Obj) : RowC (w.alloc o) b vs := h.kept (Below.heap_alloc _ _ _ h.lt) (by simp)
theorem RowC.drew {w : World} {b : Nat} {vs : List Value} (h : RowC w b vs) : RowC w.drew b vs := h.kept rfl (Nat.le_refl _)
/-- a Site with whatever number -/
structure SiIs (W : WoS) (k a0 a1 a2 a3 wn vn er : Int) (tx : List ByteArray) : Prop where
  cmd : CmdTo 14 W [k] ⟨#[]⟩ W er (if er = 0 then blkd [a0, a1, a2, a3] ++ [44, 32] ++ blkd [wn, vn] ++ [44, 32] ++ Lib.join (tx.map (·.data.toList)) [32] else [])
  wf : ∀ x ∈ [a0, a1, a2, a3, wn, vn], wfI x
  tl : tx.length = 8
  ts : ∀ x ∈ tx, x.size ≤ 13
def TxtIn (w w' : World) (tx : List ByteArray) (v : Value) : Prop := ∃ tb tc, v = .slice (some ⟨tb, 0, none⟩) 8 tc ∧ 8 ≤ tc ∧ RowC w' tb (tx.map Value.string) ∧ w.heap.size ≤ tb
theorem toldV_short {a0 a1 a2 a3 : Int} {l : List Hd} {key : Int} (h : ∀ x ∈ l, okVer x.v = true) : (toldV a0 a1 a2 a3 l key).size ≤ 13 := by
  unfold toldV
  split
  · have := readV_short (key := key) (a0 := a0) (a1 := a1) (a2 := a2) (a3 := a3) h
    rw [ByteArray.size_append]
    show 1 + _ ≤ 13
    omega
  · exact Nat.zero_le _
theorem op_site {b : Nat} {G : Nat → Prop} {W : WoS} (k : Int) (hD : DkI W) : ∃ a0 a1 a2 a3 wn vn er tx, SiIs W k a0 a1 a2 a3 wn vn er tx ∧ ∀ w, PW w b G W → Calls Tryz.prog 114 #[.pointer (some ⟨b, 0, none⟩), .int .i64 k] w fun e w' => ∃ v, e = .returned (.tuple #[.agg #[.int .i64 a0, .int .i64 a1, .int .i64 a2, .int .i64 a3], .int .i64 wn, v, .int .i64 vn, errV er]) ∧ Hid (er = 0 → TxtIn w w' tx v) ∧ Below w.heap.size w w' := by
  obtain ⟨j, hI⟩ := hD.pl
  by_cases hk : There k W.n
  · obtain ⟨i, rfl, hi, e⟩ := there_nat hk
    have hs := hI.wf.inv i hi
    have hw := hI.wf.wt i hi
    have hl := hs.len
    have hg := hs.log
    refine ⟨_, _, _, _, _, _, 0, (List.range 8).map (fun (q : Nat) => toldV (W.S i).a0 (W.S i).a1 (W.S i).a2 (W.S i).a3 (W.S i).l q), ⟨⟨rfl, by rw [if_pos hk, if_pos rfl]; exact ⟨by unfold siteTold siteTexts; rw [List.map_map]; rfl, rfl⟩⟩, fun x hx => ?_, by simp, fun x hx => ?_⟩, fun w h => (pw_site w h hI.wf hi).mono fun e w' ⟨v, h1, h2, h3⟩ => ⟨v, h1, fun _ => ?_, h3⟩⟩
    · simp only [List.mem_cons, List.not_mem_nil, or_false] at hx
      rcases hx with rfl | rfl | rfl | rfl | rfl | rfl
      · exact small_wf hs.a0
      · exact small_wf hs.a1
      · exact small_wf hs.a2
      · exact small_wf hs.a3
      · exact ⟨by omega, by omega⟩
      · exact ⟨by omega, by omega⟩
    · obtain ⟨q, _, rfl⟩ := List.mem_map.1 hx
      exact toldV_short hs.ok
    · obtain ⟨tb, tc, rfl, hB, hlt⟩ := h2.form (by decide)
      have hcs := h2.cells (g := tb) rfl
      have hcap : 8 ≤ tc := by
        rcases h2.2 with ⟨h, _⟩ | ⟨g', c', cur, hv, _, _, hnc, _⟩
        · cases h
        · cases hv; exact hnc
      refine ⟨tb, tc, rfl, hcap, ⟨fun q y hy => ?_, hlt⟩, hB⟩
      rw [List.map_map] at hy
      have := hcs q y hy
      rcases Nat.eq_zero_or_pos q with rfl | hj
      · simpa [Addr.add] using this
      · simpa [Addr.add, Nat.ne_of_gt hj] using this
  · refine ⟨0, 0, 0, 0, 0, 0, 2, List.replicate 8 ⟨#[]⟩, ⟨⟨rfl, by rw [if_neg hk]; exact ⟨rfl, rfl⟩⟩, fun x hx => ?_, rfl, fun x hx => ?_⟩, fun w h => (pw_site_no k w h hk).mono fun e w' ⟨h1, h2⟩ => ⟨_, h1, fun e => (by cases e), h2⟩⟩
    · simp at hx
      subst hx
      exact ⟨by decide, by decide⟩
    · rw [(List.mem_replicate.1 hx).2]; decide
section
variable {cb mb b j cap : Nat} {Gw G : Nat → Prop} {W : WoS} {a : Option Addr} {l : List ByteArray}
theorem site_no (w : World) (h : DoPre w cb mb b Gw G W j a cap l) (hn : numsN 1 l = none) : Calls Tryz.prog 60 #[.pointer (some ⟨cb, 0, none⟩), .slice a l.length cap] w (DoPost 14 W l w cb mb G) := by
  have HH : Hid (DoPre w cb mb b Gw G W j a cap l) := h
  have N1 : Hid (∀ w', Below w.heap.size w w' → Calls Tryz.prog 95 #[.slice a l.length cap] w' fun e w2 => e = thrown 3 ∧ Below w'.heap.size w' w2) := fun w' hb => (one_any h.sm w' (h.gl.later hb) (h.st.later hb)).mono fun e w2 ⟨h1, h2⟩ => by
    rcases h2 with ⟨v, hv, _⟩ | ⟨_, he⟩
    · rw [hv.out] at hn; cases hn
    · exact ⟨he, h1⟩
  have c0 := h.ck.cell0
  have HN : Hid (numsN 1 l = none) := hn
  have c0a : ∀ o, (w.alloc o).cell? ⟨cb, 0, none⟩ = some (.pointer (some ⟨b, 0, none⟩)) := fun o => cell_later (boxed (Below.refl _ w) o) c0
  clear h hn
  go_enter Tryz.func60, Tryz.ntmps60
  go_wp2
  go_region_dies
  all_goals
    refine (N1.out _ (by repeat (first | (with_reducible exact Below.refl _ _) | (with_reducible refine boxed ?_ _) | (with_reducible refine Below.drew ?_)))).mono ?_
    rintro e wa ⟨rfl, hba⟩
    exact ⟨rfl, HH.out.no (by decide) HN.out (behind (by repeat (first | (with_reducible exact Below.refl _ _) | (with_reducible refine boxed ?_ _) | (with_reducible refine Below.drew ?_))) hba)⟩
end
end Go.Proofs.YtoanjdndmlffdaaGreatDoor
