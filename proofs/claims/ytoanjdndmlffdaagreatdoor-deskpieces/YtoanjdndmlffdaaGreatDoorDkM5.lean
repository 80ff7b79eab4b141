import Derived.Test.YtoanjdndmlffdaaGreatDoorDkM4
import Derived.RegionDies
namespace Go.Proofs.YtoanjdndmlffdaaGreatDoor
open Go.RowKit
set_option maxRecDepth 100000
set_option maxHeartbeats 8000000
/-- a Client with whatever number -/
structure CliIs (W : WoS) (k at_ p0 p1 p2 p3 s0 s1 s2 s3 : Int) (op : Bool) (er : Int) : Prop where
  cmd : CmdTo 4 W [k] ⟨#[]⟩ W er (if er = 0 then blkd [at_] ++ [44, 32] ++ blkd [p0, p1, p2, p3] ++ if op = true then [44, 32] ++ blkd [s0, s1, s2, s3] else [] else [])
  wf : ∀ x ∈ [at_, p0, p1, p2, p3, s0, s1, s2, s3], wfI x
theorem small_wf {x : Int} (h : small x) : wfI x := ⟨by have := h.1; omega, by have := h.2; omega⟩
theorem op_client {b : Nat} {G : Nat → Prop} {W : WoS} (k : Int) (hD : DkI W) : ∃ at_ p0 p1 p2 p3 s0 s1 s2 s3 op er, CliIs W k at_ p0 p1 p2 p3 s0 s1 s2 s3 op er ∧ ∀ w, PW w b G W → Calls Tryz.prog 101 #[.pointer (some ⟨b, 0, none⟩), .int .i64 k] w fun e w' => e = .returned (.tuple #[.int .i64 at_, .agg #[.int .i64 p0, .int .i64 p1, .int .i64 p2, .int .i64 p3], .agg #[.int .i64 s0, .int .i64 s1, .int .i64 s2, .int .i64 s3], .bool op, errV er]) ∧ Below w.heap.size w w' := by
  obtain ⟨j, hI⟩ := hD.pl
  by_cases hk : There k W.c
  · obtain ⟨i, rfl, hi, e⟩ := there_nat hk
    have hs := hD.ses i hi
    have ha := hI.wf.at_ i hi
    have hn := hI.wf.n4
    refine ⟨_, _, _, _, _, _, _, _, _, _, 0, ⟨⟨rfl, by rw [if_pos hk]; exact ⟨rfl, rfl⟩⟩, fun x hx => ?_⟩, fun w h => pw_client w h hi⟩
    simp only [List.mem_cons, List.not_mem_nil, or_false] at hx
    rcases hx with rfl | rfl | rfl | rfl | rfl | rfl | rfl | rfl | rfl
    · exact ⟨by omega, by omega⟩
    · exact small_wf hs.p0
    · exact small_wf hs.p1
    · exact small_wf hs.p2
    · exact small_wf hs.p3
    · exact small_wf hs.s0
    · exact small_wf hs.s1
    · exact small_wf hs.s2
    · exact small_wf hs.s3
  · refine ⟨0, 0, 0, 0, 0, 0, 0, 0, 0, false, 2, ⟨⟨rfl, by rw [if_neg hk]; exact ⟨rfl, rfl⟩⟩, fun x hx => ?_⟩, fun w h => pw_client_no k w h hk⟩
    simp at hx
    subst hx
    exact ⟨by decide, by decide⟩
section
variable {cb mb b j cap : Nat} {Gw G : Nat → Prop} {W : WoS} {a : Option Addr} {l : List ByteArray}
theorem client_no (w : World) (h : DoPre w cb mb b Gw G W j a cap l) (hn : numsN 1 l = none) : Calls Tryz.prog 50 #[.pointer (some ⟨cb, 0, none⟩), .slice a l.length cap] w (DoPost 4 W l w cb mb G) := by
  have HH : Hid (DoPre w cb mb b Gw G W j a cap l) := h
  have N1 : Hid (∀ w', Below w.heap.size w w' → Calls Tryz.prog 95 #[.slice a l.length cap] w' fun e w2 => e = thrown 3 ∧ Below w'.heap.size w' w2) := fun w' hb => (one_any h.sm w' (h.gl.later hb) (h.st.later hb)).mono fun e w2 ⟨h1, h2⟩ => by
    rcases h2 with ⟨v, hv, _⟩ | ⟨_, he⟩
    · rw [hv.out] at hn; cases hn
    · exact ⟨he, h1⟩
  have c0 := h.ck.cell0
  have HN : Hid (numsN 1 l = none) := hn
  have c0a : ∀ o, (w.alloc o).cell? ⟨cb, 0, none⟩ = some (.pointer (some ⟨b, 0, none⟩)) := fun o => cell_later (boxed (Below.refl _ w) o) c0
  have c0b : ∀ o o2, ((w.alloc o).alloc o2).cell? ⟨cb, 0, none⟩ = some (.pointer (some ⟨b, 0, none⟩)) := fun o o2 => cell_later (boxed (boxed (Below.refl _ w) o) o2) c0
  clear h hn
  go_enter Tryz.func50, Tryz.ntmps50
  go_wp2
  go_region_dies
  all_goals
    refine (N1.out _ (by repeat (first | (with_reducible exact Below.refl _ _) | (with_reducible refine boxed ?_ _) | (with_reducible refine Below.drew ?_)))).mono ?_
    rintro e wa ⟨rfl, hba⟩
    exact ⟨rfl, HH.out.no (by decide) HN.out (behind (by repeat (first | (with_reducible exact Below.refl _ _) | (with_reducible refine boxed ?_ _) | (with_reducible refine Below.drew ?_))) hba)⟩
end
end Go.Proofs.YtoanjdndmlffdaaGreatDoor
