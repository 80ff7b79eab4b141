/-
  What copselaw.few does, as the model runs it: whether a transaction is small enough to be held.
-/
import Derived.Test.YteebebahlegmlaaDoorWrites
import Derived.WalkSpells
import Derived.WalkLawsBesides
import Derived.LoopN
import Derived.Test.YteebebahlegmlaaDoorChecked
namespace Go.Proofs.YteebebahlegmlaaDoor
open Go.RowKit

set_option maxHeartbeats 1000000 in
theorem few_many (site seq wall count d0 d1 d2 d3 : Int) (a : Option Addr) (cap : Nat) (l : List Wr) (w : World) (h : 20 < (l.length : Int)) :
    Calls Tryd.prog 14 #[.agg #[.int .i64 site, .int .i64 seq, .int .i64 wall, .int .i64 count, .int .i64 d0, .int .i64 d1, .int .i64 d2, .int .i64 d3, .slice a l.length cap]] w fun e w' => e = .returned (.bool (fewB l)) ∧ Below w.heap.size w w' := by
  rw [fewB_many h]
  go_enter Tryd.func14, Tryd.ntmps14
  go_wp2_with fail
  go_ret
  exact ⟨rfl, boxed (Below.refl _ _) _⟩

set_option maxHeartbeats 1000000 in
theorem few_none (site seq wall count d0 d1 d2 d3 : Int) (a : Option Addr) (cap : Nat) (w : World) :
    Calls Tryd.prog 14 #[.agg #[.int .i64 site, .int .i64 seq, .int .i64 wall, .int .i64 count, .int .i64 d0, .int .i64 d1, .int .i64 d2, .int .i64 d3, .slice a 0 cap]] w fun e w' => e = .returned (.bool true) ∧ Below w.heap.size w w' := by
  go_enter Tryd.func14, Tryd.ntmps14
  go_wp2_with fail
  refine wp_loop_rounds 1 ?_
  rw [rounds_succ]
  go_wp2_with fail
  go_ret
  exact ⟨rfl, boxed (Below.refl _ _) _⟩

set_option maxHeartbeats 2000000 in
theorem few_some (site seq wall count d0 d1 d2 d3 : Int) (b off cap : Nat) (l : List Wr) (w : World) (h : ¬ 20 < (l.length : Int)) (hC : WrCells w b off l) :
    Calls Tryd.prog 14 #[.agg #[.int .i64 site, .int .i64 seq, .int .i64 wall, .int .i64 count, .int .i64 d0, .int .i64 d1, .int .i64 d2, .int .i64 d3, .slice (some ⟨b, off, none⟩) l.length cap]] w fun e w' => e = .returned (.bool (fewB l)) ∧ Below w.heap.size w w' := by
  have hlen : (l.length : Int) ≤ 20 := by omega
  have C := hC.later (boxed (Below.refl _ w) (.cells #[.int .i64 site, .int .i64 seq, .int .i64 wall, .int .i64 count, .int .i64 d0, .int .i64 d1, .int .i64 d2, .int .i64 d3, .slice (some ⟨b, off, none⟩) l.length cap] 40))
  clear hC h
  go_enter Tryd.func14, Tryd.ntmps14
  go_wp2_with fail
  go_loopw [3] (fun i wr => wr = w.alloc (.cells #[.int .i64 site, .int .i64 seq, .int .i64 wall, .int .i64 count, .int .i64 d0, .int .i64 d1, .int .i64 d2, .int .i64 d3, .slice (some ⟨b, off, none⟩) l.length cap] 40) ∧ ∃ (k : Nat) (z : Int), k ≤ l.length ∧ z = k ∧ i = .int .i64 z ∧ ∀ j, j < k → (wrAt l j).data.size ≤ 100) (fun i _ => l.length - (intOf i).toNat)
  case atStart => exact ⟨rfl, 0, 0, by omega, rfl, rfl, fun j hj => by omega⟩
  case round =>
    obtain ⟨rfl, k, z, hk, hz, rfl, HA0⟩ := hrel
    have HA : Hid (∀ j, j < k → (wrAt l j).data.size ≤ 100) := HA0
    clear HA0
    by_cases hlt : k < l.length
    · obtain ⟨x0, x1, x2⟩ := C k hlt
      have h1 : z < (l.length : Int) := by omega
      have h2 : z.toNat = k := by omega
      have h3 : 0 ≤ z := by omega
      have HZ : Hid (z = k) := hz
      clear hz
      by_cases h5 : 100 < ((wrAt l k).data.size : Int)
      · have e : Hid (fewB l = false) := fewB_big hlt h5
        go_wp2
        go_ret
        exact ⟨by rw [e.out]; rfl, boxed (Below.refl _ _) _⟩
      · have e : Hid (∀ j, j < k + 1 → (wrAt l j).data.size ≤ 100) := fun j hj => by
          rcases Nat.lt_or_ge j k with g | g
          · exact HA.out j g
          · obtain rfl : j = k := by omega
            omega
        go_wp2
        go_roundw
        case rel => exact ⟨by trivial, k + 1, z + 1, by omega, by have := HZ.out; omega, by go_num, e.out⟩
        case measure => simp [intOf]; omega
    · have e : Hid (fewB l = true) := fewB_all (by omega) (fun j hj => HA.out j (by omega))
      go_wp2
      go_ret
      exact ⟨by rw [e.out]; rfl, boxed (Below.refl _ _) _⟩

/-- whether a transaction is small enough, wherever its writes lie -/
theorem few_any (site seq wall count d0 d1 d2 d3 : Int) (a : Option Addr) (cap : Nat) (l : List Wr) (w : World) (hW : WrIn w a cap l) :
    Calls Tryd.prog 14 #[.agg #[.int .i64 site, .int .i64 seq, .int .i64 wall, .int .i64 count, .int .i64 d0, .int .i64 d1, .int .i64 d2, .int .i64 d3, .slice a l.length cap]] w fun e w' => e = .returned (.bool (fewB l)) ∧ Below w.heap.size w w' := by
  by_cases h : 20 < (l.length : Int)
  · exact few_many site seq wall count d0 d1 d2 d3 a cap l w h
  · rcases hW.held with rfl | ⟨b, off, rfl, hC⟩
    · exact few_none site seq wall count d0 d1 d2 d3 a cap w
    · exact few_some site seq wall count d0 d1 d2 d3 b off cap l w h hC

end Go.Proofs.YteebebahlegmlaaDoor
