/-
  What store.Many does, as the model runs it.
-/
import Derived.Test.YtnbgjiibpnoieaaDoorPgPut
namespace Go.Proofs.YtnbgjiibpnoieaaDoor
open Go.RowKit

/-- how many there are of the first k keys -/
def manyN (Ls : Nat → List Ver) : Nat → Nat
  | 0 => 0
  | k + 1 => manyN Ls k + (Ls k).length
theorem manyN_le (Ls : Nat → List Ver) : ∀ {k m : Nat}, k ≤ m → manyN Ls k ≤ manyN Ls m
  | k, 0, h => by obtain rfl : k = 0 := by omega
                  exact Nat.le_refl _
  | k, m + 1, h => by
    rcases Nat.lt_or_ge k (m + 1) with h1 | h1
    · exact Nat.le_trans (manyN_le Ls (by omega)) (Nat.le_add_right _ _)
    · obtain rfl : k = m + 1 := by omega
      exact Nat.le_refl _

/-- one of eight slices -/
theorem index8 (x : Nat → Value) {k : Nat} (hk : k < 8) {z : Int} (hz : z = k) (w : World) : (Instr.index 63 (.agg #[x 0, x 1, x 2, x 3, x 4, x 5, x 6, x 7]) (.int .i64 z)).run Tryd.prog w = .ok (x k) w := by
  subst hz
  rcases eight hk with rfl | rfl | rfl | rfl | rfl | rfl | rfl | rfl <;> kernel_rfl

set_option maxRecDepth 100000 in
set_option maxHeartbeats 8000000 in
theorem pgMany_any {b : Nat} {F : Nat → Prop} {l : List Hd} (w : World) (hS : StP w b F l) (hl : l.length ≤ 1000) :
    Calls Tryd.prog 36 #[.pointer (some ⟨b, 0, none⟩)] w fun e w' => e = .returned (.int .i64 l.length) ∧ Below w.heap.size w w' := by
  obtain ⟨vs, Ls, R, PH, hF⟩ := id hS
  have k0 := R.cell (k := 0) (by omega)
  have k1 := R.cell (k := 1) (by omega)
  have k2 := R.cell (k := 2) (by omega)
  have k3 := R.cell (k := 3) (by omega)
  have k4 := R.cell (k := 4) (by omega)
  have k5 := R.cell (k := 5) (by omega)
  have k6 := R.cell (k := 6) (by omega)
  have k7 := R.cell (k := 7) (by omega)
  have CNT : manyN Ls 8 = l.length := by
    have := PH.count
    simp only [manyN]
    omega
  have CN : Hid (manyN Ls 8 = l.length) := CNT
  clear CNT
  go_enter Tryd.func36, Tryd.ntmps36
  go_wp2_with fail
  clear k0 k1 k2 k3 k4 k5 k6 k7
  go_loopw [3, 10] (fun mv iv wr => ∃ (k : Nat) (z y : Int), k ≤ 8 ∧ z = k ∧ y = manyN Ls k ∧ iv = .int .i64 z ∧ mv = .int .i64 y ∧ wr = w) (fun _ i _ => 8 - (intOf i).toNat)
  case atStart => exact ⟨0, 0, 0, by omega, rfl, rfl, rfl, rfl, rfl⟩
  case round =>
    obtain ⟨k, z, y, hk, hz, hy, rfl, rfl, rfl⟩ := hrel
    have HY : Hid (y = manyN Ls k) := hy
    have HZ : Hid (z = k) := hz
    by_cases hlt : k < 8
    · have hle2 := manyN_le Ls (show k + 1 ≤ 8 by omega)
      rw [CN.out] at hle2
      have hle3 : manyN Ls (k + 1) = manyN Ls k + (Ls k).length := rfl
      have h1 : z < 8 := by omega
      have h3 : 0 ≤ z := by omega
      obtain ⟨a, c, e, _⟩ := vsIn_own (R.own k hlt)
      have ix := index8 vs hlt hz
      rw [e] at ix
      have b1 : -9223372036854775808 ≤ y + ((Ls k).length : Int) := by omega
      have b2 : y + ((Ls k).length : Int) ≤ 9223372036854775807 := by omega
      clear hz hy hle3 hle2
      go_wp2_with fail
      go_roundw
      case rel => exact ⟨k + 1, z + 1, y + ((Ls k).length : Int), by omega, by have := HZ.out; omega, by have := HY.out; simp only [manyN]; omega, by go_num, by go_num, by first | rfl | trivial⟩
      case measure => simp [intOf]; have := HZ.out; omega
    · obtain rfl : k = 8 := by omega
      have h1 : ¬ z < 8 := by omega
      clear hz hy
      go_wp2_with fail
      go_ret
      exact ⟨by rw [HY.out, CN.out]; rfl, Below.refl _ _⟩

end Go.Proofs.YtnbgjiibpnoieaaDoor
