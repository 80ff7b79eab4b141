/-
  What plain.Same does, as the model runs it, where two transactions are the same.
-/
import Derived.Test.YteebebahlegmlaaEq
import Derived.Test.YteebebahlegmlaaEqVec
import Derived.Test.YteebebahlegmlaaWrites
import Derived.Test.YteebebahlegmlaaRows9
import Derived.LoopN
namespace Go.Proofs.Yteebebahlegmlaa
open Go.RowKit

theorem neStamp (a b : Int) (w : World) : (binOp .neq 23 (.agg #[.int .i64 a, .int .i64 b]) (.agg #[.int .i64 a, .int .i64 b])).run Try.prog w = .ok (.bool false) w := by
  rw [run_neq_struct, eqStamp]
  simp [Result.andThen]
theorem neVec (a b c d : Int) (w : World) : (binOp .neq 34 (.agg #[.int .i64 a, .int .i64 b, .int .i64 c, .int .i64 d]) (.agg #[.int .i64 a, .int .i64 b, .int .i64 c, .int .i64 d])).run Try.prog w = .ok (.bool false) w := by
  rw [run_neq_struct, eqVec]
  simp [Result.andThen]
theorem eqWrite (k : Int) (d : ByteArray) (g : Bool) (w : World) : (Op.equalIn 10000 43 (.agg #[.int .i64 k, .string d, .bool g]) (.agg #[.int .i64 k, .string d, .bool g])).run Try.prog w = .ok true w := by
  have u3 := Try.underlying3
  have a3 := Try.isAgg3
  have z3 := Try.sizeOf3
  have u4 := Try.underlying4
  have a4 := Try.isAgg4
  have z4 := Try.sizeOf4
  have u9 := Try.underlying9
  have a9 := Try.isAgg9
  have z9 := Try.sizeOf9
  have hS : Try.prog.underlying 43 = some (.struct (Try.prog.fieldsOf 43)) := by kernel_rfl
  have hp : Try.prog.stoodInHeld 43 = false := by kernel_rfl
  rw [show (10000 : Nat) = 9999 + 1 from rfl, run_equalIn_agg w 9999 43 _ _ hS hp]
  simp only [Program.fieldsOf, Try.underlying43]
  go_simp
theorem neWrite (k : Int) (d : ByteArray) (g : Bool) (w : World) : (binOp .neq 43 (.agg #[.int .i64 k, .string d, .bool g]) (.agg #[.int .i64 k, .string d, .bool g])).run Try.prog w = .ok (.bool false) w := by
  rw [run_neq_struct, eqWrite]
  simp [Result.andThen]

set_option maxHeartbeats 4000000 in
theorem same_any (site seq wall count d0 d1 d2 d3 : Int) (a a2 : Option Addr) (cap cap2 : Nat) (l : List Wr) (w : World) (hA : WrIn w a cap l) (hB : WrIn w a2 cap2 l) :
    Calls Try.prog 26 #[.agg #[.int .i64 site, .int .i64 seq, .int .i64 wall, .int .i64 count, .int .i64 d0, .int .i64 d1, .int .i64 d2, .int .i64 d3, .slice a l.length cap], .agg #[.int .i64 site, .int .i64 seq, .int .i64 wall, .int .i64 count, .int .i64 d0, .int .i64 d1, .int .i64 d2, .int .i64 d3, .slice a2 l.length cap2]] w fun e w' => e = .returned (.bool true) ∧ Below w.heap.size w w' := by
  have hne := Later.one
  have n1 := neStamp
  have n2 := neVec
  have n3 := neWrite
  have hb := boxed (boxed (Below.refl w.heap.size w) (.cells #[.int .i64 site, .int .i64 seq, .int .i64 wall, .int .i64 count, .int .i64 d0, .int .i64 d1, .int .i64 d2, .int .i64 d3, .slice a l.length cap] 41)) (.cells #[.int .i64 site, .int .i64 seq, .int .i64 wall, .int .i64 count, .int .i64 d0, .int .i64 d1, .int .i64 d2, .int .i64 d3, .slice a2 l.length cap2] 41)
  have hA1 := hA.later hb
  have hB1 := hB.later hb
  have c0 : ((w.alloc (.cells #[.int .i64 site, .int .i64 seq, .int .i64 wall, .int .i64 count, .int .i64 d0, .int .i64 d1, .int .i64 d2, .int .i64 d3, .slice a l.length cap] 41)).alloc (.cells #[.int .i64 site, .int .i64 seq, .int .i64 wall, .int .i64 count, .int .i64 d0, .int .i64 d1, .int .i64 d2, .int .i64 d3, .slice a2 l.length cap2] 41)).cell? ⟨w.heap.size, 0, none⟩ = some (.int .i64 site) := by go_simp
  have c1 : ((w.alloc (.cells #[.int .i64 site, .int .i64 seq, .int .i64 wall, .int .i64 count, .int .i64 d0, .int .i64 d1, .int .i64 d2, .int .i64 d3, .slice a l.length cap] 41)).alloc (.cells #[.int .i64 site, .int .i64 seq, .int .i64 wall, .int .i64 count, .int .i64 d0, .int .i64 d1, .int .i64 d2, .int .i64 d3, .slice a2 l.length cap2] 41)).cell? ⟨w.heap.size, 1, none⟩ = some (.int .i64 seq) := by go_simp
  have c2 : ((w.alloc (.cells #[.int .i64 site, .int .i64 seq, .int .i64 wall, .int .i64 count, .int .i64 d0, .int .i64 d1, .int .i64 d2, .int .i64 d3, .slice a l.length cap] 41)).alloc (.cells #[.int .i64 site, .int .i64 seq, .int .i64 wall, .int .i64 count, .int .i64 d0, .int .i64 d1, .int .i64 d2, .int .i64 d3, .slice a2 l.length cap2] 41)).cell? ⟨w.heap.size, 2, none⟩ = some (.int .i64 wall) := by go_simp
  have c3 : ((w.alloc (.cells #[.int .i64 site, .int .i64 seq, .int .i64 wall, .int .i64 count, .int .i64 d0, .int .i64 d1, .int .i64 d2, .int .i64 d3, .slice a l.length cap] 41)).alloc (.cells #[.int .i64 site, .int .i64 seq, .int .i64 wall, .int .i64 count, .int .i64 d0, .int .i64 d1, .int .i64 d2, .int .i64 d3, .slice a2 l.length cap2] 41)).cell? ⟨w.heap.size, 3, none⟩ = some (.int .i64 count) := by go_simp
  have c4 : ((w.alloc (.cells #[.int .i64 site, .int .i64 seq, .int .i64 wall, .int .i64 count, .int .i64 d0, .int .i64 d1, .int .i64 d2, .int .i64 d3, .slice a l.length cap] 41)).alloc (.cells #[.int .i64 site, .int .i64 seq, .int .i64 wall, .int .i64 count, .int .i64 d0, .int .i64 d1, .int .i64 d2, .int .i64 d3, .slice a2 l.length cap2] 41)).cell? ⟨w.heap.size, 4, none⟩ = some (.int .i64 d0) := by go_simp
  have c5 : ((w.alloc (.cells #[.int .i64 site, .int .i64 seq, .int .i64 wall, .int .i64 count, .int .i64 d0, .int .i64 d1, .int .i64 d2, .int .i64 d3, .slice a l.length cap] 41)).alloc (.cells #[.int .i64 site, .int .i64 seq, .int .i64 wall, .int .i64 count, .int .i64 d0, .int .i64 d1, .int .i64 d2, .int .i64 d3, .slice a2 l.length cap2] 41)).cell? ⟨w.heap.size, 5, none⟩ = some (.int .i64 d1) := by go_simp
  have c6 : ((w.alloc (.cells #[.int .i64 site, .int .i64 seq, .int .i64 wall, .int .i64 count, .int .i64 d0, .int .i64 d1, .int .i64 d2, .int .i64 d3, .slice a l.length cap] 41)).alloc (.cells #[.int .i64 site, .int .i64 seq, .int .i64 wall, .int .i64 count, .int .i64 d0, .int .i64 d1, .int .i64 d2, .int .i64 d3, .slice a2 l.length cap2] 41)).cell? ⟨w.heap.size, 6, none⟩ = some (.int .i64 d2) := by go_simp
  have c7 : ((w.alloc (.cells #[.int .i64 site, .int .i64 seq, .int .i64 wall, .int .i64 count, .int .i64 d0, .int .i64 d1, .int .i64 d2, .int .i64 d3, .slice a l.length cap] 41)).alloc (.cells #[.int .i64 site, .int .i64 seq, .int .i64 wall, .int .i64 count, .int .i64 d0, .int .i64 d1, .int .i64 d2, .int .i64 d3, .slice a2 l.length cap2] 41)).cell? ⟨w.heap.size, 7, none⟩ = some (.int .i64 d3) := by go_simp
  have c8 : ((w.alloc (.cells #[.int .i64 site, .int .i64 seq, .int .i64 wall, .int .i64 count, .int .i64 d0, .int .i64 d1, .int .i64 d2, .int .i64 d3, .slice a l.length cap] 41)).alloc (.cells #[.int .i64 site, .int .i64 seq, .int .i64 wall, .int .i64 count, .int .i64 d0, .int .i64 d1, .int .i64 d2, .int .i64 d3, .slice a2 l.length cap2] 41)).cell? ⟨w.heap.size, 8, none⟩ = some (.slice a l.length cap) := by go_simp
  have k0 : ((w.alloc (.cells #[.int .i64 site, .int .i64 seq, .int .i64 wall, .int .i64 count, .int .i64 d0, .int .i64 d1, .int .i64 d2, .int .i64 d3, .slice a l.length cap] 41)).alloc (.cells #[.int .i64 site, .int .i64 seq, .int .i64 wall, .int .i64 count, .int .i64 d0, .int .i64 d1, .int .i64 d2, .int .i64 d3, .slice a2 l.length cap2] 41)).cell? ⟨w.heap.size + 1, 0, none⟩ = some (.int .i64 site) := by go_simp
  have k1 : ((w.alloc (.cells #[.int .i64 site, .int .i64 seq, .int .i64 wall, .int .i64 count, .int .i64 d0, .int .i64 d1, .int .i64 d2, .int .i64 d3, .slice a l.length cap] 41)).alloc (.cells #[.int .i64 site, .int .i64 seq, .int .i64 wall, .int .i64 count, .int .i64 d0, .int .i64 d1, .int .i64 d2, .int .i64 d3, .slice a2 l.length cap2] 41)).cell? ⟨w.heap.size + 1, 1, none⟩ = some (.int .i64 seq) := by go_simp
  have k2 : ((w.alloc (.cells #[.int .i64 site, .int .i64 seq, .int .i64 wall, .int .i64 count, .int .i64 d0, .int .i64 d1, .int .i64 d2, .int .i64 d3, .slice a l.length cap] 41)).alloc (.cells #[.int .i64 site, .int .i64 seq, .int .i64 wall, .int .i64 count, .int .i64 d0, .int .i64 d1, .int .i64 d2, .int .i64 d3, .slice a2 l.length cap2] 41)).cell? ⟨w.heap.size + 1, 2, none⟩ = some (.int .i64 wall) := by go_simp
  have k3 : ((w.alloc (.cells #[.int .i64 site, .int .i64 seq, .int .i64 wall, .int .i64 count, .int .i64 d0, .int .i64 d1, .int .i64 d2, .int .i64 d3, .slice a l.length cap] 41)).alloc (.cells #[.int .i64 site, .int .i64 seq, .int .i64 wall, .int .i64 count, .int .i64 d0, .int .i64 d1, .int .i64 d2, .int .i64 d3, .slice a2 l.length cap2] 41)).cell? ⟨w.heap.size + 1, 3, none⟩ = some (.int .i64 count) := by go_simp
  have k4 : ((w.alloc (.cells #[.int .i64 site, .int .i64 seq, .int .i64 wall, .int .i64 count, .int .i64 d0, .int .i64 d1, .int .i64 d2, .int .i64 d3, .slice a l.length cap] 41)).alloc (.cells #[.int .i64 site, .int .i64 seq, .int .i64 wall, .int .i64 count, .int .i64 d0, .int .i64 d1, .int .i64 d2, .int .i64 d3, .slice a2 l.length cap2] 41)).cell? ⟨w.heap.size + 1, 4, none⟩ = some (.int .i64 d0) := by go_simp
  have k5 : ((w.alloc (.cells #[.int .i64 site, .int .i64 seq, .int .i64 wall, .int .i64 count, .int .i64 d0, .int .i64 d1, .int .i64 d2, .int .i64 d3, .slice a l.length cap] 41)).alloc (.cells #[.int .i64 site, .int .i64 seq, .int .i64 wall, .int .i64 count, .int .i64 d0, .int .i64 d1, .int .i64 d2, .int .i64 d3, .slice a2 l.length cap2] 41)).cell? ⟨w.heap.size + 1, 5, none⟩ = some (.int .i64 d1) := by go_simp
  have k6 : ((w.alloc (.cells #[.int .i64 site, .int .i64 seq, .int .i64 wall, .int .i64 count, .int .i64 d0, .int .i64 d1, .int .i64 d2, .int .i64 d3, .slice a l.length cap] 41)).alloc (.cells #[.int .i64 site, .int .i64 seq, .int .i64 wall, .int .i64 count, .int .i64 d0, .int .i64 d1, .int .i64 d2, .int .i64 d3, .slice a2 l.length cap2] 41)).cell? ⟨w.heap.size + 1, 6, none⟩ = some (.int .i64 d2) := by go_simp
  have k7 : ((w.alloc (.cells #[.int .i64 site, .int .i64 seq, .int .i64 wall, .int .i64 count, .int .i64 d0, .int .i64 d1, .int .i64 d2, .int .i64 d3, .slice a l.length cap] 41)).alloc (.cells #[.int .i64 site, .int .i64 seq, .int .i64 wall, .int .i64 count, .int .i64 d0, .int .i64 d1, .int .i64 d2, .int .i64 d3, .slice a2 l.length cap2] 41)).cell? ⟨w.heap.size + 1, 7, none⟩ = some (.int .i64 d3) := by go_simp
  have k8 : ((w.alloc (.cells #[.int .i64 site, .int .i64 seq, .int .i64 wall, .int .i64 count, .int .i64 d0, .int .i64 d1, .int .i64 d2, .int .i64 d3, .slice a l.length cap] 41)).alloc (.cells #[.int .i64 site, .int .i64 seq, .int .i64 wall, .int .i64 count, .int .i64 d0, .int .i64 d1, .int .i64 d2, .int .i64 d3, .slice a2 l.length cap2] 41)).cell? ⟨w.heap.size + 1, 8, none⟩ = some (.slice a2 l.length cap2) := by go_simp
  go_enter Try.func26, Try.ntmps26
  go_wp2_with fail
  obtain ⟨W, hW⟩ : ∃ W, ((w.alloc (.cells #[.int .i64 site, .int .i64 seq, .int .i64 wall, .int .i64 count, .int .i64 d0, .int .i64 d1, .int .i64 d2, .int .i64 d3, .slice a l.length cap] 41)).alloc (.cells #[.int .i64 site, .int .i64 seq, .int .i64 wall, .int .i64 count, .int .i64 d0, .int .i64 d1, .int .i64 d2, .int .i64 d3, .slice a2 l.length cap2] 41)) = W := ⟨_, rfl⟩
  rw [hW] at c0 c1 c2 c3 c4 c5 c6 c7 c8 k0 k1 k2 k3 k4 k5 k6 k7 k8 hb hA1 hB1 ⊢
  clear hW hA hB
  go_loopw [44] (fun iv wr => ∃ (k : Nat) (z : Int), k ≤ l.length ∧ z = k ∧ iv = .int .i64 z ∧ Below W.heap.size W wr) (fun i _ => l.length - (intOf i).toNat)
  case atStart => exact ⟨0, 0, by omega, rfl, rfl, Below.refl _ _⟩
  case round =>
    obtain ⟨k, z, hk, hz, rfl, hbr⟩ := hrel
    by_cases hlt : k < l.length
    · have h1 : z < (l.length : Int) := by omega
      have h2 : z.toNat = k := by omega
      have h3 : 0 ≤ z := by omega
      have HZ : Hid (z = k) := hz
      clear hz
      have hA2 := hA1.later hbr
      have hB2 := hB1.later hbr
      have hcA := hA2.cap
      have hlA := hA2.len
      have hcB := hB2.cap
      have hlB := hB2.len
      obtain ⟨b, off, rfl, CA⟩ : ∃ b off, a = some ⟨b, off, none⟩ ∧ WrCells wr b off l := by
        rcases hA2.held with h0 | h0
        · rw [h0] at hlt; simp at hlt
        · exact h0
      obtain ⟨b2, off2, rfl, CB⟩ : ∃ b off, a2 = some ⟨b, off, none⟩ ∧ WrCells wr b off l := by
        rcases hB2.held with h0 | h0
        · rw [h0] at hlt; simp at hlt
        · exact h0
      obtain ⟨x0, x1, x2⟩ := CA k hlt
      obtain ⟨y0, y1, y2⟩ := CB k hlt
      replace x0 := Later.cell x0
      replace x1 := Later.cell x1
      replace x2 := Later.cell x2
      replace y0 := Later.cell y0
      replace y1 := Later.cell y1
      replace y2 := Later.cell y2
      have c8' := Later.cell (cell_later hbr c8)
      have k8' := Later.cell (cell_later hbr k8)
      clear c0 c1 c2 c3 c4 c5 c6 c7 c8 k0 k1 k2 k3 k4 k5 k6 k7 k8 CA CB hA1 hB1 hA2 hB2
      go_wp2_with fail
      refine wp_region_later (by kernel_rfl) (by kernel_rfl) ?_
      repeat (go_big_quiet_step (fail))
      refine wpQuiet_nil ?_
      rintro w5 ⟨⟨_, hb7⟩, rfl⟩
      go_wp2_with fail
      go_roundw
      case rel => exact ⟨k + 1, z + 1, by omega, by have := HZ.out; omega, by go_num, behind hbr hb7⟩
      case measure => simp [intOf]; omega
    · go_wp2_with fail
      go_ret
      exact ⟨rfl, behind hb hbr⟩

end Go.Proofs.Yteebebahlegmlaa
