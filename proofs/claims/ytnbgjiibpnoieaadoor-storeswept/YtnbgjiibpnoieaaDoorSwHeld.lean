/-
  What copsekeep.pick, api.Tell and copsekeep.held do, as the model runs them.
-/
import Derived.Test.YtnbgjiibpnoieaaDoorFam
import Derived.Test.YtnbgjiibpnoieaaDoorTellB
namespace Go.Proofs.YtnbgjiibpnoieaaDoor
open Go.RowKit

theorem pick_num (a : Int) (n : Nat) (h0 : 0 < n) (h1 : n ≤ 1000000) : ∃ r : Nat, wrap64 ((IntKind.u64.wrap a).tmod n) = r ∧ r < n := by
  have hw : 0 ≤ IntKind.u64.wrap a := by
    unfold IntKind.wrap
    simp [IntKind.signed, IntKind.bits]
    omega
  rw [Int.tmod_eq_emod_of_nonneg hw]
  have b0 := Int.emod_nonneg (IntKind.u64.wrap a) (b := n) (by omega)
  have b1 := Int.emod_lt_of_pos (IntKind.u64.wrap a) (b := n) (by omega)
  refine ⟨(IntKind.u64.wrap a % n).toNat, ?_, by omega⟩
  unfold wrap64
  omega

set_option maxHeartbeats 1000000 in
theorem pick_fix (a : Int) (n : Nat) (h0 : 0 < n) (h1 : n ≤ 1000000) : ∃ r : Nat, r < n ∧ ∀ w,
    Calls Tryd.prog 41 #[.int .i64 a, .int .i64 n] w fun e w' => e = .returned (.int .i64 r) ∧ w' = w := by
  obtain ⟨r, hr, hlt⟩ := pick_num a n h0 h1
  refine ⟨r, hlt, fun w => ?_⟩
  clear hlt
  go_enter Tryd.func41, Tryd.ntmps41
  go_wp2_with fail
  go_ret
  exact ⟨by rw [← hr]; rfl, rfl⟩

theorem tell_errV (n : Int) (w : World) (hg : w.cell? ⟨0, 0, none⟩ = some (.iface 157 (.agg #[.pointer (some ⟨1, 28, none⟩)]))) :
    Calls Tryd.prog 43 #[errV n] w fun e w' => e = .returned (.int .i64 n) ∧ Below w.heap.size w w' := by
  unfold errV
  split
  · rename_i h
    rw [h]
    exact (tell_nil w).mono fun e w' ⟨he, hw⟩ => ⟨he, by rw [hw]; exact Below.refl _ _⟩
  · exact tell_errno n w hg

def hA : Ver := ⟨5, 0, 0, 1, ⟨#[97]⟩, false⟩
def hB : Ver := ⟨3, 0, 1, 1, ⟨#[98]⟩, false⟩
theorem held1 : putE [] 2 hA = 0 := by kernel_rfl
theorem held2 : putE [⟨2, hA⟩] 2 hB = 0 := by kernel_rfl
theorem heldL1 : putL [] 2 hA = [⟨2, hA⟩] := by unfold putL; rw [held1]; rfl
theorem heldL2 : putL [⟨2, hA⟩] 2 hB = [⟨2, hA⟩, ⟨2, hB⟩] := by unfold putL; rw [held2]; rfl
theorem heldR1 : readV 2 1 1 0 0 [⟨2, hA⟩, ⟨2, hB⟩] = (hA, 0) := by kernel_rfl
theorem heldR2 : readV 2 0 1 0 0 [⟨2, hA⟩, ⟨2, hB⟩] = (hB, 0) := by kernel_rfl
theorem heldAp : Apart [⟨2, hA⟩, ⟨2, hB⟩] := by
  intro x hx y hy _ ht
  simp only [List.mem_cons, List.not_mem_nil, or_false] at hx hy
  rcases hx with rfl | rfl <;> rcases hy with rfl | rfl
  · rfl
  · exact absurd ht.1 (by decide)
  · exact absurd ht.1 (by decide)
  · rfl
theorem heldOk : ∀ h ∈ [(⟨2, hA⟩ : Hd), ⟨2, hB⟩], okVer h.v = true := by
  intro x hx
  simp only [List.mem_cons, List.not_mem_nil, or_false] at hx
  rcases hx with rfl | rfl
  · kernel_rfl
  · kernel_rfl

set_option maxRecDepth 100000 in
set_option maxHeartbeats 4000000 in
theorem held_any (w : World) : Calls Tryd.prog 40 #[] w fun e w' => e = .returned (.bool true) ∧ Below w.heap.size w w' := by
  have F0 := fam_init w 0 _ _ _ (fam_none w)
  have hb0 := boxed (Below.refl w.heap.size w) (.cells #[.slice none 0 0, .slice none 0 0, .slice none 0 0, .slice none 0 0, .slice none 0 0, .slice none 0 0, .slice none 0 0, .slice none 0 0] 65)
  have P1 := fam_put F0 (i := 0) (by omega) (by simp [upd]) 2 hA
  simp only [upd_same, held1, heldL1] at P1
  go_enter Tryd.func40, Tryd.ntmps40
  go_wp2_with fail
  refine P1.mono ?_
  rintro e w1 ⟨rfl, F1, K1⟩
  have P2 := fam_put F1 (i := 0) (by omega) (by simp [upd]) 2 hB
  simp only [upd_same, held2, heldL2] at P2
  rw [show errV 0 = .nilIface from rfl]
  go_wp2_with fail
  refine P2.mono ?_
  rintro e w2 ⟨rfl, F2, K2⟩
  rw [show errV 0 = .nilIface from rfl]
  have R1 := fam_read F2 (i := 0) (by omega) (by simp [upd]) (by simp only [upd_same]; exact heldAp) (by simp only [upd_same]; exact heldOk) 2 1 1 0 0
  simp only [upd_same, heldR1] at R1
  go_wp2_with fail
  refine R1.mono ?_
  rintro e w3 ⟨rfl, hb3⟩
  rw [show errV 0 = .nilIface from rfl, show (verL hA).toArray = #[.int .i64 5, .int .i64 0, .int .i64 0, .int .i64 1, .string ⟨#[97]⟩, .bool false] from rfl]
  have hb3' := boxed hb3 (.cells #[.int .i64 5, .int .i64 0, .int .i64 0, .int .i64 1, .string ⟨#[97]⟩, .bool false] 71)
  have F3 := F2.later hb3'
  have R2 := fam_read F3 (i := 0) (by omega) (by simp [upd]) (by simp only [upd_same]; exact heldAp) (by simp only [upd_same]; exact heldOk) 2 0 1 0 0
  simp only [upd_same, heldR2] at R2
  have X1 := RowL.new (w := w3) (T := 71) [.int .i64 5, .int .i64 0, .int .i64 0, .int .i64 1, .string ⟨#[97]⟩, .bool false] rfl
  go_wp2_with fail
  refine R2.mono ?_
  rintro e w4 ⟨rfl, hb4⟩
  rw [show errV 0 = .nilIface from rfl, show (verL hB).toArray = #[.int .i64 3, .int .i64 0, .int .i64 1, .int .i64 1, .string ⟨#[98]⟩, .bool false] from rfl]
  have X2 := (X1.later hb4).boxed (.cells #[.int .i64 3, .int .i64 0, .int .i64 1, .int .i64 1, .string ⟨#[98]⟩, .bool false] 71)
  have x4 := X2.cell 4 _ rfl
  have s1 : (ByteArray.mk #[97]).toList == (ByteArray.mk #[97]).toList := by simp
  have s2 : (ByteArray.mk #[98]).toList == (ByteArray.mk #[98]).toList := by simp
  have hbf : Below w.heap.size w (w4.alloc (.cells #[.int .i64 3, .int .i64 0, .int .i64 1, .int .i64 1, .string ⟨#[98]⟩, .bool false] 71)) := by
    have b1 : Below w.heap.size w w1 := hb0.trans (K1.below (fun k hk => hk))
    have b2 : Below w.heap.size w w2 := b1.trans (K2.below (fun k hk => hk))
    have b3 := behind b2 hb3'
    exact boxed (behind b3 hb4) _
  clear X1 X2 F0 F1 F2 F3
  go_wp2_with fail
  go_ret
  exact ⟨rfl, hbf⟩

end Go.Proofs.YtnbgjiibpnoieaaDoor
