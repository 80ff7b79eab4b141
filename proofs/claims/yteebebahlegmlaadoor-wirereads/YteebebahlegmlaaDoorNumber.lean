/-
  What the document's own writing of a number is, as the model runs it (copseref.number).
-/
import Derived.Test.YteebebahlegmlaaDoorChecked
import Derived.Test.YteebebahlegmlaaDoorBytes
import Derived.WalkKit
import Derived.WalkSpells
import Derived.WalkLawsBesides
import Derived.Laws.BytesArg
import Derived.Deep.RegionHeld3
import Derived.Test.YteebebahlegmlaaDoorLater
namespace Go.Proofs.YteebebahlegmlaaDoor
open Go.RowKit

/-- a slice of one byte, made a string -/
theorem conv1 (W : World) (b c : Nat) (h : isByte (W.cell? ⟨b, 0, none⟩) = true) :
    (convert 44 9 (.slice (some ⟨b, 0, none⟩) 1 c)).run Tryd.prog W = .ok (.string (byteOf (W.cell? ⟨b, 0, none⟩))) W := by
  obtain ⟨n, hn⟩ : ∃ n, W.cell? ⟨b, 0, none⟩ = some (.int .u8 n) := by
    unfold isByte at h
    split at h
    · exact ⟨_, by assumption⟩
    · cases h
  rw [hn, byteOf_some]
  have := run_convert_bytes_arg (P := Tryd.prog) W 44 5 Tryd.underlying44 Tryd.underlying5 b 0 1 c [n] rfl (fun i hi => by
    obtain rfl : i = 0 := by omega
    exact hn) 9 Tryd.underlying9
  rw [this]
  rfl

set_option maxHeartbeats 400000 in
theorem number_one (n : Int) (w : World) (h0 : 0 ≤ n) (h1 : n < 128) :
    Calls Tryd.prog 32 #[.int .i64 n] w fun e w' => e = .returned (.string (byteS n)) ∧ Below w.heap.size w w' := by
  have hv := conv1
  have hi := isByte_some
  have ho := byteOf_some
  go_enter Tryd.func32, Tryd.ntmps32
  go_wp2_with fail
  go_ret
  exact ⟨rfl, boxed (Below.refl _ _) _⟩

theorem quo128 {n : Int} (h0 : 0 ≤ n) (hm : n < 1099511627777) : IntKind.i64.wrap (n.tdiv 128) = n / 128 := by
  rw [Int.tdiv_eq_ediv_of_nonneg h0]
  unfold IntKind.wrap
  simp [IntKind.signed, IntKind.bits]
  omega
theorem rem128 {n : Int} (h0 : 0 ≤ n) : IntKind.u8.wrap (IntKind.u8.wrap (n.tmod 128) + 128) = n % 128 + 128 := by
  rw [Int.tmod_eq_emod_of_nonneg h0]
  unfold IntKind.wrap
  simp [IntKind.signed, IntKind.bits]
  omega

set_option maxHeartbeats 1000000 in
theorem number_more (f : Nat) (n : Int) (w : World) (h0 : 0 ≤ n) (h1 : ¬ n < 128) (hm : n < 1099511627777) (hf : f < 100)
    (ih : ∀ w, Calls Tryd.prog 32 #[.int .i64 (n / 128)] w fun e w' => e = .returned (.string (numS f (n / 128))) ∧ Below w.heap.size w w') :
    Calls Tryd.prog 32 #[.int .i64 n] w fun e w' => e = .returned (.string (byteS (n % 128 + 128) ++ numS f (n / 128))) ∧ Below w.heap.size w w' := by
  have hv := conv1
  have hi := isByte_some
  have ho := byteOf_some
  have IH : Hid (∀ w, Calls Tryd.prog 32 #[.int .i64 (n / 128)] w fun e w' => e = .returned (.string (numS f (n / 128))) ∧ Below w.heap.size w w') := ih
  clear ih
  have q := quo128 h0 hm
  have r := rem128 h0
  have ha := fun w => addS (P := Tryd.prog) (byteS (n % 128 + 128)) (numS f (n / 128)) (by have := numS_size f (n / 128); rw [byteS_size]; omega) w
  go_enter Tryd.func32, Tryd.ntmps32
  go_wp2_with fail
  go_region_with ((go_at_call 32; with_reducible refine (IH.out _).mono ?_; rintro e wa ⟨rfl, hba⟩; have hS : Below w.heap.size w wa := behind (by repeat (first | (with_reducible assumption) | (with_reducible refine boxed ?_ _) | (with_reducible refine Below.drew ?_) | (with_reducible exact Below.refl _ _))) hba; obtain ⟨hc1, hf1⟩ := bcell hba))
  all_goals
    go_wp2_with fail
    go_ret
    refine ⟨rfl, ?_⟩
    repeat (first | (with_reducible assumption) | (with_reducible refine boxed ?_ _) | (with_reducible refine Below.drew ?_) | (with_reducible exact Below.refl _ _))

theorem number_f : ∀ (f : Nat) (n : Int), f < 100 → 0 ≤ n → n < 128 ^ (f + 1) → n < 1099511627777 → ∀ w,
    Calls Tryd.prog 32 #[.int .i64 n] w fun e w' => e = .returned (.string (numS f n)) ∧ Below w.heap.size w w'
  | 0, n, _, h0, h1, _, w => number_one n w h0 (by simpa using h1)
  | f + 1, n, hf, h0, h1, hm, w => by
    by_cases h : n < 128
    · rw [numS_lt h]
      exact number_one n w h0 h
    · rw [numS_ge h]
      have e : (128 : Int) ^ (f + 1 + 1) = 128 ^ (f + 1) * 128 := Int.pow_succ 128 (f + 1)
      rw [e] at h1
      exact number_more f n w h0 h hm (by omega) (fun w' => number_f f (n / 128) (by omega) (by omega) (by omega) (by omega) w')

/-- a number's bytes, of whatever may be a time -/
theorem number_any (n : Int) (w : World) (h0 : 0 ≤ n) (hm : n ≤ 1099511627776) :
    Calls Tryd.prog 32 #[.int .i64 n] w fun e w' => e = .returned (.string (numS 5 n)) ∧ Below w.heap.size w w' :=
  number_f 5 n (by omega) h0 (by have e : (128 : Int) ^ (5 + 1) = 4398046511104 := by decide
                                 rw [e]; omega) (by omega) w

end Go.Proofs.YteebebahlegmlaaDoor
