/-
  What copselaw.sameTexts does, as the model runs it, where two rows of texts are the same.
-/
import Derived.Test.YtnbgjiibpnoieaaDoorChecked
import Derived.Test.YtnbgjiibpnoieaaDoorLater
import Derived.Test.YtnbgjiibpnoieaaDoorRows9
import Derived.WalkSpells
import Derived.WalkLawsBesides
import Derived.LoopN
namespace Go.Proofs.YtnbgjiibpnoieaaDoor
open Go.RowKit

/-- a slice that holds the texts L: none, or its cells lie in one block -/
structure TxtIn (w : World) (a : Option Addr) (cap : Nat) (L : List ByteArray) : Prop where
  len : L.length ≤ cap
  cap : cap ≤ 9223372036854775807
  held : L = [] ∨ ∃ b off, a = some ⟨b, off, none⟩ ∧ ∀ i u, L[i]? = some u → w.cell? ⟨b, off + i, none⟩ = some (.string u)
theorem TxtIn.later {w w' : World} {a : Option Addr} {cap : Nat} {L : List ByteArray} (hb : Below w.heap.size w w') (h : TxtIn w a cap L) : TxtIn w' a cap L :=
  ⟨h.len, h.cap, h.held.elim .inl fun ⟨b, off, e, c⟩ => .inr ⟨b, off, e, fun i u hu => cell_later hb (c i u hu)⟩⟩
theorem txtIn_own {w : World} {B : Nat} {T : TypeId} {v : Value} {L : List ByteArray} (h : w.ownsRow B T 1 v L.length (L.map Value.string)) : ∃ a cap, v = .slice a L.length cap ∧ TxtIn w a cap L := by
  rcases h.2 with ⟨rfl, h0⟩ | ⟨g, cap, cur, rfl, hb, hg, hnc, hm, hs, ht⟩
  · exact ⟨none, 0, by rw [h0], ⟨by omega, by omega, .inl (List.eq_nil_of_length_eq_zero h0)⟩⟩
  · refine ⟨_, cap, rfl, ⟨hnc, by simp only [maxLen] at hm; omega, .inr ⟨g, 0, rfl, fun i u hu => ?_⟩⟩⟩
    have hc := h.cells (g := g) rfl i (.string u) (by rw [List.getElem?_map, hu]; rfl)
    rw [addr_add] at hc
    rw [Nat.zero_add]
    exact hc

set_option maxHeartbeats 2000000 in
theorem sameTexts_any {a a2 : Option Addr} {cap cap2 : Nat} {L : List ByteArray} (w : World) (hA : TxtIn w a cap L) (hB : TxtIn w a2 cap2 L) (hl : L.length ≤ 1000000) :
    Calls Tryd.prog 37 #[.slice a L.length cap, .slice a2 L.length cap2] w fun e w' => e = .returned (.bool true) ∧ Below w.heap.size w w' := by
  have hne := Later.one
  go_enter Tryd.func37, Tryd.ntmps37
  go_wp2_with fail
  go_loopw [5] (fun iv wr => ∃ (k : Nat) (z : Int), k ≤ L.length ∧ z = k ∧ iv = .int .i64 z ∧ Below w.heap.size w wr) (fun i _ => L.length - (intOf i).toNat)
  case atStart => exact ⟨0, 0, by omega, rfl, rfl, Below.refl _ _⟩
  case round =>
    obtain ⟨k, z, hk, hz, rfl, hb⟩ := hrel
    by_cases hlt : k < L.length
    · have h1 : z < (L.length : Int) := by omega
      have h2 : z.toNat = k := by omega
      have h3 : 0 ≤ z := by omega
      have HZ : Hid (z = k) := hz
      clear hz
      have hA4 := hA.later hb
      have hB4 := hB.later hb
      obtain ⟨b, off, rfl, CA⟩ : ∃ b off, a = some ⟨b, off, none⟩ ∧ ∀ i u, L[i]? = some u → wr.cell? ⟨b, off + i, none⟩ = some (.string u) := by
        rcases hA4.held with h0 | h0
        · rw [h0] at hlt; simp at hlt
        · exact h0
      obtain ⟨b2, off2, rfl, CB⟩ : ∃ b off, a2 = some ⟨b, off, none⟩ ∧ ∀ i u, L[i]? = some u → wr.cell? ⟨b, off + i, none⟩ = some (.string u) := by
        rcases hB4.held with h0 | h0
        · rw [h0] at hlt; simp at hlt
        · exact h0
      obtain ⟨u, hu⟩ : ∃ u, L[k]? = some u := ⟨L[k], List.getElem?_eq_getElem hlt⟩
      have x0 := Later.cell (CA k u hu)
      have y0 := Later.cell (CB k u hu)
      clear CA CB hA4 hB4 hu
      go_wp2_with fail
      refine wp_region_later (by kernel_rfl) (by kernel_rfl) ?_
      repeat (go_big_quiet_step (fail))
      refine wpQuiet_nil ?_
      rintro w5 ⟨⟨_, hb7⟩, rfl⟩
      go_wp2_with fail
      go_roundw
      case rel => exact ⟨k + 1, z + 1, by omega, by have := HZ.out; omega, by go_num, behind hb hb7⟩
      case measure => simp [intOf]; omega
    · have h4 : ¬ z < (L.length : Int) := by omega
      clear hz
      go_wp2_with fail
      go_ret
      exact ⟨rfl, hb⟩

end Go.Proofs.YtnbgjiibpnoieaaDoor
