/-
  The reader of package wire: what take, kind and isDone do, as the model runs them.
-/
import Derived.Test.YteebebahlegmlaaReader
namespace Go.Proofs.Yteebebahlegmlaa
open Go.RowKit

/-- what take is -/
def TakeIs (R : List UInt8) (wrong : Bool) (n : Int) (s : ByteArray) (R' : List UInt8) (wrong' : Bool) : Prop :=
  (n ≤ R.length ∧ toL s = R.take n.toNat ∧ R' = R.drop n.toNat ∧ wrong' = wrong) ∨ ((R.length : Int) < n ∧ s = ⟨#[]⟩ ∧ R' = R ∧ wrong' = true)
def TakePost (R : List UInt8) (wrong : Bool) (n : Int) (rb : Nat) (w : World) (s : ByteArray) (w' : World) : Prop := ∃ R' wrong', TakeIs R wrong n s R' wrong' ∧ Rd w' rb R' wrong' ∧ Only rb w w'

/-- no bytes are no string -/
theorem conv0 (a : Option Addr) (c : Nat) (w : World) : (convert 44 9 (.slice a 0 c)).run Try.prog w = .ok (.string ⟨#[]⟩) w := by
  rw [run_convert_bytes_string w 44 9 5 a 0 c Try.underlying44 Try.underlying5 Try.underlying9]
  cases a with
  | none => simp [Conv.bytesToString]; rfl
  | some a => simp [Conv.bytesToString, loadCells, loadCellsFrom]; rfl

/-- bytes are a string -/
theorem convAt {w : World} {b o : Nat} {R : List UInt8} (n c : Nat) (hn : n ≤ R.length) (hcell : ∀ j u, R[j]? = some u → w.cell? ⟨b, o + j, none⟩ = some (.int .u8 u.toNat)) :
    (convert 44 9 (.slice (some ⟨b, o, none⟩) n c)).run Try.prog w = .ok (.string ⟨(R.take n).toArray⟩) w := by
  have hlen : ((R.take n).map fun b => (b.toNat : Int)).length = n := by simp; omega
  have := run_convert_bytes_arg (P := Try.prog) w 44 5 Try.underlying44 Try.underlying5 b o n c ((R.take n).map fun b => (b.toNat : Int)) hlen (fun j hj => by
    have hj2 : j < R.length := by omega
    rw [hcell j R[j] (List.getElem?_eq_getElem hj2)]
    simp [List.getD, List.getElem?_eq_getElem hj2, List.getElem?_take_of_lt hj]) 9 Try.underlying9
  have e : ((fun n : Int => UInt8.ofNat n.toNat) ∘ fun b : UInt8 => (b.toNat : Int)) = id := by
    funext b
    simp
  have e2 : strOfNums ((R.take n).map fun b => (b.toNat : Int)) = ⟨(R.take n).toArray⟩ := by
    unfold strOfNums
    rw [List.map_map, e, List.map_id]
  rw [this, e2]

set_option maxHeartbeats 1000000 in
theorem take_any (rb : Nat) (R : List UInt8) (wrong : Bool) (n : Int) (w : World) (hR : Rd w rb R wrong) (n0 : 0 ≤ n) (hl : R.length ≤ 1000000) :
    Calls Try.prog 44 #[.pointer (some ⟨rb, 0, none⟩), .int .i64 n] w fun e w' =>
      ∃ s, e = .returned (.string s) ∧ TakePost R wrong n rb w s w' := by
  obtain ⟨a, c, q0, hcap, hB⟩ := hR.rest
  have q1 := hR.c1
  have g0 := hR.f0
  have g1 := hR.f1
  obtain ⟨len, hlen⟩ : ∃ len, R.length = len := ⟨_, rfl⟩
  rw [hlen] at q0 hcap hl
  have HL : Hid (R.length = len) := hlen
  clear hlen
  by_cases h : (len : Int) < n
  · have bad := hR.bad
    go_enter Try.func44, Try.ntmps44
    go_wp2_with fail
    go_ret
    exact ⟨_, rfl, R, true, .inr ⟨by rw [HL.out]; exact h, rfl, rfl, rfl⟩, bad, only_setCell _ _ _ _⟩
  · rcases hB with hnil | ⟨b, o, rfl, hne, hcell⟩
    · obtain rfl : len = 0 := by rw [← HL.out, hnil]; rfl
      obtain rfl : n = 0 := by omega
      have HN : Hid (R = []) := hnil
      clear hnil
      have k0 := conv0
      have PUT : Hid (Rd (w.setCell ⟨rb, 0, none⟩ (.slice a 0 c)) rb [] wrong) := hR.put a 0 c rfl (by simp) (.inl rfl)
      go_enter Try.func44, Try.ntmps44
      go_wp2_with fail
      go_ret
      exact ⟨_, rfl, [], wrong, .inl ⟨by rw [HL.out]; decide, rfl, by rw [HN.out]; rfl, rfl⟩, PUT.out, only_setCell _ _ _ _⟩
    · obtain ⟨m, rfl⟩ : ∃ m : Nat, n = m := ⟨n.toNat, by omega⟩
      have k0 := convAt (R := R) m c (by rw [HL.out]; omega) hcell
      have hd := BytesAt.drop (k := m) hne hcell (by rw [HL.out]; omega) (by rw [HL.out]; exact hcap)
      obtain ⟨a', ha'⟩ : ∃ a', (if c = m then some (⟨b, o, none⟩ : Addr) else some ⟨b, o + m, none⟩) = a' := ⟨_, rfl⟩
      rw [ha'] at hd
      obtain ⟨s, hs⟩ : ∃ s : ByteArray, s = ⟨(R.take m).toArray⟩ := ⟨_, rfl⟩
      rw [← hs] at k0
      have HS : Hid (s = ⟨(R.take m).toArray⟩) := hs
      clear hs hcell
      have PUT : Hid (Rd (w.setCell ⟨rb, 0, none⟩ (.slice a' (len - m) (c - m))) rb (R.drop m) wrong) := hR.put a' (len - m) (c - m) (by rw [List.length_drop, HL.out]) (by rw [List.length_drop, HL.out]; omega) hd
      clear hd
      go_enter Try.func44, Try.ntmps44
      go_wp2_with fail
      go_ret
      exact ⟨_, rfl, R.drop m, wrong, .inl ⟨by rw [HL.out]; omega, by rw [HS.out]; rfl, rfl, rfl⟩, PUT.out, only_setCell _ _ _ _⟩

def KindPost (R : List UInt8) (wrong : Bool) (c : UInt8) (rb : Nat) (w w' : World) : Prop := ∃ R' wrong', ((wrong' = false ↔ wrong = false ∧ R = c :: R') ∧ R'.length ≤ R.length ∧ (∀ r, R = c :: r → R' = r)) ∧ Rd w' rb R' wrong' ∧ Only rb w w'

theorem toL_one {s : ByteArray} {c : UInt8} (h : toL s = [c]) : s = ⟨#[c]⟩ := toL_inj h

theorem take_is_one {R R' : List UInt8} {wrong wrong' : Bool} {c : UInt8} {s : ByteArray} (h : TakeIs R wrong 1 s R' wrong') (hs : toL s = [c]) : R = c :: R' ∧ wrong' = wrong := by
  rcases h with ⟨h1, h2, h3, h4⟩ | ⟨_, h2, _, _⟩
  · refine ⟨?_, h4⟩
    cases R with
    | nil => simp at h1
    | cons x R =>
      rw [hs] at h2
      have e : x = c := by simpa using h2.symm
      rw [h3, e]
      rfl
  · rw [h2] at hs
    cases hs
theorem take_not_one {R R' : List UInt8} {wrong wrong' : Bool} {c : UInt8} {s : ByteArray} (h : TakeIs R wrong 1 s R' wrong') (hs : ¬ toL s = [c]) (r : List UInt8) : ¬ R = c :: r := by
  intro e
  subst e
  rcases h with ⟨_, h2, _, _⟩ | ⟨h1, _, _, _⟩
  · exact hs (by rw [h2]; rfl)
  · simp at h1
    omega
theorem take_length {R R' : List UInt8} {wrong wrong' : Bool} {n : Int} {s : ByteArray} (h : TakeIs R wrong n s R' wrong') : R'.length ≤ R.length := by
  rcases h with ⟨_, _, h3, _⟩ | ⟨_, _, h3, _⟩
  · rw [h3, List.length_drop]; omega
  · rw [h3]; exact Nat.le_refl _

set_option maxHeartbeats 1000000 in
theorem kind_any (rb : Nat) (R : List UInt8) (wrong : Bool) (c : UInt8) (w : World) (hR : Rd w rb R wrong) (hl : R.length ≤ 1000000) :
    Calls Try.prog 36 #[.pointer (some ⟨rb, 0, none⟩), .string ⟨#[c]⟩] w fun e w' => e = .returned (.tuple #[]) ∧ KindPost R wrong c rb w w' := by
  go_enter Try.func36, Try.ntmps36
  go_wp2_with fail
  refine (take_any rb R wrong 1 w hR (by omega) hl).mono ?_
  rintro e w1 ⟨s, rfl, R', wrong', ht, hR', hO⟩
  have g1 := hR'.f1
  have q1 := hR'.c1
  have HT : Hid (TakeIs R wrong 1 s R' wrong') := ht
  clear ht
  by_cases hs : toL s = [c]
  · have es : (s.toList == [c]) = true := by rw [byteList, hs]; simp
    obtain ⟨k1, k2⟩ := take_is_one HT.out hs
    have K1 : Hid (R = c :: R') := k1
    have K2 : Hid (wrong' = wrong) := k2
    clear k1 k2 hs
    go_wp2_with fail
    go_end0
    exact ⟨rfl, R', wrong', ⟨⟨fun h => ⟨by rw [← K2.out]; exact h, K1.out⟩, fun h => by rw [K2.out]; exact h.1⟩, take_length HT.out, fun r hr => by have := K1.out.symm.trans hr; injection this⟩, hR', hO⟩
  · have es : (s.toList == [c]) = false := by rw [byteList]; exact beq_eq_false_iff_ne.2 hs
    have K1 : Hid (∀ r, ¬ R = c :: r) := take_not_one HT.out hs
    have bad := hR'.bad
    clear hs
    go_wp2_with fail
    go_end0
    exact ⟨rfl, R', true, ⟨⟨fun h => (by cases h), fun h => absurd h.2 (K1.out _)⟩, take_length HT.out, fun r hr => absurd hr (K1.out r)⟩, bad, hO.trans (only_setCell _ _ _ _) (.inl rfl)⟩

/-- all was right, and nothing is left -/
def doneB (R : List UInt8) (wrong : Bool) : Bool := !wrong && R.isEmpty

set_option maxHeartbeats 1000000 in
theorem isDone_any (rb : Nat) (R : List UInt8) (wrong : Bool) (w : World) (hR : Rd w rb R wrong) :
    Calls Try.prog 40 #[.pointer (some ⟨rb, 0, none⟩)] w fun e w' => e = .returned (.bool (doneB R wrong)) ∧ Below w.heap.size w w' := by
  obtain ⟨a, c, q0, hcap, hB⟩ := hR.rest
  have q1 := hR.c1
  cases wrong
  · cases R with
    | nil =>
      simp only [List.length_nil] at q0
      go_enter Try.func40, Try.ntmps40
      go_wp2_with fail
      go_ret
      exact ⟨rfl, Below.refl _ _⟩
    | cons x R =>
      simp only [List.length_cons] at q0
      obtain ⟨len, hlen⟩ : ∃ len, R.length = len := ⟨_, rfl⟩
      rw [hlen] at q0
      have e0 : ((len : Int) + 1 == 0) = false := beq_eq_false_iff_ne.2 (by omega)
      go_enter Try.func40, Try.ntmps40
      go_wp2_with fail
      go_ret
      exact ⟨rfl, Below.refl _ _⟩
  · go_enter Try.func40, Try.ntmps40
    go_wp2_with fail
    go_ret
    exact ⟨rfl, Below.refl _ _⟩

end Go.Proofs.Yteebebahlegmlaa
