/-
  What the document's own reading of a number is, as the model runs it (copseref.Tape.num).
-/
import Derived.Test.YteebebahlegmlaaDoorChecked
import Derived.Test.YteebebahlegmlaaDoorReader
import Derived.Test.YteebebahlegmlaaDoorRows9
namespace Go.Proofs.YteebebahlegmlaaDoor
open Go.RowKit

def lglue (k : Nat) (n : Int) : Option (Int × List UInt8) → Option (Int × List UInt8)
  | none => none
  | some (m, r) => some (n + 128 ^ k * m, r)
def lxAt (k : Nat) (n : Int) (R : List UInt8) : Option (Int × List UInt8) := if 6 ≤ k then none else lglue k n (lxNum (5 - k) R)
theorem lxAt_zero (R : List UInt8) : lxAt 0 0 R = lxNum 5 R := by
  show lglue 0 0 (lxNum 5 R) = _
  cases h : lxNum 5 R with
  | none => rfl
  | some x =>
    obtain ⟨m, r⟩ := x
    simp [lglue]
theorem lxAt_six (n : Int) (R : List UInt8) : lxAt 6 n R = none := rfl
theorem lxAt_nil (k : Nat) (n : Int) : lxAt k n [] = none := by
  unfold lxAt
  split
  · rfl
  · cases h : 5 - k <;> rfl
theorem lxAt_more {k : Nat} {n : Int} {c : UInt8} {R : List UInt8} (hk : k < 6) (hc : ¬ c.toNat < 128) : lxAt k n (c :: R) = lxAt (k + 1) (n + ((c.toNat : Int) - 128) * 128 ^ k) R := by
  unfold lxAt
  rw [if_neg (by omega)]
  by_cases h5 : k = 5
  · subst h5
    show lglue 5 n (if c.toNat < 128 then some ((c.toNat : Int), R) else none) = none
    rw [if_neg hc]
    rfl
  · rw [if_neg (by omega)]
    obtain ⟨f, hf⟩ : ∃ f, 5 - k = f + 1 := ⟨4 - k, by omega⟩
    have hf2 : 5 - (k + 1) = f := by omega
    rw [hf, hf2]
    show lglue k n (if c.toNat < 128 then some ((c.toNat : Int), R) else match lxNum f R with
      | none => none
      | some (n, r') => some ((c.toNat : Int) - 128 + 128 * n, r')) = _
    rw [if_neg hc]
    cases h : lxNum f R with
    | none => rfl
    | some x =>
      obtain ⟨m, r⟩ := x
      simp only [lglue]
      congr 2
      have : (128 : Int) ^ (k + 1) = 128 ^ k * 128 := Int.pow_succ 128 k
      rw [this]
      generalize (128 : Int) ^ k = P
      rw [Int.mul_add, Int.mul_comm ((c.toNat : Int) - 128) P, Int.add_assoc, Int.mul_assoc]
theorem lxAt_last {k : Nat} {n : Int} {c : UInt8} {R : List UInt8} (hk : k < 6) (hc : c.toNat < 128) : lxAt k n (c :: R) = some (n + 128 ^ k * c.toNat, R) := by
  unfold lxAt
  rw [if_neg (by omega)]
  have : lxNum (5 - k) (c :: R) = some ((c.toNat : Int), R) := by
    cases h : 5 - k <;> (unfold lxNum; rw [if_pos hc])
  rw [this]
  rfl

/-- seven bits more, by a product -/
theorem mul_more {k : Nat} {n m t : Int} (hk : k < 6) (ht : t = 128 ^ k) (n0 : 0 ≤ n) (n1 : n < 128 ^ k) : wrap64 (n + wrap64 (m % 128 * t)) = n + m % 128 * 128 ^ k ∧ wrap64 (t * 128) = 128 ^ (k + 1) ∧ 0 ≤ n + m % 128 * 128 ^ k ∧ n + m % 128 * 128 ^ k < 128 ^ (k + 1) := by
  have hp : (128 : Int) ^ (k + 1) = 128 ^ k * 128 := Int.pow_succ 128 k
  rw [ht, hp]
  have hP := pow_le5 hk
  have hP0 : (0 : Int) ≤ 128 ^ k := by omega
  revert hP hP0 n1
  generalize (128 : Int) ^ k = P
  intro n1 hP hP0
  obtain ⟨b0, b1⟩ := mul_bound (x := m % 128) (by omega) (by omega) hP0
  revert b0 b1
  generalize m % 128 * P = Q
  intro b0 b1
  unfold wrap64
  omega
theorem drop_at {S : ByteArray} {k : Nat} (hs : k < S.size) : (toL S).drop k = S[k] :: (toL S).drop (k + 1) := by
  have h : k < (toL S).length := by rw [toL_length]; exact hs
  rw [List.drop_eq_getElem_cons h]
  rfl
theorem extract_toL (S : ByteArray) (i : Nat) : toL (S.extract i S.size) = (toL S).drop i := by
  show (S.extract i S.size).data.toList = _
  rw [ByteArray.data_extract, Array.toList_extract]
  simp [List.take_of_length_le]

/-- what num is: the number that the bytes begin with, where it is written just so -/
def RefNumIs (S : ByteArray) (v : Int) (S' : ByteArray) : Prop := (-1 ≤ v ∧ v < 4398046511104) ∧ S'.size ≤ S.size ∧ (∀ n r, rdNum 5 (toL S) = some (n, r) → v = n ∧ toL S' = r)
def RefNumPost (S : ByteArray) (b : Nat) (w : World) (v : Int) (w' : World) : Prop := ∃ S', RefNumIs S v S' ∧ RowL w' b [.string S'] ∧ Only b w w'

set_option maxHeartbeats 4000000 in
theorem refNum_any (b : Nat) (S : ByteArray) (w : World) (hR : RowL w b [.string S]) :
    Calls Tryd.prog 38 #[.pointer (some ⟨b, 0, none⟩)] w fun e w' => ∃ v, e = .returned (.int .i64 v) ∧ RefNumPost S b w v w' := by
  have q0 := hR.cell 0 _ rfl
  have g0 := hR.free 0 (by simp)
  go_enter Tryd.func38, Tryd.ntmps38
  go_wp2_with fail
  go_loopw [3, 4, 5] (fun nv tv iv wr => wr = w ∧ ∃ (k : Nat) (z n t : Int), k ≤ 6 ∧ k ≤ S.size ∧ z = k ∧ iv = .int .i64 z ∧ nv = .int .i64 n ∧ tv = .int .i64 t ∧ t = 128 ^ k ∧ 0 ≤ n ∧ n < 128 ^ k ∧ lxNum 5 (toL S) = lxAt k n ((toL S).drop k)) (fun _ _ i _ => 6 - (intOf i).toNat)
  case atStart => exact ⟨rfl, 0, 0, 0, 1, by omega, by omega, rfl, rfl, rfl, rfl, by decide, by omega, by decide, (lxAt_zero _).symm⟩
  case round =>
    obtain ⟨rfl, k, z, n, t, hk, hks, hz, rfl, rfl, rfl, ht, n0, n1, hlx⟩ := hrel
    have HLX : Hid (lxNum 5 (toL S) = lxAt k n ((toL S).drop k)) := hlx
    have HT : Hid (t = 128 ^ k) := ht
    have N1 : Hid (n < 128 ^ k) := n1
    clear hlx ht n1
    by_cases hlt : k < 6
    · have h1 : z < 6 := by omega
      have h3 : 0 ≤ z := by omega
      by_cases hs : k < S.size
      · have h4 : z < (S.size : Int) := by omega
        have h2 : z.toNat = k := by omega
        have HZ : Hid (z = k) := hz
        clear hz
        obtain ⟨m, hm⟩ : ∃ m : Int, (((S[k]'hs).toNat : Nat) : Int) = m := ⟨_, rfl⟩
        have hch := (S[k]'hs).toNat_lt
        have m0 : 0 ≤ m := by omega
        have m1 : m < 256 := by omega
        have HD := drop_at hs
        obtain ⟨bm, bt, b0, b1⟩ := mul_more (m := m) hlt HT.out n0 N1.out
        obtain ⟨v, hv⟩ : ∃ v, v = n + m % 128 * 128 ^ k := ⟨_, rfl⟩
        obtain ⟨t2, ht2⟩ : ∃ t2 : Int, t2 = 128 ^ (k + 1) := ⟨_, rfl⟩
        rw [← hv] at bm b0 b1
        rw [← ht2] at bt
        have HV : Hid (v = n + m % 128 * 128 ^ k) := hv
        have HT2 : Hid (t2 = 128 ^ (k + 1)) := ht2
        have B1 : Hid (v < 128 ^ (k + 1)) := b1
        clear hv b1 ht2
        by_cases hm2 : m < 128
        · have E : Hid (lxNum 5 (toL S) = some (v, (toL S).drop (k + 1))) := by
            have e : m % 128 = m := by omega
            show lxNum 5 (toL S) = _
            rw [HLX.out, HD, lxAt_last hlt (by omega), HV.out, e, hm, Int.mul_comm (128 ^ k)]
          clear HD
          have hz1 : (z + 1).toNat = k + 1 := by omega
          have RX := hR.set 0 (.string (S.extract (k + 1) S.size)) (by simp)
          go_wp2_with fail
          go_ret
          refine ⟨v, by first | rfl | rw [← bm]; rfl, S.extract (k + 1) S.size, ⟨⟨by omega, ?_⟩, ?_, fun n r h => ?_⟩, RX, only_setCell _ _ _ _⟩
          · have h6 : (128 : Int) ^ (k + 1) ≤ 4398046511104 := by
              have := pow_le5 hlt
              rw [Int.pow_succ]
              omega
            have := B1.out
            omega
          · rw [← toL_length, extract_toL, List.length_drop, toL_length]
            omega
          · have := rd_lx _ _ _ h
            rw [E.out] at this
            injection this with this
            injection this with h1 h2
            exact ⟨h1, by rw [extract_toL]; exact h2⟩
        · have E : Hid (lxNum 5 (toL S) = lxAt (k + 1) v ((toL S).drop (k + 1))) := by
            have e : m % 128 = (((S[k]'hs).toNat : Nat) : Int) - 128 := by omega
            show lxNum 5 (toL S) = _
            rw [HLX.out, HD, lxAt_more hlt (by omega), HV.out, e]
          clear HD
          go_wp2_with fail
          go_roundw
          case rel => exact ⟨by trivial, k + 1, z + 1, v, t2, by omega, by omega, by have := HZ.out; omega, by go_num, by first | rfl | rw [bm], by first | rfl | rw [bt], HT2.out, b0, B1.out, E.out⟩
          case measure => simp [intOf]; omega
      · have h4 : ¬ z < (S.size : Int) := by omega
        have E : Hid (lxNum 5 (toL S) = none) := by
          show lxNum 5 (toL S) = none
          rw [HLX.out, List.drop_eq_nil_of_le (by rw [toL_length]; omega), lxAt_nil]
        have RX := hR.set 0 (.string ⟨#[]⟩) (by simp)
        go_wp2_with fail
        go_ret
        exact ⟨-1, rfl, ⟨#[]⟩, ⟨by decide, Nat.zero_le _, fun n r h => by have := rd_lx _ _ _ h; rw [E.out] at this; cases this⟩, RX, only_setCell _ _ _ _⟩
    · have E : Hid (lxNum 5 (toL S) = none) := by
        show lxNum 5 (toL S) = none
        rw [HLX.out, show k = 6 by omega, lxAt_six]
      have RX := hR.set 0 (.string ⟨#[]⟩) (by simp)
      go_wp2_with fail
      go_ret
      exact ⟨-1, rfl, ⟨#[]⟩, ⟨by decide, Nat.zero_le _, fun n r h => by have := rd_lx _ _ _ h; rw [E.out] at this; cases this⟩, RX, only_setCell _ _ _ _⟩

end Go.Proofs.YteebebahlegmlaaDoor
