/-
  The reader of package wire: what its box holds; what number, take, kind and isDone do, as the model runs them.
-/
import Derived.Test.YteebebahlegmlaaChecked
import Derived.Test.YteebebahlegmlaaParse
import Derived.Test.YteebebahlegmlaaOwn
import Derived.WalkSpells
import Derived.WalkLawsBesides
import Derived.LoopN
namespace Go.Proofs.Yteebebahlegmlaa
open Go.RowKit

/-- the address a, of a slice, has the bytes R, in a block ahead of rb -/
def BytesAt (w : World) (rb : Nat) (a : Option Addr) (R : List UInt8) : Prop :=
  R = [] ∨ ∃ b o, a = some ⟨b, o, none⟩ ∧ b < rb ∧ ∀ j u, R[j]? = some u → w.cell? ⟨b, o + j, none⟩ = some (.int .u8 u.toNat)

/-- block rb is a reader: what is left, and whether it was wrong -/
structure Rd (w : World) (rb : Nat) (R : List UInt8) (wrong : Bool) : Prop where
  rest : ∃ a c, w.cell? ⟨rb, 0, none⟩ = some (.slice a R.length c) ∧ R.length ≤ c ∧ BytesAt w rb a R
  c1 : w.cell? ⟨rb, 1, none⟩ = some (.bool wrong)
  f0 : w.frozen? ⟨rb, 0, none⟩ = false
  f1 : w.frozen? ⟨rb, 1, none⟩ = false

/-- what k bytes that go on, of value n, and what follows them are -/
def glue (k : Nat) (n : Int) : Option (Int × List UInt8) → Option (Int × List UInt8)
  | none => none
  | some (m, r) => if 0 < k ∧ m = 0 then none else some (n + 128 ^ k * m, r)
def rdAt (k : Nat) (n : Int) (R : List UInt8) : Option (Int × List UInt8) := if 6 ≤ k then none else glue k n (rdNum (5 - k) R)

theorem rdAt_zero (R : List UInt8) : rdAt 0 0 R = rdNum 5 R := by
  show glue 0 0 (rdNum 5 R) = _
  cases h : rdNum 5 R with
  | none => rfl
  | some x =>
    obtain ⟨m, r⟩ := x
    simp [glue]
theorem rdAt_six (n : Int) (R : List UInt8) : rdAt 6 n R = none := rfl
theorem rdAt_nil (k : Nat) (n : Int) : rdAt k n [] = none := by
  unfold rdAt
  split
  · rfl
  · cases h : 5 - k <;> rfl
theorem rdAt_more {k : Nat} {n : Int} {c : UInt8} {R : List UInt8} (hk : k < 6) (hc : ¬ c.toNat < 128) : rdAt k n (c :: R) = rdAt (k + 1) (n + ((c.toNat : Int) - 128) * 128 ^ k) R := by
  unfold rdAt
  rw [if_neg (by omega)]
  by_cases h5 : k = 5
  · subst h5
    show glue 5 n (if c.toNat < 128 then some ((c.toNat : Int), R) else none) = none
    rw [if_neg hc]
    rfl
  · rw [if_neg (by omega)]
    obtain ⟨f, hf⟩ : ∃ f, 5 - k = f + 1 := ⟨4 - k, by omega⟩
    have hf2 : 5 - (k + 1) = f := by omega
    rw [hf, hf2]
    show glue k n (if c.toNat < 128 then some ((c.toNat : Int), R) else match rdNum f R with
      | none => none
      | some (n, r') => if n = 0 then none else some ((c.toNat : Int) - 128 + 128 * n, r')) = _
    rw [if_neg hc]
    cases h : rdNum f R with
    | none => rfl
    | some x =>
      obtain ⟨m, r⟩ := x
      have hm := (rd_sound f R m r h).1.1
      by_cases h0 : m = 0
      · subst h0
        simp [glue]
      · have hc2 : 128 ≤ c.toNat := by omega
        have e : ¬ ((c.toNat : Int) - 128 + 128 * m = 0) := by omega
        simp only [glue, if_neg h0]
        rw [if_neg (fun x => e x.2), if_neg (fun x => h0 x.2)]
        congr 2
        have : (128 : Int) ^ (k + 1) = 128 ^ k * 128 := Int.pow_succ 128 k
        rw [this]
        generalize (128 : Int) ^ k = P
        rw [Int.mul_add, Int.mul_comm ((c.toNat : Int) - 128) P, Int.add_assoc, Int.mul_assoc]
theorem rdAt_last {k : Nat} {n : Int} {c : UInt8} {R : List UInt8} (hk : k < 6) (hc : c.toNat < 128) : rdAt k n (c :: R) = if 0 < k ∧ (c.toNat : Int) = 0 then none else some (n + 128 ^ k * c.toNat, R) := by
  unfold rdAt
  rw [if_neg (by omega)]
  have : rdNum (5 - k) (c :: R) = some ((c.toNat : Int), R) := by
    cases h : 5 - k <;> (unfold rdNum; rw [if_pos hc])
  rw [this]
  rfl

theorem only_setCell (g o : Nat) (w : World) (v : Value) : Only g w (w.setCell ⟨g, o, none⟩ v) := ⟨rfl, rfl, rfl, by simp [World.setCell], fun k _ hk => Below.heap_setCell w ⟨g, o, none⟩ v k (fun e => hk (by rw [e]))⟩

/-- what is left is stored -/
theorem Rd.put {w : World} {rb : Nat} {R R' : List UInt8} {wrong : Bool} (h : Rd w rb R wrong) (a : Option Addr) (n c : Nat) (hn : n = R'.length) (hc : R'.length ≤ c) (hB : BytesAt w rb a R') : Rd (w.setCell ⟨rb, 0, none⟩ (.slice a n c)) rb R' wrong := by
  subst hn
  obtain ⟨a0, c0, q0, _, _⟩ := h.rest
  refine ⟨⟨a, c, World.cell?_setCell_same w _ _ q0, hc, ?_⟩, ?_, ?_, ?_⟩
  · rcases hB with hB | ⟨b, o, e, hne, hcell⟩
    · exact .inl hB
    · refine .inr ⟨b, o, e, hne, fun j u hu => ?_⟩
      rw [World.cell?_setCell_other (h := fun e => Nat.ne_of_lt hne (by injection e with e1 _ _; exact e1.symm))]
      exact hcell j u hu
  · rw [World.cell?_setCell_other (h := fun e => by injection e with _ e2 _; cases e2)]
    exact h.c1
  · rw [World.frozen?_setCell]; exact h.f0
  · rw [World.frozen?_setCell]; exact h.f1
/-- it is wrong -/
theorem Rd.bad {w : World} {rb : Nat} {R : List UInt8} {wrong : Bool} (h : Rd w rb R wrong) : Rd (w.setCell ⟨rb, 1, none⟩ (.bool true)) rb R true := by
  obtain ⟨a0, c0, q0, hc0, hB⟩ := h.rest
  refine ⟨⟨a0, c0, ?_, hc0, ?_⟩, World.cell?_setCell_same w _ _ h.c1, ?_, ?_⟩
  · rw [World.cell?_setCell_other (h := fun e => by injection e with _ e2 _; cases e2)]
    exact q0
  · rcases hB with hB | ⟨b, o, e, hne, hcell⟩
    · exact .inl hB
    · refine .inr ⟨b, o, e, hne, fun j u hu => ?_⟩
      rw [World.cell?_setCell_other (h := fun e => Nat.ne_of_lt hne (by injection e with e1 _ _; exact e1.symm))]
      exact hcell j u hu
  · rw [World.frozen?_setCell]; exact h.f0
  · rw [World.frozen?_setCell]; exact h.f1
/-- the first k bytes are gone -/
theorem BytesAt.drop {w : World} {rb b o c k : Nat} {R : List UInt8} (hne : b < rb) (hcell : ∀ j u, R[j]? = some u → w.cell? ⟨b, o + j, none⟩ = some (.int .u8 u.toNat)) (hk : k ≤ R.length) (hc : R.length ≤ c) :
    BytesAt w rb (if c = k then some ⟨b, o, none⟩ else some ⟨b, o + k, none⟩) (R.drop k) := by
  by_cases h : c = k
  · exact .inl (List.drop_eq_nil_of_le (by omega))
  · rw [if_neg h]
    refine .inr ⟨b, o + k, rfl, hne, fun j u hu => ?_⟩
    rw [List.getElem?_drop] at hu
    rw [Nat.add_assoc]
    exact hcell _ _ hu

theorem pow_le5 {k : Nat} (hk : k < 6) : (128 : Int) ^ k ≤ 34359738368 := by
  have : k = 0 ∨ k = 1 ∨ k = 2 ∨ k = 3 ∨ k = 4 ∨ k = 5 := by omega
  rcases this with rfl | rfl | rfl | rfl | rfl | rfl <;> decide
theorem two_pow7 (k : Nat) : (2 : Int) ^ (7 * (k : Int)).toNat = 128 ^ k := by
  have e : (7 * (k : Int)).toNat = 7 * k := by omega
  rw [e, Int.pow_mul]
  rfl
theorem mul_bound {x P : Int} (h0 : 0 ≤ x) (h1 : x ≤ 127) (hP0 : 0 ≤ P) : 0 ≤ x * P ∧ x * P ≤ 127 * P :=
  ⟨Int.mul_nonneg h0 hP0, Int.mul_le_mul_of_nonneg_right h1 hP0⟩
/-- seven bits more -/
theorem bits_more {k : Nat} {n m z : Int} (hk : k < 6) (hz : z = k) (n0 : 0 ≤ n) (n1 : n < 128 ^ k) : wrap64 (n + wrap64 (m % 128 * 2 ^ (7 * z).toNat)) = n + m % 128 * 128 ^ k ∧ 0 ≤ n + m % 128 * 128 ^ k ∧ n + m % 128 * 128 ^ k < 128 ^ (k + 1) := by
  have hp : (128 : Int) ^ (k + 1) = 128 ^ k * 128 := Int.pow_succ 128 k
  rw [hz, two_pow7, hp]
  have hP := pow_le5 hk
  have hP0 : (0 : Int) ≤ 128 ^ k := by omega
  revert hP hP0 n1
  generalize (128 : Int) ^ k = P
  intro n1 hP hP0
  obtain ⟨b0, b1⟩ := mul_bound (x := m % 128) (by omega) (by omega) hP0
  revert b0 b1
  generalize m % 128 * P = Q
  intro b0 b1
  unfold wrap64
  omega

/-- what number is: of what may be, and else 0, and wrong -/
def NumIs (most : Int) (R : List UInt8) (wrong : Bool) (v : Int) (R' : List UInt8) (wrong' : Bool) : Prop :=
  R'.length ≤ R.length ∧ ((rdNum 5 R = some (v, R') ∧ v ≤ most ∧ wrong' = wrong) ∨ ((∀ n r, rdNum 5 R = some (n, r) → ¬ n ≤ most) ∧ v = 0 ∧ wrong' = true))

def NumPost (most : Int) (R : List UInt8) (wrong : Bool) (rb : Nat) (w : World) (v : Int) (w' : World) : Prop := ∃ R' wrong', NumIs most R wrong v R' wrong' ∧ Rd w' rb R' wrong' ∧ Only rb w w'

set_option maxHeartbeats 4000000 in
theorem rdNumber_any (rb : Nat) (R : List UInt8) (wrong : Bool) (most : Int) (w : World) (hR : Rd w rb R wrong) :
    Calls Try.prog 37 #[.pointer (some ⟨rb, 0, none⟩), .int .i64 most] w fun e w' =>
      ∃ v, e = .returned (.int .i64 v) ∧ NumPost most R wrong rb w v w' := by
  go_enter Try.func37, Try.ntmps37
  go_wp2_with fail
  go_loopw [5, 8] (fun nv iv wr => ∃ (k : Nat) (z n : Int) (R' : List UInt8), k ≤ 6 ∧ z = k ∧ iv = .int .i64 z ∧ nv = .int .i64 n ∧ 0 ≤ n ∧ n < 128 ^ k ∧ R'.length ≤ R.length ∧ rdNum 5 R = rdAt k n R' ∧ Rd wr rb R' wrong ∧ Only rb w wr) (fun _ i _ => 6 - (intOf i).toNat)
  case atStart => exact ⟨0, 0, 0, R, by omega, rfl, rfl, rfl, by omega, by decide, by omega, (rdAt_zero R).symm, hR, Only.refl _ _⟩
  case round =>
    obtain ⟨k, z, n, R', hk, hz, rfl, rfl, n0, n1, hlen, hrd, hRd, hO⟩ := hrel
    have HRD : Hid (rdNum 5 R = rdAt k n R') := hrd
    clear hrd
    obtain ⟨a, c, q0, hcap, hB⟩ := hRd.rest
    have q1 := hRd.c1
    have g0 := hRd.f0
    have g1 := hRd.f1
    by_cases hlt : k < 6
    · have h1 : z < 6 := by omega
      have h3 : 0 ≤ z := by omega
      have HZ : Hid (z = k) := hz
      clear hz
      have N1 : Hid (n < 128 ^ k) := n1
      clear n1
      cases R' with
      | nil =>
        simp only [List.length_nil] at q0
        have bad := hRd.bad
        go_wp2_with fail
        go_ret
        exact ⟨0, rfl, [], true, ⟨by simp, .inr ⟨fun n r h => (by rw [HRD.out, rdAt_nil] at h; cases h), rfl, rfl⟩⟩, bad, hO.trans (only_setCell _ _ _ _) (.inl rfl)⟩
      | cons ch R'' =>
        obtain ⟨b, o, rfl, hne, hcell⟩ : ∃ b o, a = some ⟨b, o, none⟩ ∧ b < rb ∧ ∀ j u, (ch :: R'')[j]? = some u → wr.cell? ⟨b, o + j, none⟩ = some (.int .u8 u.toNat) := by
          rcases hB with h | h
          · cases h
          · exact h
        have x0 : wr.cell? ⟨b, o, none⟩ = some (.int .u8 ch.toNat) := hcell 0 ch rfl
        have hda := BytesAt.drop (k := 1) hne hcell (by simp) hcap
        obtain ⟨a', ha'⟩ : ∃ a', (if c = 1 then some (⟨b, o, none⟩ : Addr) else some ⟨b, o + 1, none⟩) = a' := ⟨_, rfl⟩
        rw [ha'] at hda
        have HC : Hid (BytesAt wr rb a' R'') := hda
        clear hda
        clear hcell
        have hch := ch.toNat_lt
        obtain ⟨m, hm⟩ : ∃ m : Int, m = ch.toNat := ⟨_, rfl⟩
        rw [← hm] at x0
        have HM : Hid (m = ch.toNat) := hm
        have m0 : 0 ≤ m := by omega
        have m1 : m < 256 := by omega
        clear hm
        have hlen3 : R''.length + 1 ≤ R.length := hlen
        obtain ⟨len, hlen2⟩ : ∃ len : Nat, R''.length = len := ⟨_, rfl⟩
        rw [List.length_cons, hlen2] at q0 hcap
        rw [hlen2] at hlen3
        have HLEN : Hid (R''.length = len) := hlen2
        clear hlen2 hlen
        obtain ⟨bm, b0, b1⟩ := bits_more (m := m) hlt HZ.out n0 N1.out
        obtain ⟨v, hv⟩ : ∃ v, v = n + m % 128 * 128 ^ k := ⟨_, rfl⟩
        rw [← hv] at bm b0 b1
        have HV : Hid (v = n + m % 128 * 128 ^ k) := hv
        have B1 : Hid (v < 128 ^ (k + 1)) := b1
        clear hv b1
        have PUT := hRd.put a' len (c - 1) HLEN.out.symm (by rw [HLEN.out]; omega) HC.out
        have HON : Hid (Only rb w (wr.setCell ⟨rb, 0, none⟩ (.slice a' len (c - 1)))) := hO.trans (only_setCell _ _ _ _) (.inl rfl)
        have HPUT : Hid (Rd (wr.setCell ⟨rb, 0, none⟩ (.slice a' len (c - 1))) rb R'' wrong) := PUT
        clear PUT hRd hO
        by_cases hm2 : 128 ≤ m
        · have E : Hid (rdNum 5 R = rdAt (k + 1) v R'') := by
            have e : m % 128 = (ch.toNat : Int) - 128 := by have := HM.out; omega
            show rdNum 5 R = _
            rw [HRD.out, rdAt_more hlt (by have := HM.out; omega), HV.out, e]
          go_wp2_with fail
          go_roundw
          case rel => exact ⟨k + 1, z + 1, v, R'', by omega, by have := HZ.out; omega, rfl, by first | rfl | rw [bm], b0, B1.out, by rw [HLEN.out]; omega, E.out, HPUT.out, HON.out⟩
          case measure => simp [intOf]; omega
        · have E : Hid (rdNum 5 R = if 0 < k ∧ m = 0 then none else some (v, R'')) := by
            have e : m % 128 = m := by omega
            show rdNum 5 R = _
            rw [HRD.out, rdAt_last hlt (by have := HM.out; omega), HV.out, e, HM.out, Int.mul_comm (128 ^ k)]
          have BAD := HPUT.out.bad
          have HBAD : Hid (Rd ((wr.setCell ⟨rb, 0, none⟩ (.slice a' len (c - 1))).setCell ⟨rb, 1, none⟩ (.bool true)) rb R'' true) := BAD
          clear BAD
          by_cases hv : most < v
          · go_wp2_with fail
            go_ret
            refine ⟨0, rfl, R'', true, ⟨by rw [HLEN.out]; omega, .inr ⟨fun n r h => ?_, rfl, rfl⟩⟩, HBAD.out, HON.out.trans (only_setCell _ _ _ _) (.inl rfl)⟩
            rw [E.out] at h
            split at h
            · cases h
            · injection h with h
              injection h with h1 _
              omega
          · by_cases hz0 : m = 0
            · have e0 : (m == 0) = true := by simp [hz0]
              have HZ0 : Hid (m = 0) := hz0
              clear hz0
              by_cases hk0 : 0 < z
              · go_wp2_with fail
                go_ret
                refine ⟨0, rfl, R'', true, ⟨by rw [HLEN.out]; omega, .inr ⟨fun n r h => ?_, rfl, rfl⟩⟩, HBAD.out, HON.out.trans (only_setCell _ _ _ _) (.inl rfl)⟩
                rw [E.out, if_pos ⟨by have := HZ.out; omega, HZ0.out⟩] at h
                cases h
              · go_wp2_with fail
                go_ret
                refine ⟨v, rfl, R'', wrong, ⟨by rw [HLEN.out]; omega, .inl ⟨?_, by omega, rfl⟩⟩, HPUT.out, HON.out⟩
                rw [E.out, if_neg (fun x => by have := HZ.out; have := x.1; omega)]
            · have e0 : (m == 0) = false := by simp [hz0]
              have HZ0 : Hid (¬ m = 0) := hz0
              clear hz0
              go_wp2_with fail
              go_ret
              refine ⟨v, rfl, R'', wrong, ⟨by rw [HLEN.out]; omega, .inl ⟨?_, by omega, rfl⟩⟩, HPUT.out, HON.out⟩
              rw [E.out, if_neg (fun x => HZ0.out x.2)]
    · have e : k = 6 := by omega
      have bad := hRd.bad
      go_wp2_with fail
      go_ret
      exact ⟨0, rfl, R', true, ⟨hlen, .inr ⟨fun n r h => (by rw [HRD.out, e, rdAt_six] at h; cases h), rfl, rfl⟩⟩, bad, hO.trans (only_setCell _ _ _ _) (.inl rfl)⟩

end Go.Proofs.Yteebebahlegmlaa
