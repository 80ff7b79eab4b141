/-
  What slices.DeleteFunc does to a key's row by Sweep's own function, as the model runs it.
-/
import Derived.Test.YtnbgjiibpnoieaaDoorPgInsert
import Derived.Test.YtnbgjiibpnoieaaDoorRefSweep
import Derived.Test.YtnbgjiibpnoieaaDoorPgLast
namespace Go.Proofs.YtnbgjiibpnoieaaDoor
open Go.RowKit

theorem neVerB (a b : Ver) (w : World) : (binOp .neq 71 (.agg #[.int .i64 a.wall, .int .i64 a.count, .int .i64 a.site, .int .i64 a.seq, .string a.data, .bool a.gone]) (.agg #[.int .i64 b.wall, .int .i64 b.count, .int .i64 b.site, .int .i64 b.seq, .string b.data, .bool b.gone])).run Tryd.prog w = .ok (.bool (!eqV a b)) w := by
  have h := eqVerB a b w
  rw [run_eql_struct] at h
  rw [run_neq_struct]
  generalize (Op.equalIn 10000 71 _ _).run Tryd.prog w = r at *
  cases r with
  | ok b w1 =>
    simp only [Result.andThen] at h ⊢
    injection h with h1 h2
    injection h1 with h1
    rw [h1, h2]
  | halt x w1 => simp [Result.andThen] at h

/-- what is dropped: what the vector has, but for the one that stays -/
def delV (a0 a1 a2 a3 : Int) (st v : Ver) : Bool := hasV a0 a1 a2 a3 v && !eqV v st

set_option maxHeartbeats 2000000 in
theorem del_is {a0 a1 a2 a3 : Int} {st v : Ver} {r : Bool} {A S : Nat} (h : delV a0 a1 a2 a3 st v = r) (h0 : 0 ≤ v.site) (h1 : v.site ≤ 3) (w : World) (RA : RowL w A [.int .i64 a0, .int .i64 a1, .int .i64 a2, .int .i64 a3]) (RS : RowL w S (verL st)) :
    Calls Tryd.prog 67 #[.agg #[.int .i64 v.wall, .int .i64 v.count, .int .i64 v.site, .int .i64 v.seq, .string v.data, .bool v.gone], .pointer (some ⟨A, 0, none⟩), .pointer (some ⟨S, 0, none⟩)] w fun e w' => e = .returned (.bool r) ∧ Below w.heap.size w w' := by
  have hne := neVerB
  have RX := RowL.new (w := w) (T := 71) (verL v) rfl
  have hb := boxed (Below.refl _ w) (.cells (verL v).toArray 71)
  change RowL (w.alloc (.cells #[.int .i64 v.wall, .int .i64 v.count, .int .i64 v.site, .int .i64 v.seq, .string v.data, .bool v.gone] 71)) w.heap.size (verL v) at RX
  change Below w.heap.size w (w.alloc (.cells #[.int .i64 v.wall, .int .i64 v.count, .int .i64 v.site, .int .i64 v.seq, .string v.data, .bool v.gone] 71)) at hb
  have RA1 := RA.later hb
  have RS1 := RS.later hb
  have c0 := RA1.cell 0 _ rfl
  have c1 := RA1.cell 1 _ rfl
  have c2 := RA1.cell 2 _ rfl
  have c3 := RA1.cell 3 _ rfl
  have H : Hid (delV a0 a1 a2 a3 st v = r) := h
  clear h
  cases hh : hasV a0 a1 a2 a3 v
  · have HH : Hid (hasV a0 a1 a2 a3 v = false) := hh
    have HR : Hid (r = false) := by show r = false; rw [← H.out, delV, hh]; rfl
    clear hh
    go_enter Tryd.func67, Tryd.ntmps67
    go_wp2_with fail
    refine (has_is HH.out h0 h1 _).mono ?_
    rintro e w1 ⟨rfl, hb1⟩
    go_wp2_with fail
    go_ret
    exact ⟨by rw [HR.out]; rfl, behind hb hb1⟩
  · have HH : Hid (hasV a0 a1 a2 a3 v = true) := hh
    have HR : Hid (r = !eqV v st) := by show r = _; rw [← H.out, delV, hh]; rfl
    clear hh
    go_enter Tryd.func67, Tryd.ntmps67
    go_wp2_with fail
    refine (has_is HH.out h0 h1 _).mono ?_
    rintro e w1 ⟨rfl, hb1⟩
    have RX2 := RX.later hb1
    have RS2 := RS1.later hb1
    have x0 := RX2.cell 0 _ rfl
    have x1 := RX2.cell 1 _ rfl
    have x2 := RX2.cell 2 _ rfl
    have x3 := RX2.cell 3 _ rfl
    have x4 := RX2.cell 4 _ rfl
    have x5 := RX2.cell 5 _ rfl
    have y0 := RS2.cell 0 _ rfl
    have y1 := RS2.cell 1 _ rfl
    have y2 := RS2.cell 2 _ rfl
    have y3 := RS2.cell 3 _ rfl
    have y4 := RS2.cell 4 _ rfl
    have y5 := RS2.cell 5 _ rfl
    go_wp2_with fail
    go_ret
    exact ⟨by rw [HR.out]; rfl, behind hb hb1⟩

/-- which one is the first to be dropped -/
def IdxPost (a0 a1 a2 a3 : Int) (st : Ver) (L : List Ver) (r : Int) : Prop :=
  (r = -1 ∧ ∀ v ∈ L, delV a0 a1 a2 a3 st v = false) ∨ ∃ k : Nat, k < L.length ∧ r = k ∧ delV a0 a1 a2 a3 st (verAt L k) = true ∧ ∀ j, j < k → delV a0 a1 a2 a3 st (verAt L j) = false

set_option maxHeartbeats 4000000 in
theorem index_any {a : Option Addr} {cap : Nat} {L : List Ver} {a0 a1 a2 a3 : Int} {st : Ver} {A S : Nat} (w : World) (hV : VsIn w a cap L) (hok : ∀ v ∈ L, 0 ≤ v.site ∧ v.site ≤ 3) (hl : L.length ≤ 1000) (RA : RowL w A [.int .i64 a0, .int .i64 a1, .int .i64 a2, .int .i64 a3]) (RS : RowL w S (verL st)) :
    Calls Tryd.prog 78 #[.slice a L.length cap, .func (.func 67) #[] #[.pointer (some ⟨A, 0, none⟩), .pointer (some ⟨S, 0, none⟩)]] w fun e w' =>
      ∃ r : Int, e = .returned (.int .i64 r) ∧ IdxPost a0 a1 a2 a3 st L r ∧ Below w.heap.size w w' := by
  have HOK : Hid (∀ v ∈ L, 0 ≤ v.site ∧ v.site ≤ 3) := hok
  clear hok
  go_enter Tryd.func78, Tryd.ntmps78
  go_wp2_with fail
  go_loopw [8] (fun iv wr => ∃ (k : Nat) (z : Int), k ≤ L.length ∧ z = k ∧ iv = .int .i64 z ∧ Hid (∀ j, j < k → delV a0 a1 a2 a3 st (verAt L j) = false) ∧ Below w.heap.size w wr) (fun i _ => L.length - (intOf i).toNat)
  case atStart => exact ⟨0, 0, by omega, rfl, rfl, (fun j hj => by omega : ∀ j, j < 0 → delV a0 a1 a2 a3 st (verAt L j) = false), Below.refl _ _⟩
  case round =>
    obtain ⟨k, z, hk, hz, rfl, NT, hb⟩ := hrel
    have HZ : Hid (z = k) := hz
    by_cases hlt : k < L.length
    · have h1 : z < (L.length : Int) := by omega
      have h2 : z.toNat = k := by omega
      have h3 : 0 ≤ z := by omega
      clear hz
      have hV4 := hV.later hb
      obtain ⟨b, hbl, rfl, hcc⟩ : ∃ b, b < wr.heap.size ∧ a = some ⟨b, 0, none⟩ ∧ ∀ i r u, i < L.length → (verL (verAt L i))[r]? = some u → wr.cell? ⟨b, i * 6 + r, none⟩ = some u := by
        rcases hV4.held with h0 | h0
        · rw [h0] at hlt; simp at hlt
        · exact h0
      obtain ⟨y, hy⟩ : ∃ y, verAt L k = y := ⟨_, rfl⟩
      have hsy := HOK.out _ (verAt_mem hlt)
      rw [hy] at hsy
      have x0 : wr.cell? ⟨b, k * 6, none⟩ = some (.int .i64 y.wall) := hcc k 0 _ hlt (by rw [hy]; rfl)
      have x1 : wr.cell? ⟨b, k * 6 + 1, none⟩ = some (.int .i64 y.count) := hcc k 1 _ hlt (by rw [hy]; rfl)
      have x2 : wr.cell? ⟨b, k * 6 + 2, none⟩ = some (.int .i64 y.site) := hcc k 2 _ hlt (by rw [hy]; rfl)
      have x3 : wr.cell? ⟨b, k * 6 + 3, none⟩ = some (.int .i64 y.seq) := hcc k 3 _ hlt (by rw [hy]; rfl)
      have x4 : wr.cell? ⟨b, k * 6 + 4, none⟩ = some (.string y.data) := hcc k 4 _ hlt (by rw [hy]; rfl)
      have x5 : wr.cell? ⟨b, k * 6 + 5, none⟩ = some (.bool y.gone) := hcc k 5 _ hlt (by rw [hy]; rfl)
      have Y : Hid (verAt L k = y) := hy
      have HS : Hid (0 ≤ y.site ∧ y.site ≤ 3) := hsy
      have RA1 := RA.later hb
      have RS1 := RS.later hb
      clear hy hcc hV4 hsy
      cases hd : delV a0 a1 a2 a3 st y
      · have HD : Hid (delV a0 a1 a2 a3 st y = false) := hd
        clear hd
        go_wp2_with fail
        refine (del_is HD.out HS.out.1 HS.out.2 _ RA1 RS1).mono ?_
        rintro e w1 ⟨rfl, hb1⟩
        go_wp2_with fail
        go_roundw
        case rel => exact ⟨k + 1, z + 1, by omega, by have := HZ.out; omega, by go_num, (fun j hj => by
            rcases Nat.lt_or_ge j k with g | g
            · exact NT.out j g
            · obtain rfl : j = k := by omega
              rw [Y.out, HD.out] : ∀ j, j < k + 1 → delV a0 a1 a2 a3 st (verAt L j) = false), behind hb hb1⟩
        case measure => simp [intOf]; omega
      · have HD : Hid (delV a0 a1 a2 a3 st y = true) := hd
        clear hd
        go_wp2_with fail
        refine (del_is HD.out HS.out.1 HS.out.2 _ RA1 RS1).mono ?_
        rintro e w1 ⟨rfl, hb1⟩
        go_wp2_with fail
        go_ret
        exact ⟨z, rfl, .inr ⟨k, hlt, HZ.out, by rw [Y.out, HD.out], NT.out⟩, behind hb hb1⟩
    · have h4 : ¬ z < (L.length : Int) := by omega
      clear hz
      go_wp2_with fail
      go_ret
      refine ⟨-1, rfl, .inl ⟨rfl, fun v hv => ?_⟩, hb⟩
      obtain ⟨i, hi, rfl⟩ := List.mem_iff_getElem.1 hv
      have e := NT.out i (by omega)
      rwa [verAt_eq hi] at e

end Go.Proofs.YtnbgjiibpnoieaaDoor
