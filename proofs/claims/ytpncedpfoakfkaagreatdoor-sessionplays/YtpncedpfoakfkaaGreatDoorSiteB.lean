/-
  What the document's own RightVec does, as the model runs it (package copseref).
  What Covers of package vector does, as the model runs it.
  What wire.isSite, isData and RightWrites do, as the model runs them.
  What '==' says of two vectors (an array of four ints), as the model runs it.
  What plain.Same does, as the model runs it, where two transactions are the same.
-/
import Derived.Test.YtpncedpfoakfkaaGreatDoorChecked
import Derived.Test.YtpncedpfoakfkaaGreatDoorSiteA
import Derived.WalkKit
import Derived.WalkSpells
import Derived.WalkLawsBesides
import Derived.LoopN
import Derived.Laws.StructEq
namespace Go.Proofs.YtpncedpfoakfkaaGreatDoor
open Go.RowKit

set_option maxHeartbeats 1000000 in
theorem refRightVec_any (a0 a1 a2 a3 : Int) (w : World) :
    Calls Tryz.prog 48 #[.agg #[.int .i64 a0, .int .i64 a1, .int .i64 a2, .int .i64 a3]] w fun e w' => e = .returned (.bool (timesB a0 a1 a2 a3)) ∧ Below w.heap.size w w' := by
  have i0 : ∀ w, (Instr.index 32 (.agg #[.int .i64 a0, .int .i64 a1, .int .i64 a2, .int .i64 a3]) (.int .i64 0)).run Tryz.prog w = .ok (.int .i64 a0) w := fun _ => by kernel_rfl
  have i1 : ∀ w, (Instr.index 32 (.agg #[.int .i64 a0, .int .i64 a1, .int .i64 a2, .int .i64 a3]) (.int .i64 1)).run Tryz.prog w = .ok (.int .i64 a1) w := fun _ => by kernel_rfl
  have i2 : ∀ w, (Instr.index 32 (.agg #[.int .i64 a0, .int .i64 a1, .int .i64 a2, .int .i64 a3]) (.int .i64 2)).run Tryz.prog w = .ok (.int .i64 a2) w := fun _ => by kernel_rfl
  have i3 : ∀ w, (Instr.index 32 (.agg #[.int .i64 a0, .int .i64 a1, .int .i64 a2, .int .i64 a3]) (.int .i64 3)).run Tryz.prog w = .ok (.int .i64 a3) w := fun _ => by kernel_rfl
  by_cases h0 : timeB a0 = false
  · have e : timesB a0 a1 a2 a3 = false := by simp [timesB, h0]
    rw [e]
    clear e
    go_enter Tryz.func48, Tryz.ntmps48
    go_wp2
    refine wp_loop_rounds 5 ?_
    rw [rounds_succ]
    go_wp2_with (go_at_call 76; refine (in_any _ _).mono ?_; rintro e w1 ⟨rfl, rfl⟩)
    go_ret
    exact ⟨rfl, by repeat (first | exact Below.refl _ _ | apply below_drawn | apply boxed)⟩
  have h0 : timeB a0 = true := by simpa using h0
  by_cases h1 : timeB a1 = false
  · have e : timesB a0 a1 a2 a3 = false := by simp [timesB, h1]
    rw [e]
    clear e
    go_enter Tryz.func48, Tryz.ntmps48
    go_wp2
    refine wp_loop_rounds 5 ?_
    rw [rounds_succ]
    go_wp2_with (go_at_call 76; refine (in_any _ _).mono ?_; rintro e w1 ⟨rfl, rfl⟩)
    rw [rounds_succ]
    go_wp2_with (go_at_call 76; refine (in_any _ _).mono ?_; rintro e w1 ⟨rfl, rfl⟩)
    go_ret
    exact ⟨rfl, by repeat (first | exact Below.refl _ _ | apply below_drawn | apply boxed)⟩
  have h1 : timeB a1 = true := by simpa using h1
  by_cases h2 : timeB a2 = false
  · have e : timesB a0 a1 a2 a3 = false := by simp [timesB, h2]
    rw [e]
    clear e
    go_enter Tryz.func48, Tryz.ntmps48
    go_wp2
    refine wp_loop_rounds 5 ?_
    rw [rounds_succ]
    go_wp2_with (go_at_call 76; refine (in_any _ _).mono ?_; rintro e w1 ⟨rfl, rfl⟩)
    rw [rounds_succ]
    go_wp2_with (go_at_call 76; refine (in_any _ _).mono ?_; rintro e w1 ⟨rfl, rfl⟩)
    rw [rounds_succ]
    go_wp2_with (go_at_call 76; refine (in_any _ _).mono ?_; rintro e w1 ⟨rfl, rfl⟩)
    go_ret
    exact ⟨rfl, by repeat (first | exact Below.refl _ _ | apply below_drawn | apply boxed)⟩
  have h2 : timeB a2 = true := by simpa using h2
  by_cases h3 : timeB a3 = false
  · have e : timesB a0 a1 a2 a3 = false := by simp [timesB, h3]
    rw [e]
    clear e
    go_enter Tryz.func48, Tryz.ntmps48
    go_wp2
    refine wp_loop_rounds 5 ?_
    rw [rounds_succ]
    go_wp2_with (go_at_call 76; refine (in_any _ _).mono ?_; rintro e w1 ⟨rfl, rfl⟩)
    rw [rounds_succ]
    go_wp2_with (go_at_call 76; refine (in_any _ _).mono ?_; rintro e w1 ⟨rfl, rfl⟩)
    rw [rounds_succ]
    go_wp2_with (go_at_call 76; refine (in_any _ _).mono ?_; rintro e w1 ⟨rfl, rfl⟩)
    rw [rounds_succ]
    go_wp2_with (go_at_call 76; refine (in_any _ _).mono ?_; rintro e w1 ⟨rfl, rfl⟩)
    go_ret
    exact ⟨rfl, by repeat (first | exact Below.refl _ _ | apply below_drawn | apply boxed)⟩
  have h3 : timeB a3 = true := by simpa using h3
  have e : timesB a0 a1 a2 a3 = true := by simp [timesB, h0, h1, h2, h3]
  rw [e]
  clear e
  go_enter Tryz.func48, Tryz.ntmps48
  go_wp2
  refine wp_loop_rounds 5 ?_
  rw [rounds_succ]
  go_wp2_with (go_at_call 76; refine (in_any _ _).mono ?_; rintro e w1 ⟨rfl, rfl⟩)
  rw [rounds_succ]
  go_wp2_with (go_at_call 76; refine (in_any _ _).mono ?_; rintro e w1 ⟨rfl, rfl⟩)
  rw [rounds_succ]
  go_wp2_with (go_at_call 76; refine (in_any _ _).mono ?_; rintro e w1 ⟨rfl, rfl⟩)
  rw [rounds_succ]
  go_wp2_with (go_at_call 76; refine (in_any _ _).mono ?_; rintro e w1 ⟨rfl, rfl⟩)
  rw [rounds_succ]
  go_wp2
  go_ret
  exact ⟨rfl, by repeat (first | exact Below.refl _ _ | apply below_drawn | apply boxed)⟩

/-- the same, where the answer is known -/
theorem refRightVec_is {a0 a1 a2 a3 : Int} {v : Bool} (h : timesB a0 a1 a2 a3 = v) (w : World) :
    Calls Tryz.prog 48 #[.agg #[.int .i64 a0, .int .i64 a1, .int .i64 a2, .int .i64 a3]] w fun e w' => e = .returned (.bool v) ∧ Below w.heap.size w w' := by
  subst h
  exact refRightVec_any a0 a1 a2 a3 w

end Go.Proofs.YtpncedpfoakfkaaGreatDoor

namespace Go.Proofs.YtpncedpfoakfkaaGreatDoor
open Go.RowKit

set_option maxHeartbeats 1000000 in
theorem covers_any (a0 a1 a2 a3 b0 b1 b2 b3 : Int) (w : World) :
    Calls Tryz.prog 54 #[.agg #[.int .i64 a0, .int .i64 a1, .int .i64 a2, .int .i64 a3], .agg #[.int .i64 b0, .int .i64 b1, .int .i64 b2, .int .i64 b3]] w fun e w' => e = .returned (.bool (covB a0 a1 a2 a3 b0 b1 b2 b3)) ∧ Below w.heap.size w w' := by
  by_cases h0 : a0 < b0
  · have e : covB a0 a1 a2 a3 b0 b1 b2 b3 = false := by simp [covB]; omega
    rw [e]
    clear e
    go_enter Tryz.func54, Tryz.ntmps54
    go_wp2
    refine wp_loop_rounds 5 ?_
    rw [rounds_succ]
    go_wp2
    go_quiet (fail)
    go_wp2
    go_ret
    exact ⟨rfl, by repeat (first | exact Below.refl _ _ | apply below_drawn | apply boxed)⟩
  by_cases h1 : a1 < b1
  · have e : covB a0 a1 a2 a3 b0 b1 b2 b3 = false := by simp [covB]; omega
    rw [e]
    clear e
    go_enter Tryz.func54, Tryz.ntmps54
    go_wp2
    refine wp_loop_rounds 5 ?_
    rw [rounds_succ]
    go_wp2
    go_quiet (fail)
    go_wp2
    rw [rounds_succ]
    go_wp2
    go_quiet (fail)
    go_wp2
    go_ret
    exact ⟨rfl, by repeat (first | exact Below.refl _ _ | apply below_drawn | apply boxed)⟩
  by_cases h2 : a2 < b2
  · have e : covB a0 a1 a2 a3 b0 b1 b2 b3 = false := by simp [covB]; omega
    rw [e]
    clear e
    go_enter Tryz.func54, Tryz.ntmps54
    go_wp2
    refine wp_loop_rounds 5 ?_
    rw [rounds_succ]
    go_wp2
    go_quiet (fail)
    go_wp2
    rw [rounds_succ]
    go_wp2
    go_quiet (fail)
    go_wp2
    rw [rounds_succ]
    go_wp2
    go_quiet (fail)
    go_wp2
    go_ret
    exact ⟨rfl, by repeat (first | exact Below.refl _ _ | apply below_drawn | apply boxed)⟩
  by_cases h3 : a3 < b3
  · have e : covB a0 a1 a2 a3 b0 b1 b2 b3 = false := by simp [covB]; omega
    rw [e]
    clear e
    go_enter Tryz.func54, Tryz.ntmps54
    go_wp2
    refine wp_loop_rounds 5 ?_
    rw [rounds_succ]
    go_wp2
    go_quiet (fail)
    go_wp2
    rw [rounds_succ]
    go_wp2
    go_quiet (fail)
    go_wp2
    rw [rounds_succ]
    go_wp2
    go_quiet (fail)
    go_wp2
    rw [rounds_succ]
    go_wp2
    go_quiet (fail)
    go_wp2
    go_ret
    exact ⟨rfl, by repeat (first | exact Below.refl _ _ | apply below_drawn | apply boxed)⟩
  have e : covB a0 a1 a2 a3 b0 b1 b2 b3 = true := by simp [covB]; omega
  rw [e]
  clear e
  go_enter Tryz.func54, Tryz.ntmps54
  go_wp2
  refine wp_loop_rounds 5 ?_
  rw [rounds_succ]
  go_wp2
  go_quiet (fail)
  go_wp2
  rw [rounds_succ]
  go_wp2
  go_quiet (fail)
  go_wp2
  rw [rounds_succ]
  go_wp2
  go_quiet (fail)
  go_wp2
  rw [rounds_succ]
  go_wp2
  go_quiet (fail)
  go_wp2
  rw [rounds_succ]
  go_wp2
  go_ret
  exact ⟨rfl, by repeat (first | exact Below.refl _ _ | apply below_drawn | apply boxed)⟩

/-- the same, where the answer is known -/
theorem covers_is {a0 a1 a2 a3 b0 b1 b2 b3 : Int} {v : Bool} (h : covB a0 a1 a2 a3 b0 b1 b2 b3 = v) (w : World) :
    Calls Tryz.prog 54 #[.agg #[.int .i64 a0, .int .i64 a1, .int .i64 a2, .int .i64 a3], .agg #[.int .i64 b0, .int .i64 b1, .int .i64 b2, .int .i64 b3]] w fun e w' => e = .returned (.bool v) ∧ Below w.heap.size w w' := by
  subst h
  exact covers_any _ _ _ _ _ _ _ _ w

end Go.Proofs.YtpncedpfoakfkaaGreatDoor

namespace Go.Proofs.YtpncedpfoakfkaaGreatDoor
open Go.RowKit

set_option maxHeartbeats 400000 in
theorem isSite_is {n : Int} {v : Bool} (h : inB n 0 3 = v) (w : World) :
    Calls Tryz.prog 90 #[.int .i64 n] w fun e w' => e = .returned (.bool v) ∧ Below w.heap.size w w' := by
  subst h
  by_cases h0 : 0 ≤ n
  · by_cases h1 : n < 4
    · have e : Hid (inB n 0 3 = true) := by show inB n 0 3 = true; rw [inB_iff]; omega
      go_enter Tryz.func90, Tryz.ntmps90
      go_wp2
      go_ret
      exact ⟨by rw [e.out]; rfl, Below.refl _ _⟩
    · have e : Hid (inB n 0 3 = false) := by show inB n 0 3 = false; simp [inB]; omega
      go_enter Tryz.func90, Tryz.ntmps90
      go_wp2
      go_ret
      exact ⟨by rw [e.out]; rfl, Below.refl _ _⟩
  · have e : Hid (inB n 0 3 = false) := by show inB n 0 3 = false; simp [inB, h0]
    go_enter Tryz.func90, Tryz.ntmps90
    go_wp2
    go_ret
    exact ⟨by rw [e.out]; rfl, Below.refl _ _⟩

/-- data that may be -/
def dataB (data : ByteArray) (gone : Bool) : Bool := if gone then data.toList.isEmpty else decide ((data.size : Int) ≤ 12)

set_option maxHeartbeats 1000000 in
theorem isData_is {key : Int} {data : ByteArray} {gone v : Bool} (h : dataB data gone = v) (w : World) :
    Calls Tryz.prog 84 #[.agg #[.int .i64 key, .string data, .bool gone]] w fun e w' => e = .returned (.bool v) ∧ Below w.heap.size w w' := by
  subst h
  cases gone
  · by_cases h1 : (data.size : Int) ≤ 12
    · have e : Hid (dataB data false = true) := decide_eq_true h1
      go_enter Tryz.func84, Tryz.ntmps84
      go_wp2
      go_ret
      exact ⟨by rw [e.out]; rfl, boxed (Below.refl _ _) _⟩
    · have e : Hid (dataB data false = false) := decide_eq_false h1
      go_enter Tryz.func84, Tryz.ntmps84
      go_wp2
      go_ret
      exact ⟨by rw [e.out]; rfl, boxed (Below.refl _ _) _⟩
  · cases he : data.toList.isEmpty
    · have e : Hid (dataB data true = false) := he
      go_enter Tryz.func84, Tryz.ntmps84
      go_wp2
      go_ret
      exact ⟨by rw [e.out]; rfl, boxed (Below.refl _ _) _⟩
    · have e : Hid (dataB data true = true) := he
      go_enter Tryz.func84, Tryz.ntmps84
      go_wp2
      go_ret
      exact ⟨by rw [e.out]; rfl, boxed (Below.refl _ _) _⟩

/-- the key ahead, or -1 -/
def lastK (l : List Wr) (k : Nat) : Int := if k = 0 then -1 else (wrAt l (k - 1)).key

theorem toList_empty {data : ByteArray} (h : data.toList.isEmpty = true) : data.size = 0 := by
  have loop : ∀ (n i : Nat) (r : List UInt8), data.size - i = n → (ByteArray.toList.loop data i r).length = r.length + n := by
    intro n
    induction n with
    | zero =>
      intro i r hn
      unfold ByteArray.toList.loop
      rw [if_neg (by omega)]
      simp
    | succ n ih =>
      intro i r hn
      unfold ByteArray.toList.loop
      rw [if_pos (by omega), ih _ _ (by omega)]
      simp
      omega
  have := loop data.size 0 [] (by omega)
  have e : data.toList = [] := List.isEmpty_iff.1 h
  rw [show ByteArray.toList.loop data 0 [] = data.toList from rfl, e] at this
  simpa using this.symm

theorem okd_last {l : List Wr} {k : Nat} {key : Int} {data : ByteArray} {gone : Bool} (hx : wrAt l k = ⟨key, data, gone⟩) (h : key ≤ lastK l k) : okAt l k = false := by
  rw [okAt_eq hx]
  unfold lastK at h
  split at h
  · exact okv_key (by simp [inB]; omega)
  · exact okv_prev (by omega) h
theorem okd_eight {l : List Wr} {k : Nat} {key : Int} {data : ByteArray} {gone : Bool} (hx : wrAt l k = ⟨key, data, gone⟩) (h : 8 ≤ key) : okAt l k = false := by
  rw [okAt_eq hx]
  exact okv_key (by simp [inB]; omega)
theorem okd_data {l : List Wr} {k : Nat} {key : Int} {data : ByteArray} {gone : Bool} (hx : wrAt l k = ⟨key, data, gone⟩) (h : dataB data gone = false) : okAt l k = false := by
  rw [okAt_eq hx]
  cases gone
  · exact okv_len (by have := of_decide_eq_false (show decide ((data.size : Int) ≤ 12) = false from h); omega)
  · exact okv_gone rfl h
theorem okd_good {l : List Wr} {k : Nat} {key : Int} {data : ByteArray} {gone : Bool} (hx : wrAt l k = ⟨key, data, gone⟩) (ha : ∀ j, j < k → okAt l j = true) (h0 : ¬ key ≤ lastK l k) (h1 : ¬ 8 ≤ key) (h : dataB data gone = true) : okAt l k = true := by
  rw [okAt_eq hx]
  have hd : ¬ 12 < (data.size : Int) ∧ (gone = false ∨ data.toList.isEmpty = true) := by
    cases gone
    · exact ⟨by have := of_decide_eq_true (show decide ((data.size : Int) ≤ 12) = true from h); omega, .inl rfl⟩
    · have := toList_empty h
      exact ⟨by omega, .inr h⟩
  unfold lastK at h0
  split at h0
  · exact okv_good (by rw [inB_iff]; omega) (.inl (by assumption)) hd.1 hd.2
  · have := okAt_key (ha (k - 1) (by omega))
    exact okv_good (by rw [inB_iff]; omega) (.inr h0) hd.1 hd.2

set_option maxHeartbeats 4000000 in
theorem rightW_cells (b off cap : Nat) (l : List Wr) (w : World) (hc : WrCells w b off l) (h1 : ¬ (l.length : Int) < 1) (h5 : ¬ 5 < (l.length : Int)) :
    Calls Tryz.prog 52 #[.slice (some ⟨b, off, none⟩) l.length cap] w fun e w' => e = .returned (.bool (okWs l)) ∧ Below w.heap.size w w' := by
  go_enter Tryz.func52, Tryz.ntmps52
  go_wp2_with fail
  go_loopw [3, 16] (fun p i wr => ∃ (k : Nat) (z : Int), k ≤ l.length ∧ z = k ∧ i = .int .i64 z ∧ p = .int .i64 (lastK l k) ∧ (∀ j, j < k → okAt l j = true) ∧ Below w.heap.size w wr ∧ WrCells wr b off l) (fun _ i _ => l.length - (intOf i).toNat)
  case atStart => exact ⟨0, 0, by omega, rfl, rfl, rfl, fun j hj => by omega, Below.refl _ _, hc⟩
  case round =>
    obtain ⟨k, z, hk, hz, rfl, rfl, HA0, hb, C⟩ := hrel
    have HA : Hid (∀ j, j < k → okAt l j = true) := HA0
    clear HA0
    obtain ⟨p, hp⟩ : ∃ p, lastK l k = p := ⟨_, rfl⟩
    rw [hp]
    have HP : Hid (lastK l k = p) := hp
    clear hp
    by_cases hlt : k < l.length
    · obtain ⟨x0, x1, x2⟩ := C k hlt
      have h1 : z < (l.length : Int) := by omega
      have h2 : z.toNat = k := by omega
      have h3 : 0 ≤ z := by omega
      have HZ : Hid (z = k) := hz
      clear hz
      obtain ⟨⟨key, data, gone⟩, hx⟩ : ∃ x, wrAt l k = x := ⟨_, rfl⟩
      rw [hx] at x0 x1 x2
      have HX : Hid (wrAt l k = ⟨key, data, gone⟩) := hx
      clear hx
      simp only at x0 x1 x2
      have hb4 := boxed hb (.cells #[.int .i64 key, .string data, .bool gone] 83)
      have C4 := C.later (boxed (Below.refl _ wr) (.cells #[.int .i64 key, .string data, .bool gone] 83))
      by_cases h6 : key ≤ p
      · have bad : Hid (okWs l = false) := okWs_bad hlt (okd_last HX.out (by rw [HP.out]; exact h6))
        go_wp2_with fail
        go_ret
        exact ⟨by rw [bad.out]; rfl, hb4⟩
      · by_cases h7 : 8 ≤ key
        · have bad : Hid (okWs l = false) := okWs_bad hlt (okd_eight HX.out h7)
          go_wp2_with fail
          go_ret
          exact ⟨by rw [bad.out]; rfl, hb4⟩
        · cases h8 : dataB data gone
          · have bad : Hid (okWs l = false) := okWs_bad hlt (okd_data HX.out h8)
            have H8 : Hid (dataB data gone = false) := h8
            clear h8
            go_wp2_with (go_at_call 84; refine (isData_is H8.out _).mono ?_; rintro e w5 ⟨rfl, hb5⟩)
            go_ret
            exact ⟨by rw [bad.out]; rfl, behind hb4 hb5⟩
          · have good : Hid (okAt l k = true) := okd_good HX.out HA.out (by rw [HP.out]; exact h6) h7 h8
            have H8 : Hid (dataB data gone = true) := h8
            clear h8
            have y0 : (wr.alloc (.cells #[.int .i64 key, .string data, .bool gone] 83)).cell? ⟨wr.heap.size, 0, none⟩ = some (.int .i64 key) := by go_simp
            go_wp2_with (go_at_call 84; refine (isData_is H8.out _).mono ?_; rintro e w5 ⟨rfl, hb5⟩; replace y0 := cell_later hb5 y0)
            go_roundw
            case rel => exact ⟨k + 1, z + 1, by omega, by have := HZ.out; omega, by go_num, by show _ = Value.int .i64 (wrAt l (k + 1 - 1)).key; rw [Nat.add_sub_cancel, HX.out], ok_next HA.out good.out, behind hb4 hb5, C4.later hb5⟩
            case measure => simp [intOf]; omega
    · have e : Hid (okWs l = true) := by
        show okWs l = true
        rw [okWs_all (fun j hj => HA.out j (by omega)), inB_iff]
        omega
      go_wp2
      go_ret
      exact ⟨by rw [e.out]; rfl, hb⟩

set_option maxHeartbeats 1000000 in
/-- whether writes may be, wherever they lie -/
theorem rightW_any {a : Option Addr} {cap : Nat} {l : List Wr} {w : World} (h : WrIn w a cap l) :
    Calls Tryz.prog 52 #[.slice a l.length cap] w fun e w' => e = .returned (.bool (okWs l)) ∧ Below w.heap.size w w' := by
  by_cases h1 : (l.length : Int) < 1
  · have e : Hid (okWs l = false) := by
      show okWs l = false
      have : inB l.length 1 5 = false := by simp [inB]; omega
      simp [okWs, this]
    go_enter Tryz.func52, Tryz.ntmps52
    go_wp2
    go_ret
    exact ⟨by rw [e.out]; rfl, Below.refl _ _⟩
  · by_cases h5 : 5 < (l.length : Int)
    · have e : Hid (okWs l = false) := by
        show okWs l = false
        have : inB l.length 1 5 = false := by simp [inB]; omega
        simp [okWs, this]
      go_enter Tryz.func52, Tryz.ntmps52
      go_wp2
      go_ret
      exact ⟨by rw [e.out]; rfl, Below.refl _ _⟩
    · rcases h.held with rfl | ⟨b, off, rfl, hc⟩
      · simp at h1
      · exact rightW_cells b off cap l w hc h1 h5

end Go.Proofs.YtpncedpfoakfkaaGreatDoor

namespace Go.Proofs.YtpncedpfoakfkaaGreatDoor
open Go.RowKit

theorem eqVec (a b c d x y z t : Int) (w : World) : (Op.equalIn 10000 32 (.agg #[.int .i64 a, .int .i64 b, .int .i64 c, .int .i64 d]) (.agg #[.int .i64 x, .int .i64 y, .int .i64 z, .int .i64 t])).run Tryz.prog w = .ok (a == x && b == y && c == z && d == t) w := by
  have u3 := Tryz.underlying3
  have a3 := Tryz.isAgg3
  have z3 := Tryz.sizeOf3
  rw [show (10000 : Nat) = 9999 + 1 from rfl, Op.equalIn]
  simp only [Sem.run_bind, run_underlying Tryz.underlying32, Result.andThen_ok]
  simp only [Std.Legacy.Range.forIn_eq_forIn_range', Std.Legacy.Range.size, Nat.sub_zero, Nat.add_sub_cancel, Nat.div_one, List.range'_succ, List.range'_zero, List.forIn_cons, List.forIn_nil]
  go_simp
  by_cases h1 : a = x <;> by_cases h2 : b = y <;> by_cases h3 : c = z <;> by_cases h4 : d = t <;> simp [h1, h2, h3, h4]

theorem eqVecB (a b c d x y z t : Int) (w : World) : (binOp .eql 32 (.agg #[.int .i64 a, .int .i64 b, .int .i64 c, .int .i64 d]) (.agg #[.int .i64 x, .int .i64 y, .int .i64 z, .int .i64 t])).run Tryz.prog w = .ok (.bool (same4 a b c d x y z t)) w := by
  rw [run_eql_struct, eqVec]
  rfl

end Go.Proofs.YtpncedpfoakfkaaGreatDoor

namespace Go.Proofs.YtpncedpfoakfkaaGreatDoor
open Go.RowKit

theorem neStamp (a b : Int) (w : World) : (binOp .neq 34 (.agg #[.int .i64 a, .int .i64 b]) (.agg #[.int .i64 a, .int .i64 b])).run Tryz.prog w = .ok (.bool false) w := by
  rw [run_neq_struct, eqStamp]
  simp [Result.andThen]
theorem neVec (a b c d : Int) (w : World) : (binOp .neq 32 (.agg #[.int .i64 a, .int .i64 b, .int .i64 c, .int .i64 d]) (.agg #[.int .i64 a, .int .i64 b, .int .i64 c, .int .i64 d])).run Tryz.prog w = .ok (.bool false) w := by
  rw [run_neq_struct, eqVec]
  simp [Result.andThen]
theorem eqWrite (k : Int) (d : ByteArray) (g : Bool) (w : World) : (Op.equalIn 10000 83 (.agg #[.int .i64 k, .string d, .bool g]) (.agg #[.int .i64 k, .string d, .bool g])).run Tryz.prog w = .ok true w := by
  have u3 := Tryz.underlying3
  have a3 := Tryz.isAgg3
  have z3 := Tryz.sizeOf3
  have u4 := Tryz.underlying4
  have a4 := Tryz.isAgg4
  have z4 := Tryz.sizeOf4
  have u9 := Tryz.underlying9
  have a9 := Tryz.isAgg9
  have z9 := Tryz.sizeOf9
  have hS : Tryz.prog.underlying 83 = some (.struct (Tryz.prog.fieldsOf 83)) := by kernel_rfl
  have hp : Tryz.prog.stoodInHeld 83 = false := by kernel_rfl
  rw [show (10000 : Nat) = 9999 + 1 from rfl, run_equalIn_agg w 9999 83 _ _ hS hp]
  simp only [Program.fieldsOf, Tryz.underlying83]
  go_simp
theorem neWrite (k : Int) (d : ByteArray) (g : Bool) (w : World) : (binOp .neq 83 (.agg #[.int .i64 k, .string d, .bool g]) (.agg #[.int .i64 k, .string d, .bool g])).run Tryz.prog w = .ok (.bool false) w := by
  rw [run_neq_struct, eqWrite]
  simp [Result.andThen]

set_option maxHeartbeats 4000000 in
theorem same_any (site seq wall count d0 d1 d2 d3 : Int) (a a2 : Option Addr) (cap cap2 : Nat) (l : List Wr) (w : World) (hA : WrIn w a cap l) (hB : WrIn w a2 cap2 l) :
    Calls Tryz.prog 10 #[.agg #[.int .i64 site, .int .i64 seq, .int .i64 wall, .int .i64 count, .int .i64 d0, .int .i64 d1, .int .i64 d2, .int .i64 d3, .slice a l.length cap], .agg #[.int .i64 site, .int .i64 seq, .int .i64 wall, .int .i64 count, .int .i64 d0, .int .i64 d1, .int .i64 d2, .int .i64 d3, .slice a2 l.length cap2]] w fun e w' => e = .returned (.bool true) ∧ Below w.heap.size w w' := by
  have hne := Later.one
  have n1 := neStamp
  have n2 := neVec
  have n3 := neWrite
  have hb := boxed (boxed (Below.refl w.heap.size w) (.cells #[.int .i64 site, .int .i64 seq, .int .i64 wall, .int .i64 count, .int .i64 d0, .int .i64 d1, .int .i64 d2, .int .i64 d3, .slice a l.length cap] 44)) (.cells #[.int .i64 site, .int .i64 seq, .int .i64 wall, .int .i64 count, .int .i64 d0, .int .i64 d1, .int .i64 d2, .int .i64 d3, .slice a2 l.length cap2] 44)
  have hA1 := hA.later hb
  have hB1 := hB.later hb
  have c0 : ((w.alloc (.cells #[.int .i64 site, .int .i64 seq, .int .i64 wall, .int .i64 count, .int .i64 d0, .int .i64 d1, .int .i64 d2, .int .i64 d3, .slice a l.length cap] 44)).alloc (.cells #[.int .i64 site, .int .i64 seq, .int .i64 wall, .int .i64 count, .int .i64 d0, .int .i64 d1, .int .i64 d2, .int .i64 d3, .slice a2 l.length cap2] 44)).cell? ⟨w.heap.size, 0, none⟩ = some (.int .i64 site) := by go_simp
  have c1 : ((w.alloc (.cells #[.int .i64 site, .int .i64 seq, .int .i64 wall, .int .i64 count, .int .i64 d0, .int .i64 d1, .int .i64 d2, .int .i64 d3, .slice a l.length cap] 44)).alloc (.cells #[.int .i64 site, .int .i64 seq, .int .i64 wall, .int .i64 count, .int .i64 d0, .int .i64 d1, .int .i64 d2, .int .i64 d3, .slice a2 l.length cap2] 44)).cell? ⟨w.heap.size, 1, none⟩ = some (.int .i64 seq) := by go_simp
  have c2 : ((w.alloc (.cells #[.int .i64 site, .int .i64 seq, .int .i64 wall, .int .i64 count, .int .i64 d0, .int .i64 d1, .int .i64 d2, .int .i64 d3, .slice a l.length cap] 44)).alloc (.cells #[.int .i64 site, .int .i64 seq, .int .i64 wall, .int .i64 count, .int .i64 d0, .int .i64 d1, .int .i64 d2, .int .i64 d3, .slice a2 l.length cap2] 44)).cell? ⟨w.heap.size, 2, none⟩ = some (.int .i64 wall) := by go_simp
  have c3 : ((w.alloc (.cells #[.int .i64 site, .int .i64 seq, .int .i64 wall, .int .i64 count, .int .i64 d0, .int .i64 d1, .int .i64 d2, .int .i64 d3, .slice a l.length cap] 44)).alloc (.cells #[.int .i64 site, .int .i64 seq, .int .i64 wall, .int .i64 count, .int .i64 d0, .int .i64 d1, .int .i64 d2, .int .i64 d3, .slice a2 l.length cap2] 44)).cell? ⟨w.heap.size, 3, none⟩ = some (.int .i64 count) := by go_simp
  have c4 : ((w.alloc (.cells #[.int .i64 site, .int .i64 seq, .int .i64 wall, .int .i64 count, .int .i64 d0, .int .i64 d1, .int .i64 d2, .int .i64 d3, .slice a l.length cap] 44)).alloc (.cells #[.int .i64 site, .int .i64 seq, .int .i64 wall, .int .i64 count, .int .i64 d0, .int .i64 d1, .int .i64 d2, .int .i64 d3, .slice a2 l.length cap2] 44)).cell? ⟨w.heap.size, 4, none⟩ = some (.int .i64 d0) := by go_simp
  have c5 : ((w.alloc (.cells #[.int .i64 site, .int .i64 seq, .int .i64 wall, .int .i64 count, .int .i64 d0, .int .i64 d1, .int .i64 d2, .int .i64 d3, .slice a l.length cap] 44)).alloc (.cells #[.int .i64 site, .int .i64 seq, .int .i64 wall, .int .i64 count, .int .i64 d0, .int .i64 d1, .int .i64 d2, .int .i64 d3, .slice a2 l.length cap2] 44)).cell? ⟨w.heap.size, 5, none⟩ = some (.int .i64 d1) := by go_simp
  have c6 : ((w.alloc (.cells #[.int .i64 site, .int .i64 seq, .int .i64 wall, .int .i64 count, .int .i64 d0, .int .i64 d1, .int .i64 d2, .int .i64 d3, .slice a l.length cap] 44)).alloc (.cells #[.int .i64 site, .int .i64 seq, .int .i64 wall, .int .i64 count, .int .i64 d0, .int .i64 d1, .int .i64 d2, .int .i64 d3, .slice a2 l.length cap2] 44)).cell? ⟨w.heap.size, 6, none⟩ = some (.int .i64 d2) := by go_simp
  have c7 : ((w.alloc (.cells #[.int .i64 site, .int .i64 seq, .int .i64 wall, .int .i64 count, .int .i64 d0, .int .i64 d1, .int .i64 d2, .int .i64 d3, .slice a l.length cap] 44)).alloc (.cells #[.int .i64 site, .int .i64 seq, .int .i64 wall, .int .i64 count, .int .i64 d0, .int .i64 d1, .int .i64 d2, .int .i64 d3, .slice a2 l.length cap2] 44)).cell? ⟨w.heap.size, 7, none⟩ = some (.int .i64 d3) := by go_simp
  have c8 : ((w.alloc (.cells #[.int .i64 site, .int .i64 seq, .int .i64 wall, .int .i64 count, .int .i64 d0, .int .i64 d1, .int .i64 d2, .int .i64 d3, .slice a l.length cap] 44)).alloc (.cells #[.int .i64 site, .int .i64 seq, .int .i64 wall, .int .i64 count, .int .i64 d0, .int .i64 d1, .int .i64 d2, .int .i64 d3, .slice a2 l.length cap2] 44)).cell? ⟨w.heap.size, 8, none⟩ = some (.slice a l.length cap) := by go_simp
  have k0 : ((w.alloc (.cells #[.int .i64 site, .int .i64 seq, .int .i64 wall, .int .i64 count, .int .i64 d0, .int .i64 d1, .int .i64 d2, .int .i64 d3, .slice a l.length cap] 44)).alloc (.cells #[.int .i64 site, .int .i64 seq, .int .i64 wall, .int .i64 count, .int .i64 d0, .int .i64 d1, .int .i64 d2, .int .i64 d3, .slice a2 l.length cap2] 44)).cell? ⟨w.heap.size + 1, 0, none⟩ = some (.int .i64 site) := by go_simp
  have k1 : ((w.alloc (.cells #[.int .i64 site, .int .i64 seq, .int .i64 wall, .int .i64 count, .int .i64 d0, .int .i64 d1, .int .i64 d2, .int .i64 d3, .slice a l.length cap] 44)).alloc (.cells #[.int .i64 site, .int .i64 seq, .int .i64 wall, .int .i64 count, .int .i64 d0, .int .i64 d1, .int .i64 d2, .int .i64 d3, .slice a2 l.length cap2] 44)).cell? ⟨w.heap.size + 1, 1, none⟩ = some (.int .i64 seq) := by go_simp
  have k2 : ((w.alloc (.cells #[.int .i64 site, .int .i64 seq, .int .i64 wall, .int .i64 count, .int .i64 d0, .int .i64 d1, .int .i64 d2, .int .i64 d3, .slice a l.length cap] 44)).alloc (.cells #[.int .i64 site, .int .i64 seq, .int .i64 wall, .int .i64 count, .int .i64 d0, .int .i64 d1, .int .i64 d2, .int .i64 d3, .slice a2 l.length cap2] 44)).cell? ⟨w.heap.size + 1, 2, none⟩ = some (.int .i64 wall) := by go_simp
  have k3 : ((w.alloc (.cells #[.int .i64 site, .int .i64 seq, .int .i64 wall, .int .i64 count, .int .i64 d0, .int .i64 d1, .int .i64 d2, .int .i64 d3, .slice a l.length cap] 44)).alloc (.cells #[.int .i64 site, .int .i64 seq, .int .i64 wall, .int .i64 count, .int .i64 d0, .int .i64 d1, .int .i64 d2, .int .i64 d3, .slice a2 l.length cap2] 44)).cell? ⟨w.heap.size + 1, 3, none⟩ = some (.int .i64 count) := by go_simp
  have k4 : ((w.alloc (.cells #[.int .i64 site, .int .i64 seq, .int .i64 wall, .int .i64 count, .int .i64 d0, .int .i64 d1, .int .i64 d2, .int .i64 d3, .slice a l.length cap] 44)).alloc (.cells #[.int .i64 site, .int .i64 seq, .int .i64 wall, .int .i64 count, .int .i64 d0, .int .i64 d1, .int .i64 d2, .int .i64 d3, .slice a2 l.length cap2] 44)).cell? ⟨w.heap.size + 1, 4, none⟩ = some (.int .i64 d0) := by go_simp
  have k5 : ((w.alloc (.cells #[.int .i64 site, .int .i64 seq, .int .i64 wall, .int .i64 count, .int .i64 d0, .int .i64 d1, .int .i64 d2, .int .i64 d3, .slice a l.length cap] 44)).alloc (.cells #[.int .i64 site, .int .i64 seq, .int .i64 wall, .int .i64 count, .int .i64 d0, .int .i64 d1, .int .i64 d2, .int .i64 d3, .slice a2 l.length cap2] 44)).cell? ⟨w.heap.size + 1, 5, none⟩ = some (.int .i64 d1) := by go_simp
  have k6 : ((w.alloc (.cells #[.int .i64 site, .int .i64 seq, .int .i64 wall, .int .i64 count, .int .i64 d0, .int .i64 d1, .int .i64 d2, .int .i64 d3, .slice a l.length cap] 44)).alloc (.cells #[.int .i64 site, .int .i64 seq, .int .i64 wall, .int .i64 count, .int .i64 d0, .int .i64 d1, .int .i64 d2, .int .i64 d3, .slice a2 l.length cap2] 44)).cell? ⟨w.heap.size + 1, 6, none⟩ = some (.int .i64 d2) := by go_simp
  have k7 : ((w.alloc (.cells #[.int .i64 site, .int .i64 seq, .int .i64 wall, .int .i64 count, .int .i64 d0, .int .i64 d1, .int .i64 d2, .int .i64 d3, .slice a l.length cap] 44)).alloc (.cells #[.int .i64 site, .int .i64 seq, .int .i64 wall, .int .i64 count, .int .i64 d0, .int .i64 d1, .int .i64 d2, .int .i64 d3, .slice a2 l.length cap2] 44)).cell? ⟨w.heap.size + 1, 7, none⟩ = some (.int .i64 d3) := by go_simp
  have k8 : ((w.alloc (.cells #[.int .i64 site, .int .i64 seq, .int .i64 wall, .int .i64 count, .int .i64 d0, .int .i64 d1, .int .i64 d2, .int .i64 d3, .slice a l.length cap] 44)).alloc (.cells #[.int .i64 site, .int .i64 seq, .int .i64 wall, .int .i64 count, .int .i64 d0, .int .i64 d1, .int .i64 d2, .int .i64 d3, .slice a2 l.length cap2] 44)).cell? ⟨w.heap.size + 1, 8, none⟩ = some (.slice a2 l.length cap2) := by go_simp
  go_enter Tryz.func10, Tryz.ntmps10
  go_wp2_with fail
  obtain ⟨W, hW⟩ : ∃ W, ((w.alloc (.cells #[.int .i64 site, .int .i64 seq, .int .i64 wall, .int .i64 count, .int .i64 d0, .int .i64 d1, .int .i64 d2, .int .i64 d3, .slice a l.length cap] 44)).alloc (.cells #[.int .i64 site, .int .i64 seq, .int .i64 wall, .int .i64 count, .int .i64 d0, .int .i64 d1, .int .i64 d2, .int .i64 d3, .slice a2 l.length cap2] 44)) = W := ⟨_, rfl⟩
  rw [hW] at c0 c1 c2 c3 c4 c5 c6 c7 c8 k0 k1 k2 k3 k4 k5 k6 k7 k8 hb hA1 hB1 ⊢
  clear hW hA hB
  go_loopw [44] (fun iv wr => ∃ (k : Nat) (z : Int), k ≤ l.length ∧ z = k ∧ iv = .int .i64 z ∧ Below W.heap.size W wr) (fun i _ => l.length - (intOf i).toNat)
  case atStart => exact ⟨0, 0, by omega, rfl, rfl, Below.refl _ _⟩
  case round =>
    obtain ⟨k, z, hk, hz, rfl, hbr⟩ := hrel
    by_cases hlt : k < l.length
    · have h1 : z < (l.length : Int) := by omega
      have h2 : z.toNat = k := by omega
      have h3 : 0 ≤ z := by omega
      have HZ : Hid (z = k) := hz
      clear hz
      have hA2 := hA1.later hbr
      have hB2 := hB1.later hbr
      have hcA := hA2.cap
      have hlA := hA2.len
      have hcB := hB2.cap
      have hlB := hB2.len
      obtain ⟨b, off, rfl, CA⟩ : ∃ b off, a = some ⟨b, off, none⟩ ∧ WrCells wr b off l := by
        rcases hA2.held with h0 | h0
        · rw [h0] at hlt; simp at hlt
        · exact h0
      obtain ⟨b2, off2, rfl, CB⟩ : ∃ b off, a2 = some ⟨b, off, none⟩ ∧ WrCells wr b off l := by
        rcases hB2.held with h0 | h0
        · rw [h0] at hlt; simp at hlt
        · exact h0
      obtain ⟨x0, x1, x2⟩ := CA k hlt
      obtain ⟨y0, y1, y2⟩ := CB k hlt
      replace x0 := Later.cell x0
      replace x1 := Later.cell x1
      replace x2 := Later.cell x2
      replace y0 := Later.cell y0
      replace y1 := Later.cell y1
      replace y2 := Later.cell y2
      have c8' := Later.cell (cell_later hbr c8)
      have k8' := Later.cell (cell_later hbr k8)
      clear c0 c1 c2 c3 c4 c5 c6 c7 c8 k0 k1 k2 k3 k4 k5 k6 k7 k8 CA CB hA1 hB1 hA2 hB2
      go_wp2_with fail
      refine wp_region_later (by kernel_rfl) (by kernel_rfl) ?_
      repeat (go_big_quiet_step (fail))
      refine wpQuiet_nil ?_
      rintro w5 ⟨⟨_, hb7⟩, rfl⟩
      go_wp2_with fail
      go_roundw
      case rel => exact ⟨k + 1, z + 1, by omega, by have := HZ.out; omega, by go_num, behind hbr hb7⟩
      case measure => simp [intOf]; omega
    · go_wp2_with fail
      go_ret
      exact ⟨rfl, behind hb hbr⟩

end Go.Proofs.YtpncedpfoakfkaaGreatDoor
