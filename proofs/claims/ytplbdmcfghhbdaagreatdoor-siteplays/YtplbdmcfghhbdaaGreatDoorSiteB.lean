/-
  What the document's own Covers does, as the model runs it (package copseref).
  What Covers of package vector does, as the model runs it.
  What wire.isSite, isData and RightWrites do, as the model runs them.
-/
import Derived.Test.YtplbdmcfghhbdaaGreatDoorChecked
import Derived.Test.YtplbdmcfghhbdaaGreatDoorSiteA
import Derived.WalkKit
import Derived.WalkSpells
import Derived.WalkLawsBesides
import Derived.LoopN
namespace Go.Proofs.YtplbdmcfghhbdaaGreatDoor
open Go.RowKit

set_option maxHeartbeats 1000000 in
theorem refCovers_any (a0 a1 a2 a3 b0 b1 b2 b3 : Int) (w : World) :
    Calls Tryz.prog 49 #[.agg #[.int .i64 a0, .int .i64 a1, .int .i64 a2, .int .i64 a3], .agg #[.int .i64 b0, .int .i64 b1, .int .i64 b2, .int .i64 b3]] w fun e w' => e = .returned (.bool (covB a0 a1 a2 a3 b0 b1 b2 b3)) ∧ Below w.heap.size w w' := by
  by_cases h0 : a0 < b0
  · have e : covB a0 a1 a2 a3 b0 b1 b2 b3 = false := by simp [covB]; omega
    rw [e]
    clear e
    go_enter Tryz.func49, Tryz.ntmps49
    go_wp2
    refine wp_loop_rounds 5 ?_
    rw [rounds_succ]
    go_wp2
    go_quiet (fail)
    go_wp2
    go_ret
    exact ⟨rfl, by repeat (first | exact Below.refl _ _ | apply below_drawn | apply boxed)⟩
  by_cases h1 : a1 < b1
  · have e : covB a0 a1 a2 a3 b0 b1 b2 b3 = false := by simp [covB]; omega
    rw [e]
    clear e
    go_enter Tryz.func49, Tryz.ntmps49
    go_wp2
    refine wp_loop_rounds 5 ?_
    rw [rounds_succ]
    go_wp2
    go_quiet (fail)
    go_wp2
    rw [rounds_succ]
    go_wp2
    go_quiet (fail)
    go_wp2
    go_ret
    exact ⟨rfl, by repeat (first | exact Below.refl _ _ | apply below_drawn | apply boxed)⟩
  by_cases h2 : a2 < b2
  · have e : covB a0 a1 a2 a3 b0 b1 b2 b3 = false := by simp [covB]; omega
    rw [e]
    clear e
    go_enter Tryz.func49, Tryz.ntmps49
    go_wp2
    refine wp_loop_rounds 5 ?_
    rw [rounds_succ]
    go_wp2
    go_quiet (fail)
    go_wp2
    rw [rounds_succ]
    go_wp2
    go_quiet (fail)
    go_wp2
    rw [rounds_succ]
    go_wp2
    go_quiet (fail)
    go_wp2
    go_ret
    exact ⟨rfl, by repeat (first | exact Below.refl _ _ | apply below_drawn | apply boxed)⟩
  by_cases h3 : a3 < b3
  · have e : covB a0 a1 a2 a3 b0 b1 b2 b3 = false := by simp [covB]; omega
    rw [e]
    clear e
    go_enter Tryz.func49, Tryz.ntmps49
    go_wp2
    refine wp_loop_rounds 5 ?_
    rw [rounds_succ]
    go_wp2
    go_quiet (fail)
    go_wp2
    rw [rounds_succ]
    go_wp2
    go_quiet (fail)
    go_wp2
    rw [rounds_succ]
    go_wp2
    go_quiet (fail)
    go_wp2
    rw [rounds_succ]
    go_wp2
    go_quiet (fail)
    go_wp2
    go_ret
    exact ⟨rfl, by repeat (first | exact Below.refl _ _ | apply below_drawn | apply boxed)⟩
  have e : covB a0 a1 a2 a3 b0 b1 b2 b3 = true := by simp [covB]; omega
  rw [e]
  clear e
  go_enter Tryz.func49, Tryz.ntmps49
  go_wp2
  refine wp_loop_rounds 5 ?_
  rw [rounds_succ]
  go_wp2
  go_quiet (fail)
  go_wp2
  rw [rounds_succ]
  go_wp2
  go_quiet (fail)
  go_wp2
  rw [rounds_succ]
  go_wp2
  go_quiet (fail)
  go_wp2
  rw [rounds_succ]
  go_wp2
  go_quiet (fail)
  go_wp2
  rw [rounds_succ]
  go_wp2
  go_ret
  exact ⟨rfl, by repeat (first | exact Below.refl _ _ | apply below_drawn | apply boxed)⟩

end Go.Proofs.YtplbdmcfghhbdaaGreatDoor

namespace Go.Proofs.YtplbdmcfghhbdaaGreatDoor
open Go.RowKit

set_option maxHeartbeats 1000000 in
theorem covers_any (a0 a1 a2 a3 b0 b1 b2 b3 : Int) (w : World) :
    Calls Tryz.prog 54 #[.agg #[.int .i64 a0, .int .i64 a1, .int .i64 a2, .int .i64 a3], .agg #[.int .i64 b0, .int .i64 b1, .int .i64 b2, .int .i64 b3]] w fun e w' => e = .returned (.bool (covB a0 a1 a2 a3 b0 b1 b2 b3)) ∧ Below w.heap.size w w' := by
  by_cases h0 : a0 < b0
  · have e : covB a0 a1 a2 a3 b0 b1 b2 b3 = false := by simp [covB]; omega
    rw [e]
    clear e
    go_enter Tryz.func54, Tryz.ntmps54
    go_wp2
    refine wp_loop_rounds 5 ?_
    rw [rounds_succ]
    go_wp2
    go_quiet (fail)
    go_wp2
    go_ret
    exact ⟨rfl, by repeat (first | exact Below.refl _ _ | apply below_drawn | apply boxed)⟩
  by_cases h1 : a1 < b1
  · have e : covB a0 a1 a2 a3 b0 b1 b2 b3 = false := by simp [covB]; omega
    rw [e]
    clear e
    go_enter Tryz.func54, Tryz.ntmps54
    go_wp2
    refine wp_loop_rounds 5 ?_
    rw [rounds_succ]
    go_wp2
    go_quiet (fail)
    go_wp2
    rw [rounds_succ]
    go_wp2
    go_quiet (fail)
    go_wp2
    go_ret
    exact ⟨rfl, by repeat (first | exact Below.refl _ _ | apply below_drawn | apply boxed)⟩
  by_cases h2 : a2 < b2
  · have e : covB a0 a1 a2 a3 b0 b1 b2 b3 = false := by simp [covB]; omega
    rw [e]
    clear e
    go_enter Tryz.func54, Tryz.ntmps54
    go_wp2
    refine wp_loop_rounds 5 ?_
    rw [rounds_succ]
    go_wp2
    go_quiet (fail)
    go_wp2
    rw [rounds_succ]
    go_wp2
    go_quiet (fail)
    go_wp2
    rw [rounds_succ]
    go_wp2
    go_quiet (fail)
    go_wp2
    go_ret
    exact ⟨rfl, by repeat (first | exact Below.refl _ _ | apply below_drawn | apply boxed)⟩
  by_cases h3 : a3 < b3
  · have e : covB a0 a1 a2 a3 b0 b1 b2 b3 = false := by simp [covB]; omega
    rw [e]
    clear e
    go_enter Tryz.func54, Tryz.ntmps54
    go_wp2
    refine wp_loop_rounds 5 ?_
    rw [rounds_succ]
    go_wp2
    go_quiet (fail)
    go_wp2
    rw [rounds_succ]
    go_wp2
    go_quiet (fail)
    go_wp2
    rw [rounds_succ]
    go_wp2
    go_quiet (fail)
    go_wp2
    rw [rounds_succ]
    go_wp2
    go_quiet (fail)
    go_wp2
    go_ret
    exact ⟨rfl, by repeat (first | exact Below.refl _ _ | apply below_drawn | apply boxed)⟩
  have e : covB a0 a1 a2 a3 b0 b1 b2 b3 = true := by simp [covB]; omega
  rw [e]
  clear e
  go_enter Tryz.func54, Tryz.ntmps54
  go_wp2
  refine wp_loop_rounds 5 ?_
  rw [rounds_succ]
  go_wp2
  go_quiet (fail)
  go_wp2
  rw [rounds_succ]
  go_wp2
  go_quiet (fail)
  go_wp2
  rw [rounds_succ]
  go_wp2
  go_quiet (fail)
  go_wp2
  rw [rounds_succ]
  go_wp2
  go_quiet (fail)
  go_wp2
  rw [rounds_succ]
  go_wp2
  go_ret
  exact ⟨rfl, by repeat (first | exact Below.refl _ _ | apply below_drawn | apply boxed)⟩

/-- the same, where the answer is known -/
theorem covers_is {a0 a1 a2 a3 b0 b1 b2 b3 : Int} {v : Bool} (h : covB a0 a1 a2 a3 b0 b1 b2 b3 = v) (w : World) :
    Calls Tryz.prog 54 #[.agg #[.int .i64 a0, .int .i64 a1, .int .i64 a2, .int .i64 a3], .agg #[.int .i64 b0, .int .i64 b1, .int .i64 b2, .int .i64 b3]] w fun e w' => e = .returned (.bool v) ∧ Below w.heap.size w w' := by
  subst h
  exact covers_any _ _ _ _ _ _ _ _ w

end Go.Proofs.YtplbdmcfghhbdaaGreatDoor

namespace Go.Proofs.YtplbdmcfghhbdaaGreatDoor
open Go.RowKit

set_option maxHeartbeats 400000 in
theorem isSite_is {n : Int} {v : Bool} (h : inB n 0 3 = v) (w : World) :
    Calls Tryz.prog 90 #[.int .i64 n] w fun e w' => e = .returned (.bool v) ∧ Below w.heap.size w w' := by
  subst h
  by_cases h0 : 0 ≤ n
  · by_cases h1 : n < 4
    · have e : Hid (inB n 0 3 = true) := by show inB n 0 3 = true; rw [inB_iff]; omega
      go_enter Tryz.func90, Tryz.ntmps90
      go_wp2
      go_ret
      exact ⟨by rw [e.out]; rfl, Below.refl _ _⟩
    · have e : Hid (inB n 0 3 = false) := by show inB n 0 3 = false; simp [inB]; omega
      go_enter Tryz.func90, Tryz.ntmps90
      go_wp2
      go_ret
      exact ⟨by rw [e.out]; rfl, Below.refl _ _⟩
  · have e : Hid (inB n 0 3 = false) := by show inB n 0 3 = false; simp [inB, h0]
    go_enter Tryz.func90, Tryz.ntmps90
    go_wp2
    go_ret
    exact ⟨by rw [e.out]; rfl, Below.refl _ _⟩

/-- data that may be -/
def dataB (data : ByteArray) (gone : Bool) : Bool := if gone then data.toList.isEmpty else decide ((data.size : Int) ≤ 12)

set_option maxHeartbeats 1000000 in
theorem isData_is {key : Int} {data : ByteArray} {gone v : Bool} (h : dataB data gone = v) (w : World) :
    Calls Tryz.prog 84 #[.agg #[.int .i64 key, .string data, .bool gone]] w fun e w' => e = .returned (.bool v) ∧ Below w.heap.size w w' := by
  subst h
  cases gone
  · by_cases h1 : (data.size : Int) ≤ 12
    · have e : Hid (dataB data false = true) := decide_eq_true h1
      go_enter Tryz.func84, Tryz.ntmps84
      go_wp2
      go_ret
      exact ⟨by rw [e.out]; rfl, boxed (Below.refl _ _) _⟩
    · have e : Hid (dataB data false = false) := decide_eq_false h1
      go_enter Tryz.func84, Tryz.ntmps84
      go_wp2
      go_ret
      exact ⟨by rw [e.out]; rfl, boxed (Below.refl _ _) _⟩
  · cases he : data.toList.isEmpty
    · have e : Hid (dataB data true = false) := he
      go_enter Tryz.func84, Tryz.ntmps84
      go_wp2
      go_ret
      exact ⟨by rw [e.out]; rfl, boxed (Below.refl _ _) _⟩
    · have e : Hid (dataB data true = true) := he
      go_enter Tryz.func84, Tryz.ntmps84
      go_wp2
      go_ret
      exact ⟨by rw [e.out]; rfl, boxed (Below.refl _ _) _⟩

/-- the key ahead, or -1 -/
def lastK (l : List Wr) (k : Nat) : Int := if k = 0 then -1 else (wrAt l (k - 1)).key

theorem toList_empty {data : ByteArray} (h : data.toList.isEmpty = true) : data.size = 0 := by
  have loop : ∀ (n i : Nat) (r : List UInt8), data.size - i = n → (ByteArray.toList.loop data i r).length = r.length + n := by
    intro n
    induction n with
    | zero =>
      intro i r hn
      unfold ByteArray.toList.loop
      rw [if_neg (by omega)]
      simp
    | succ n ih =>
      intro i r hn
      unfold ByteArray.toList.loop
      rw [if_pos (by omega), ih _ _ (by omega)]
      simp
      omega
  have := loop data.size 0 [] (by omega)
  have e : data.toList = [] := List.isEmpty_iff.1 h
  rw [show ByteArray.toList.loop data 0 [] = data.toList from rfl, e] at this
  simpa using this.symm

theorem okd_last {l : List Wr} {k : Nat} {key : Int} {data : ByteArray} {gone : Bool} (hx : wrAt l k = ⟨key, data, gone⟩) (h : key ≤ lastK l k) : okAt l k = false := by
  rw [okAt_eq hx]
  unfold lastK at h
  split at h
  · exact okv_key (by simp [inB]; omega)
  · exact okv_prev (by omega) h
theorem okd_eight {l : List Wr} {k : Nat} {key : Int} {data : ByteArray} {gone : Bool} (hx : wrAt l k = ⟨key, data, gone⟩) (h : 8 ≤ key) : okAt l k = false := by
  rw [okAt_eq hx]
  exact okv_key (by simp [inB]; omega)
theorem okd_data {l : List Wr} {k : Nat} {key : Int} {data : ByteArray} {gone : Bool} (hx : wrAt l k = ⟨key, data, gone⟩) (h : dataB data gone = false) : okAt l k = false := by
  rw [okAt_eq hx]
  cases gone
  · exact okv_len (by have := of_decide_eq_false (show decide ((data.size : Int) ≤ 12) = false from h); omega)
  · exact okv_gone rfl h
theorem okd_good {l : List Wr} {k : Nat} {key : Int} {data : ByteArray} {gone : Bool} (hx : wrAt l k = ⟨key, data, gone⟩) (ha : ∀ j, j < k → okAt l j = true) (h0 : ¬ key ≤ lastK l k) (h1 : ¬ 8 ≤ key) (h : dataB data gone = true) : okAt l k = true := by
  rw [okAt_eq hx]
  have hd : ¬ 12 < (data.size : Int) ∧ (gone = false ∨ data.toList.isEmpty = true) := by
    cases gone
    · exact ⟨by have := of_decide_eq_true (show decide ((data.size : Int) ≤ 12) = true from h); omega, .inl rfl⟩
    · have := toList_empty h
      exact ⟨by omega, .inr h⟩
  unfold lastK at h0
  split at h0
  · exact okv_good (by rw [inB_iff]; omega) (.inl (by assumption)) hd.1 hd.2
  · have := okAt_key (ha (k - 1) (by omega))
    exact okv_good (by rw [inB_iff]; omega) (.inr h0) hd.1 hd.2

set_option maxHeartbeats 4000000 in
theorem rightW_cells (b off cap : Nat) (l : List Wr) (w : World) (hc : WrCells w b off l) (h1 : ¬ (l.length : Int) < 1) (h5 : ¬ 5 < (l.length : Int)) :
    Calls Tryz.prog 52 #[.slice (some ⟨b, off, none⟩) l.length cap] w fun e w' => e = .returned (.bool (okWs l)) ∧ Below w.heap.size w w' := by
  go_enter Tryz.func52, Tryz.ntmps52
  go_wp2_with fail
  go_loopw [3, 16] (fun p i wr => ∃ (k : Nat) (z : Int), k ≤ l.length ∧ z = k ∧ i = .int .i64 z ∧ p = .int .i64 (lastK l k) ∧ (∀ j, j < k → okAt l j = true) ∧ Below w.heap.size w wr ∧ WrCells wr b off l) (fun _ i _ => l.length - (intOf i).toNat)
  case atStart => exact ⟨0, 0, by omega, rfl, rfl, rfl, fun j hj => by omega, Below.refl _ _, hc⟩
  case round =>
    obtain ⟨k, z, hk, hz, rfl, rfl, HA0, hb, C⟩ := hrel
    have HA : Hid (∀ j, j < k → okAt l j = true) := HA0
    clear HA0
    obtain ⟨p, hp⟩ : ∃ p, lastK l k = p := ⟨_, rfl⟩
    rw [hp]
    have HP : Hid (lastK l k = p) := hp
    clear hp
    by_cases hlt : k < l.length
    · obtain ⟨x0, x1, x2⟩ := C k hlt
      have h1 : z < (l.length : Int) := by omega
      have h2 : z.toNat = k := by omega
      have h3 : 0 ≤ z := by omega
      have HZ : Hid (z = k) := hz
      clear hz
      obtain ⟨⟨key, data, gone⟩, hx⟩ : ∃ x, wrAt l k = x := ⟨_, rfl⟩
      rw [hx] at x0 x1 x2
      have HX : Hid (wrAt l k = ⟨key, data, gone⟩) := hx
      clear hx
      simp only at x0 x1 x2
      have hb4 := boxed hb (.cells #[.int .i64 key, .string data, .bool gone] 83)
      have C4 := C.later (boxed (Below.refl _ wr) (.cells #[.int .i64 key, .string data, .bool gone] 83))
      by_cases h6 : key ≤ p
      · have bad : Hid (okWs l = false) := okWs_bad hlt (okd_last HX.out (by rw [HP.out]; exact h6))
        go_wp2_with fail
        go_ret
        exact ⟨by rw [bad.out]; rfl, hb4⟩
      · by_cases h7 : 8 ≤ key
        · have bad : Hid (okWs l = false) := okWs_bad hlt (okd_eight HX.out h7)
          go_wp2_with fail
          go_ret
          exact ⟨by rw [bad.out]; rfl, hb4⟩
        · cases h8 : dataB data gone
          · have bad : Hid (okWs l = false) := okWs_bad hlt (okd_data HX.out h8)
            have H8 : Hid (dataB data gone = false) := h8
            clear h8
            go_wp2_with (go_at_call 84; refine (isData_is H8.out _).mono ?_; rintro e w5 ⟨rfl, hb5⟩)
            go_ret
            exact ⟨by rw [bad.out]; rfl, behind hb4 hb5⟩
          · have good : Hid (okAt l k = true) := okd_good HX.out HA.out (by rw [HP.out]; exact h6) h7 h8
            have H8 : Hid (dataB data gone = true) := h8
            clear h8
            have y0 : (wr.alloc (.cells #[.int .i64 key, .string data, .bool gone] 83)).cell? ⟨wr.heap.size, 0, none⟩ = some (.int .i64 key) := by go_simp
            go_wp2_with (go_at_call 84; refine (isData_is H8.out _).mono ?_; rintro e w5 ⟨rfl, hb5⟩; replace y0 := cell_later hb5 y0)
            go_roundw
            case rel => exact ⟨k + 1, z + 1, by omega, by have := HZ.out; omega, by go_num, by show _ = Value.int .i64 (wrAt l (k + 1 - 1)).key; rw [Nat.add_sub_cancel, HX.out], ok_next HA.out good.out, behind hb4 hb5, C4.later hb5⟩
            case measure => simp [intOf]; omega
    · have e : Hid (okWs l = true) := by
        show okWs l = true
        rw [okWs_all (fun j hj => HA.out j (by omega)), inB_iff]
        omega
      go_wp2
      go_ret
      exact ⟨by rw [e.out]; rfl, hb⟩

set_option maxHeartbeats 1000000 in
/-- whether writes may be, wherever they lie -/
theorem rightW_any {a : Option Addr} {cap : Nat} {l : List Wr} {w : World} (h : WrIn w a cap l) :
    Calls Tryz.prog 52 #[.slice a l.length cap] w fun e w' => e = .returned (.bool (okWs l)) ∧ Below w.heap.size w w' := by
  by_cases h1 : (l.length : Int) < 1
  · have e : Hid (okWs l = false) := by
      show okWs l = false
      have : inB l.length 1 5 = false := by simp [inB]; omega
      simp [okWs, this]
    go_enter Tryz.func52, Tryz.ntmps52
    go_wp2
    go_ret
    exact ⟨by rw [e.out]; rfl, Below.refl _ _⟩
  · by_cases h5 : 5 < (l.length : Int)
    · have e : Hid (okWs l = false) := by
        show okWs l = false
        have : inB l.length 1 5 = false := by simp [inB]; omega
        simp [okWs, this]
      go_enter Tryz.func52, Tryz.ntmps52
      go_wp2
      go_ret
      exact ⟨by rw [e.out]; rfl, Below.refl _ _⟩
    · rcases h.held with rfl | ⟨b, off, rfl, hc⟩
      · simp at h1
      · exact rightW_cells b off cap l w hc h1 h5

end Go.Proofs.YtplbdmcfghhbdaaGreatDoor
