/-
  What wire.isSite, isData and RightWrites do, as the model runs them.
  What Right of package vector does, as the model runs it.
  What wire.RightTx does, as the model runs it.
  What '==' says of two vectors (an array of four ints), as the model runs it.
-/
import Derived.Test.YtknejedgddlabaaDoorChecked
import Derived.Test.YtknejedgddlabaaDoorSiteA
import Derived.WalkSpells
import Derived.WalkLawsBesides
import Derived.LoopN
import Derived.WalkKit
import Derived.Laws.StructEq
namespace Go.Proofs.YtknejedgddlabaaDoor
open Go.RowKit

set_option maxHeartbeats 400000 in
theorem isSite_is {n : Int} {v : Bool} (h : inB n 0 3 = v) (w : World) :
    Calls Tryd.prog 61 #[.int .i64 n] w fun e w' => e = .returned (.bool v) ∧ Below w.heap.size w w' := by
  subst h
  by_cases h0 : 0 ≤ n
  · by_cases h1 : n < 4
    · have e : Hid (inB n 0 3 = true) := by show inB n 0 3 = true; rw [inB_iff]; omega
      go_enter Tryd.func61, Tryd.ntmps61
      go_wp2
      go_ret
      exact ⟨by rw [e.out]; rfl, Below.refl _ _⟩
    · have e : Hid (inB n 0 3 = false) := by show inB n 0 3 = false; simp [inB]; omega
      go_enter Tryd.func61, Tryd.ntmps61
      go_wp2
      go_ret
      exact ⟨by rw [e.out]; rfl, Below.refl _ _⟩
  · have e : Hid (inB n 0 3 = false) := by show inB n 0 3 = false; simp [inB, h0]
    go_enter Tryd.func61, Tryd.ntmps61
    go_wp2
    go_ret
    exact ⟨by rw [e.out]; rfl, Below.refl _ _⟩

/-- data that may be -/
def dataB (data : ByteArray) (gone : Bool) : Bool := if gone then data.toList.isEmpty else decide ((data.size : Int) ≤ 12)

set_option maxHeartbeats 1000000 in
theorem isData_is {key : Int} {data : ByteArray} {gone v : Bool} (h : dataB data gone = v) (w : World) :
    Calls Tryd.prog 63 #[.agg #[.int .i64 key, .string data, .bool gone]] w fun e w' => e = .returned (.bool v) ∧ Below w.heap.size w w' := by
  subst h
  cases gone
  · by_cases h1 : (data.size : Int) ≤ 12
    · have e : Hid (dataB data false = true) := decide_eq_true h1
      go_enter Tryd.func63, Tryd.ntmps63
      go_wp2
      go_ret
      exact ⟨by rw [e.out]; rfl, boxed (Below.refl _ _) _⟩
    · have e : Hid (dataB data false = false) := decide_eq_false h1
      go_enter Tryd.func63, Tryd.ntmps63
      go_wp2
      go_ret
      exact ⟨by rw [e.out]; rfl, boxed (Below.refl _ _) _⟩
  · cases he : data.toList.isEmpty
    · have e : Hid (dataB data true = false) := he
      go_enter Tryd.func63, Tryd.ntmps63
      go_wp2
      go_ret
      exact ⟨by rw [e.out]; rfl, boxed (Below.refl _ _) _⟩
    · have e : Hid (dataB data true = true) := he
      go_enter Tryd.func63, Tryd.ntmps63
      go_wp2
      go_ret
      exact ⟨by rw [e.out]; rfl, boxed (Below.refl _ _) _⟩

/-- the key ahead, or -1 -/
def lastK (l : List Wr) (k : Nat) : Int := if k = 0 then -1 else (wrAt l (k - 1)).key

theorem toList_empty {data : ByteArray} (h : data.toList.isEmpty = true) : data.size = 0 := by
  have loop : ∀ (n i : Nat) (r : List UInt8), data.size - i = n → (ByteArray.toList.loop data i r).length = r.length + n := by
    intro n
    induction n with
    | zero =>
      intro i r hn
      unfold ByteArray.toList.loop
      rw [if_neg (by omega)]
      simp
    | succ n ih =>
      intro i r hn
      unfold ByteArray.toList.loop
      rw [if_pos (by omega), ih _ _ (by omega)]
      simp
      omega
  have := loop data.size 0 [] (by omega)
  have e : data.toList = [] := List.isEmpty_iff.1 h
  rw [show ByteArray.toList.loop data 0 [] = data.toList from rfl, e] at this
  simpa using this.symm

theorem okd_last {l : List Wr} {k : Nat} {key : Int} {data : ByteArray} {gone : Bool} (hx : wrAt l k = ⟨key, data, gone⟩) (h : key ≤ lastK l k) : okAt l k = false := by
  rw [okAt_eq hx]
  unfold lastK at h
  split at h
  · exact okv_key (by simp [inB]; omega)
  · exact okv_prev (by omega) h
theorem okd_eight {l : List Wr} {k : Nat} {key : Int} {data : ByteArray} {gone : Bool} (hx : wrAt l k = ⟨key, data, gone⟩) (h : 8 ≤ key) : okAt l k = false := by
  rw [okAt_eq hx]
  exact okv_key (by simp [inB]; omega)
theorem okd_data {l : List Wr} {k : Nat} {key : Int} {data : ByteArray} {gone : Bool} (hx : wrAt l k = ⟨key, data, gone⟩) (h : dataB data gone = false) : okAt l k = false := by
  rw [okAt_eq hx]
  cases gone
  · exact okv_len (by have := of_decide_eq_false (show decide ((data.size : Int) ≤ 12) = false from h); omega)
  · exact okv_gone rfl h
theorem okd_good {l : List Wr} {k : Nat} {key : Int} {data : ByteArray} {gone : Bool} (hx : wrAt l k = ⟨key, data, gone⟩) (ha : ∀ j, j < k → okAt l j = true) (h0 : ¬ key ≤ lastK l k) (h1 : ¬ 8 ≤ key) (h : dataB data gone = true) : okAt l k = true := by
  rw [okAt_eq hx]
  have hd : ¬ 12 < (data.size : Int) ∧ (gone = false ∨ data.toList.isEmpty = true) := by
    cases gone
    · exact ⟨by have := of_decide_eq_true (show decide ((data.size : Int) ≤ 12) = true from h); omega, .inl rfl⟩
    · have := toList_empty h
      exact ⟨by omega, .inr h⟩
  unfold lastK at h0
  split at h0
  · exact okv_good (by rw [inB_iff]; omega) (.inl (by assumption)) hd.1 hd.2
  · have := okAt_key (ha (k - 1) (by omega))
    exact okv_good (by rw [inB_iff]; omega) (.inr h0) hd.1 hd.2

set_option maxHeartbeats 4000000 in
theorem rightW_cells (b off cap : Nat) (l : List Wr) (w : World) (hc : WrCells w b off l) (h1 : ¬ (l.length : Int) < 1) (h5 : ¬ 5 < (l.length : Int)) :
    Calls Tryd.prog 24 #[.slice (some ⟨b, off, none⟩) l.length cap] w fun e w' => e = .returned (.bool (okWs l)) ∧ Below w.heap.size w w' := by
  go_enter Tryd.func24, Tryd.ntmps24
  go_wp2_with fail
  go_loopw [3, 16] (fun p i wr => ∃ (k : Nat) (z : Int), k ≤ l.length ∧ z = k ∧ i = .int .i64 z ∧ p = .int .i64 (lastK l k) ∧ (∀ j, j < k → okAt l j = true) ∧ Below w.heap.size w wr ∧ WrCells wr b off l) (fun _ i _ => l.length - (intOf i).toNat)
  case atStart => exact ⟨0, 0, by omega, rfl, rfl, rfl, fun j hj => by omega, Below.refl _ _, hc⟩
  case round =>
    obtain ⟨k, z, hk, hz, rfl, rfl, HA0, hb, C⟩ := hrel
    have HA : Hid (∀ j, j < k → okAt l j = true) := HA0
    clear HA0
    obtain ⟨p, hp⟩ : ∃ p, lastK l k = p := ⟨_, rfl⟩
    rw [hp]
    have HP : Hid (lastK l k = p) := hp
    clear hp
    by_cases hlt : k < l.length
    · obtain ⟨x0, x1, x2⟩ := C k hlt
      have h1 : z < (l.length : Int) := by omega
      have h2 : z.toNat = k := by omega
      have h3 : 0 ≤ z := by omega
      have HZ : Hid (z = k) := hz
      clear hz
      obtain ⟨⟨key, data, gone⟩, hx⟩ : ∃ x, wrAt l k = x := ⟨_, rfl⟩
      rw [hx] at x0 x1 x2
      have HX : Hid (wrAt l k = ⟨key, data, gone⟩) := hx
      clear hx
      simp only at x0 x1 x2
      have hb4 := boxed hb (.cells #[.int .i64 key, .string data, .bool gone] 115)
      have C4 := C.later (boxed (Below.refl _ wr) (.cells #[.int .i64 key, .string data, .bool gone] 115))
      by_cases h6 : key ≤ p
      · have bad : Hid (okWs l = false) := okWs_bad hlt (okd_last HX.out (by rw [HP.out]; exact h6))
        go_wp2_with fail
        go_ret
        exact ⟨by rw [bad.out]; rfl, hb4⟩
      · by_cases h7 : 8 ≤ key
        · have bad : Hid (okWs l = false) := okWs_bad hlt (okd_eight HX.out h7)
          go_wp2_with fail
          go_ret
          exact ⟨by rw [bad.out]; rfl, hb4⟩
        · cases h8 : dataB data gone
          · have bad : Hid (okWs l = false) := okWs_bad hlt (okd_data HX.out h8)
            have H8 : Hid (dataB data gone = false) := h8
            clear h8
            go_wp2_with (go_at_call 63; refine (isData_is H8.out _).mono ?_; rintro e w5 ⟨rfl, hb5⟩)
            go_ret
            exact ⟨by rw [bad.out]; rfl, behind hb4 hb5⟩
          · have good : Hid (okAt l k = true) := okd_good HX.out HA.out (by rw [HP.out]; exact h6) h7 h8
            have H8 : Hid (dataB data gone = true) := h8
            clear h8
            have y0 : (wr.alloc (.cells #[.int .i64 key, .string data, .bool gone] 115)).cell? ⟨wr.heap.size, 0, none⟩ = some (.int .i64 key) := by go_simp
            go_wp2_with (go_at_call 63; refine (isData_is H8.out _).mono ?_; rintro e w5 ⟨rfl, hb5⟩; replace y0 := cell_later hb5 y0)
            go_roundw
            case rel => exact ⟨k + 1, z + 1, by omega, by have := HZ.out; omega, by go_num, by show _ = Value.int .i64 (wrAt l (k + 1 - 1)).key; rw [Nat.add_sub_cancel, HX.out], ok_next HA.out good.out, behind hb4 hb5, C4.later hb5⟩
            case measure => simp [intOf]; omega
    · have e : Hid (okWs l = true) := by
        show okWs l = true
        rw [okWs_all (fun j hj => HA.out j (by omega)), inB_iff]
        omega
      go_wp2
      go_ret
      exact ⟨by rw [e.out]; rfl, hb⟩

set_option maxHeartbeats 1000000 in
/-- whether writes may be, wherever they lie -/
theorem rightW_any {a : Option Addr} {cap : Nat} {l : List Wr} {w : World} (h : WrIn w a cap l) :
    Calls Tryd.prog 24 #[.slice a l.length cap] w fun e w' => e = .returned (.bool (okWs l)) ∧ Below w.heap.size w w' := by
  by_cases h1 : (l.length : Int) < 1
  · have e : Hid (okWs l = false) := by
      show okWs l = false
      have : inB l.length 1 5 = false := by simp [inB]; omega
      simp [okWs, this]
    go_enter Tryd.func24, Tryd.ntmps24
    go_wp2
    go_ret
    exact ⟨by rw [e.out]; rfl, Below.refl _ _⟩
  · by_cases h5 : 5 < (l.length : Int)
    · have e : Hid (okWs l = false) := by
        show okWs l = false
        have : inB l.length 1 5 = false := by simp [inB]; omega
        simp [okWs, this]
      go_enter Tryd.func24, Tryd.ntmps24
      go_wp2
      go_ret
      exact ⟨by rw [e.out]; rfl, Below.refl _ _⟩
    · rcases h.held with rfl | ⟨b, off, rfl, hc⟩
      · simp at h1
      · exact rightW_cells b off cap l w hc h1 h5

end Go.Proofs.YtknejedgddlabaaDoor

namespace Go.Proofs.YtknejedgddlabaaDoor
open Go.RowKit

set_option maxHeartbeats 1000000 in
theorem rightv_any (a0 a1 a2 a3 : Int) (w : World) :
    Calls Tryd.prog 62 #[.agg #[.int .i64 a0, .int .i64 a1, .int .i64 a2, .int .i64 a3]] w fun e w' => e = .returned (.bool (timesB a0 a1 a2 a3)) ∧ Below w.heap.size w w' := by
  have i0 : ∀ w, (Instr.index 37 (.agg #[.int .i64 a0, .int .i64 a1, .int .i64 a2, .int .i64 a3]) (.int .i64 0)).run Tryd.prog w = .ok (.int .i64 a0) w := fun _ => by kernel_rfl
  have i1 : ∀ w, (Instr.index 37 (.agg #[.int .i64 a0, .int .i64 a1, .int .i64 a2, .int .i64 a3]) (.int .i64 1)).run Tryd.prog w = .ok (.int .i64 a1) w := fun _ => by kernel_rfl
  have i2 : ∀ w, (Instr.index 37 (.agg #[.int .i64 a0, .int .i64 a1, .int .i64 a2, .int .i64 a3]) (.int .i64 2)).run Tryd.prog w = .ok (.int .i64 a2) w := fun _ => by kernel_rfl
  have i3 : ∀ w, (Instr.index 37 (.agg #[.int .i64 a0, .int .i64 a1, .int .i64 a2, .int .i64 a3]) (.int .i64 3)).run Tryd.prog w = .ok (.int .i64 a3) w := fun _ => by kernel_rfl
  by_cases l0 : a0 < 0
  · have e : timesB a0 a1 a2 a3 = false := by simp [timesB, timeB]; omega
    rw [e]
    clear e
    go_enter Tryd.func62, Tryd.ntmps62
    go_wp2
    refine wp_loop_rounds 5 ?_
    rw [rounds_succ]
    go_wp2
    go_ret
    exact ⟨rfl, by repeat (first | exact Below.refl _ _ | apply below_drawn | apply boxed)⟩
  by_cases g0 : 1099511627776 < a0
  · have e : timesB a0 a1 a2 a3 = false := by simp [timesB, timeB]; omega
    rw [e]
    clear e
    go_enter Tryd.func62, Tryd.ntmps62
    go_wp2
    refine wp_loop_rounds 5 ?_
    rw [rounds_succ]
    go_wp2
    go_ret
    exact ⟨rfl, by repeat (first | exact Below.refl _ _ | apply below_drawn | apply boxed)⟩
  by_cases l1 : a1 < 0
  · have e : timesB a0 a1 a2 a3 = false := by simp [timesB, timeB]; omega
    rw [e]
    clear e
    go_enter Tryd.func62, Tryd.ntmps62
    go_wp2
    refine wp_loop_rounds 5 ?_
    rw [rounds_succ]
    go_wp2
    rw [rounds_succ]
    go_wp2
    go_ret
    exact ⟨rfl, by repeat (first | exact Below.refl _ _ | apply below_drawn | apply boxed)⟩
  by_cases g1 : 1099511627776 < a1
  · have e : timesB a0 a1 a2 a3 = false := by simp [timesB, timeB]; omega
    rw [e]
    clear e
    go_enter Tryd.func62, Tryd.ntmps62
    go_wp2
    refine wp_loop_rounds 5 ?_
    rw [rounds_succ]
    go_wp2
    rw [rounds_succ]
    go_wp2
    go_ret
    exact ⟨rfl, by repeat (first | exact Below.refl _ _ | apply below_drawn | apply boxed)⟩
  by_cases l2 : a2 < 0
  · have e : timesB a0 a1 a2 a3 = false := by simp [timesB, timeB]; omega
    rw [e]
    clear e
    go_enter Tryd.func62, Tryd.ntmps62
    go_wp2
    refine wp_loop_rounds 5 ?_
    rw [rounds_succ]
    go_wp2
    rw [rounds_succ]
    go_wp2
    rw [rounds_succ]
    go_wp2
    go_ret
    exact ⟨rfl, by repeat (first | exact Below.refl _ _ | apply below_drawn | apply boxed)⟩
  by_cases g2 : 1099511627776 < a2
  · have e : timesB a0 a1 a2 a3 = false := by simp [timesB, timeB]; omega
    rw [e]
    clear e
    go_enter Tryd.func62, Tryd.ntmps62
    go_wp2
    refine wp_loop_rounds 5 ?_
    rw [rounds_succ]
    go_wp2
    rw [rounds_succ]
    go_wp2
    rw [rounds_succ]
    go_wp2
    go_ret
    exact ⟨rfl, by repeat (first | exact Below.refl _ _ | apply below_drawn | apply boxed)⟩
  by_cases l3 : a3 < 0
  · have e : timesB a0 a1 a2 a3 = false := by simp [timesB, timeB]; omega
    rw [e]
    clear e
    go_enter Tryd.func62, Tryd.ntmps62
    go_wp2
    refine wp_loop_rounds 5 ?_
    rw [rounds_succ]
    go_wp2
    rw [rounds_succ]
    go_wp2
    rw [rounds_succ]
    go_wp2
    rw [rounds_succ]
    go_wp2
    go_ret
    exact ⟨rfl, by repeat (first | exact Below.refl _ _ | apply below_drawn | apply boxed)⟩
  by_cases g3 : 1099511627776 < a3
  · have e : timesB a0 a1 a2 a3 = false := by simp [timesB, timeB]; omega
    rw [e]
    clear e
    go_enter Tryd.func62, Tryd.ntmps62
    go_wp2
    refine wp_loop_rounds 5 ?_
    rw [rounds_succ]
    go_wp2
    rw [rounds_succ]
    go_wp2
    rw [rounds_succ]
    go_wp2
    rw [rounds_succ]
    go_wp2
    go_ret
    exact ⟨rfl, by repeat (first | exact Below.refl _ _ | apply below_drawn | apply boxed)⟩
  have e : timesB a0 a1 a2 a3 = true := by simp [timesB, timeB]; omega
  rw [e]
  clear e
  go_enter Tryd.func62, Tryd.ntmps62
  go_wp2
  refine wp_loop_rounds 5 ?_
  rw [rounds_succ]
  go_wp2
  rw [rounds_succ]
  go_wp2
  rw [rounds_succ]
  go_wp2
  rw [rounds_succ]
  go_wp2
  rw [rounds_succ]
  go_wp2
  go_ret
  exact ⟨rfl, by repeat (first | exact Below.refl _ _ | apply below_drawn | apply boxed)⟩

end Go.Proofs.YtknejedgddlabaaDoor

namespace Go.Proofs.YtknejedgddlabaaDoor
open Go.RowKit

theorem right_is {x c : Int} {v : Bool} (h : (timeB x && timeB c) = v) (w : World) :
    Calls Tryd.prog 13 #[.agg #[.int .i64 x, .int .i64 c]] w fun e w' => e = .returned (.bool v) ∧ Below w.heap.size w w' := by
  subst h
  exact right_any x c w
theorem rightv_is {a0 a1 a2 a3 : Int} {v : Bool} (h : timesB a0 a1 a2 a3 = v) (w : World) :
    Calls Tryd.prog 62 #[.agg #[.int .i64 a0, .int .i64 a1, .int .i64 a2, .int .i64 a3]] w fun e w' => e = .returned (.bool v) ∧ Below w.heap.size w w' := by
  subst h
  exact rightv_any a0 a1 a2 a3 w

set_option maxHeartbeats 4000000 in
theorem rightTx_any (site seq wall count d0 d1 d2 d3 : Int) (a : Option Addr) (cap : Nat) (l : List Wr) (w : World) (hW0 : WrIn w a cap l) :
    Calls Tryd.prog 22 #[.agg #[.int .i64 site, .int .i64 seq, .int .i64 wall, .int .i64 count, .int .i64 d0, .int .i64 d1, .int .i64 d2, .int .i64 d3, .slice a l.length cap]] w fun e w' => e = .returned (.bool (okTx site seq wall count d0 d1 d2 d3 l)) ∧ Below w.heap.size w w' := by
  have hne := Later.one
  have hW := hW0.later (boxed (Below.refl _ w) (.cells #[.int .i64 site, .int .i64 seq, .int .i64 wall, .int .i64 count, .int .i64 d0, .int .i64 d1, .int .i64 d2, .int .i64 d3, .slice a l.length cap] 40))
  clear hW0
  have c0 : (w.alloc (.cells #[.int .i64 site, .int .i64 seq, .int .i64 wall, .int .i64 count, .int .i64 d0, .int .i64 d1, .int .i64 d2, .int .i64 d3, .slice a l.length cap] 40)).cell? ⟨w.heap.size, 0, none⟩ = some (.int .i64 site) := by go_simp
  have c1 : (w.alloc (.cells #[.int .i64 site, .int .i64 seq, .int .i64 wall, .int .i64 count, .int .i64 d0, .int .i64 d1, .int .i64 d2, .int .i64 d3, .slice a l.length cap] 40)).cell? ⟨w.heap.size, 1, none⟩ = some (.int .i64 seq) := by go_simp
  have c2 : (w.alloc (.cells #[.int .i64 site, .int .i64 seq, .int .i64 wall, .int .i64 count, .int .i64 d0, .int .i64 d1, .int .i64 d2, .int .i64 d3, .slice a l.length cap] 40)).cell? ⟨w.heap.size, 2, none⟩ = some (.int .i64 wall) := by go_simp
  have c3 : (w.alloc (.cells #[.int .i64 site, .int .i64 seq, .int .i64 wall, .int .i64 count, .int .i64 d0, .int .i64 d1, .int .i64 d2, .int .i64 d3, .slice a l.length cap] 40)).cell? ⟨w.heap.size, 3, none⟩ = some (.int .i64 count) := by go_simp
  have c4 : (w.alloc (.cells #[.int .i64 site, .int .i64 seq, .int .i64 wall, .int .i64 count, .int .i64 d0, .int .i64 d1, .int .i64 d2, .int .i64 d3, .slice a l.length cap] 40)).cell? ⟨w.heap.size, 4, none⟩ = some (.int .i64 d0) := by go_simp
  have c5 : (w.alloc (.cells #[.int .i64 site, .int .i64 seq, .int .i64 wall, .int .i64 count, .int .i64 d0, .int .i64 d1, .int .i64 d2, .int .i64 d3, .slice a l.length cap] 40)).cell? ⟨w.heap.size, 5, none⟩ = some (.int .i64 d1) := by go_simp
  have c6 : (w.alloc (.cells #[.int .i64 site, .int .i64 seq, .int .i64 wall, .int .i64 count, .int .i64 d0, .int .i64 d1, .int .i64 d2, .int .i64 d3, .slice a l.length cap] 40)).cell? ⟨w.heap.size, 6, none⟩ = some (.int .i64 d2) := by go_simp
  have c7 : (w.alloc (.cells #[.int .i64 site, .int .i64 seq, .int .i64 wall, .int .i64 count, .int .i64 d0, .int .i64 d1, .int .i64 d2, .int .i64 d3, .slice a l.length cap] 40)).cell? ⟨w.heap.size, 7, none⟩ = some (.int .i64 d3) := by go_simp
  have c8 : (w.alloc (.cells #[.int .i64 site, .int .i64 seq, .int .i64 wall, .int .i64 count, .int .i64 d0, .int .i64 d1, .int .i64 d2, .int .i64 d3, .slice a l.length cap] 40)).cell? ⟨w.heap.size, 8, none⟩ = some (.slice a l.length cap) := by go_simp
  cases p1 : inB site 0 3
  · have e : Hid (okTx site seq wall count d0 d1 d2 d3 l = false) := by show okTx site seq wall count d0 d1 d2 d3 l = false; simp only [okTx, p1, Bool.false_and]
    have P1 : Hid (inB site 0 3 = false) := p1
    clear p1
    go_enter Tryd.func22, Tryd.ntmps22
    go_wp2_with (go_at_call 61; refine (isSite_is P1.out _).mono ?_; rintro e w1 ⟨rfl, hb1⟩; replace c0 := cell_later hb1 c0; replace c1 := cell_later hb1 c1; replace c2 := cell_later hb1 c2; replace c3 := cell_later hb1 c3; replace c4 := cell_later hb1 c4; replace c5 := cell_later hb1 c5; replace c6 := cell_later hb1 c6; replace c7 := cell_later hb1 c7; replace c8 := cell_later hb1 c8; replace hW := hW.later hb1)
    go_ret
    exact ⟨by rw [e.out]; rfl, behind (boxed (Below.refl _ _) _) hb1⟩
  · have P1 : Hid (inB site 0 3 = true) := p1
    by_cases s1 : seq < 1
    · have e : Hid (okTx site seq wall count d0 d1 d2 d3 l = false) := by
        have p2 : inB seq 1 1099511627776 = false := by simp [inB]; omega
        show okTx site seq wall count d0 d1 d2 d3 l = false; simp only [okTx, p2, Bool.and_false, Bool.false_and]
      clear p1
      go_enter Tryd.func22, Tryd.ntmps22
      go_wp2_with (go_at_call 61; refine (isSite_is P1.out _).mono ?_; rintro e w1 ⟨rfl, hb1⟩; replace c0 := cell_later hb1 c0; replace c1 := cell_later hb1 c1; replace c2 := cell_later hb1 c2; replace c3 := cell_later hb1 c3; replace c4 := cell_later hb1 c4; replace c5 := cell_later hb1 c5; replace c6 := cell_later hb1 c6; replace c7 := cell_later hb1 c7; replace c8 := cell_later hb1 c8; replace hW := hW.later hb1)
      go_ret
      exact ⟨by rw [e.out]; rfl, behind (boxed (Below.refl _ _) _) hb1⟩
    · by_cases s2 : 1099511627776 < seq
      · have e : Hid (okTx site seq wall count d0 d1 d2 d3 l = false) := by
          have p2 : inB seq 1 1099511627776 = false := by simp [inB]; omega
          show okTx site seq wall count d0 d1 d2 d3 l = false; simp only [okTx, p2, Bool.and_false, Bool.false_and]
        clear p1
        go_enter Tryd.func22, Tryd.ntmps22
        go_wp2_with (go_at_call 61; refine (isSite_is P1.out _).mono ?_; rintro e w1 ⟨rfl, hb1⟩; replace c0 := cell_later hb1 c0; replace c1 := cell_later hb1 c1; replace c2 := cell_later hb1 c2; replace c3 := cell_later hb1 c3; replace c4 := cell_later hb1 c4; replace c5 := cell_later hb1 c5; replace c6 := cell_later hb1 c6; replace c7 := cell_later hb1 c7; replace c8 := cell_later hb1 c8; replace hW := hW.later hb1)
        go_ret
        exact ⟨by rw [e.out]; rfl, behind (boxed (Below.refl _ _) _) hb1⟩
      · have p2 : inB seq 1 1099511627776 = true := by rw [inB_iff]; omega
        have P2 : Hid (inB seq 1 1099511627776 = true) := p2
        clear p2
        clear p1
        go_enter Tryd.func22, Tryd.ntmps22
        go_wp2_with (go_at_call 61; refine (isSite_is P1.out _).mono ?_; rintro e w1 ⟨rfl, hb1⟩; replace c0 := cell_later hb1 c0; replace c1 := cell_later hb1 c1; replace c2 := cell_later hb1 c2; replace c3 := cell_later hb1 c3; replace c4 := cell_later hb1 c4; replace c5 := cell_later hb1 c5; replace c6 := cell_later hb1 c6; replace c7 := cell_later hb1 c7; replace c8 := cell_later hb1 c8; replace hW := hW.later hb1)
        have hb := behind (boxed (Below.refl _ _) _) hb1
        clear hb1
        replace c0 := Later.cell c0
        replace c1 := Later.cell c1
        replace c2 := Later.cell c2
        replace c3 := Later.cell c3
        replace c4 := Later.cell c4
        replace c5 := Later.cell c5
        replace c6 := Later.cell c6
        replace c7 := Later.cell c7
        replace c8 := Later.cell c8
        cases p3 : (timeB wall && timeB count)
        · have e : Hid (okTx site seq wall count d0 d1 d2 d3 l = false) := by show okTx site seq wall count d0 d1 d2 d3 l = false; simp only [okTx, p3, Bool.and_false, Bool.false_and]
          refine wp_region_later (by kernel_rfl) (by kernel_rfl) ?_
          repeat (go_big_quiet_step (first | (go_at_call 13; with_reducible exact calls_later (right_is p3 _)) | (go_at_call 62; with_reducible exact calls_later (rightv_is p4 _)) | (go_at_call 24; exact calls_later (rightW_any (WrIn.later (Later.below _) hW)))))
          refine wpQuiet_nil ?_
          rintro w5 ⟨⟨_, hb7⟩, rfl⟩
          go_wp2
          go_ret
          exact ⟨by rw [e.out]; rfl, behind hb hb7⟩
        · cases p4 : timesB d0 d1 d2 d3
          · have e : Hid (okTx site seq wall count d0 d1 d2 d3 l = false) := by show okTx site seq wall count d0 d1 d2 d3 l = false; simp only [okTx, p4, Bool.and_false, Bool.false_and]
            refine wp_region_later (by kernel_rfl) (by kernel_rfl) ?_
            repeat (go_big_quiet_step (first | (go_at_call 13; with_reducible exact calls_later (right_is p3 _)) | (go_at_call 62; with_reducible exact calls_later (rightv_is p4 _)) | (go_at_call 24; exact calls_later (rightW_any (WrIn.later (Later.below _) hW)))))
            refine wpQuiet_nil ?_
            rintro w5 ⟨⟨_, hb7⟩, rfl⟩
            go_wp2
            go_ret
            exact ⟨by rw [e.out]; rfl, behind hb hb7⟩
          · have hs := inB_iff.1 P1.out
            have hs' : site = 0 ∨ site = 1 ∨ site = 2 ∨ site = 3 := by omega
            clear hs
            rcases hs' with rfl | rfl | rfl | rfl
            · by_cases h5 : d0 = seq - 1
              · have e5 : (d0 == seq - 1) = true := by simp [h5]
                have e : Hid (okTx 0 seq wall count d0 d1 d2 d3 l = okWs l) := by show okTx 0 seq wall count d0 d1 d2 d3 l = okWs l; simp only [okTx, P1.out, P2.out, p3, p4, Bool.and_true, Bool.true_and, depOf]; simp [h5]
                clear h5
                refine wp_region_later (by kernel_rfl) (by kernel_rfl) ?_
                repeat (go_big_quiet_step (first | (go_at_call 13; with_reducible exact calls_later (right_is p3 _)) | (go_at_call 62; with_reducible exact calls_later (rightv_is p4 _)) | (go_at_call 24; exact calls_later (rightW_any (WrIn.later (Later.below _) hW)))))
                refine wpQuiet_nil ?_
                rintro w5 ⟨⟨_, hb7⟩, rfl⟩
                go_wp2
                go_ret
                exact ⟨by rw [e.out]; rfl, behind hb hb7⟩
              · have e5 : (d0 == seq - 1) = false := by simp [h5]
                have e : Hid (okTx 0 seq wall count d0 d1 d2 d3 l = false) := by show okTx 0 seq wall count d0 d1 d2 d3 l = false; simp only [okTx, P1.out, P2.out, p3, p4, Bool.and_true, Bool.true_and, depOf]; simp [h5]
                clear h5
                refine wp_region_later (by kernel_rfl) (by kernel_rfl) ?_
                repeat (go_big_quiet_step (first | (go_at_call 13; with_reducible exact calls_later (right_is p3 _)) | (go_at_call 62; with_reducible exact calls_later (rightv_is p4 _)) | (go_at_call 24; exact calls_later (rightW_any (WrIn.later (Later.below _) hW)))))
                refine wpQuiet_nil ?_
                rintro w5 ⟨⟨_, hb7⟩, rfl⟩
                go_wp2
                go_ret
                exact ⟨by rw [e.out]; rfl, behind hb hb7⟩
            · by_cases h5 : d1 = seq - 1
              · have e5 : (d1 == seq - 1) = true := by simp [h5]
                have e : Hid (okTx 1 seq wall count d0 d1 d2 d3 l = okWs l) := by show okTx 1 seq wall count d0 d1 d2 d3 l = okWs l; simp only [okTx, P1.out, P2.out, p3, p4, Bool.and_true, Bool.true_and, depOf]; simp [h5]
                clear h5
                refine wp_region_later (by kernel_rfl) (by kernel_rfl) ?_
                repeat (go_big_quiet_step (first | (go_at_call 13; with_reducible exact calls_later (right_is p3 _)) | (go_at_call 62; with_reducible exact calls_later (rightv_is p4 _)) | (go_at_call 24; exact calls_later (rightW_any (WrIn.later (Later.below _) hW)))))
                refine wpQuiet_nil ?_
                rintro w5 ⟨⟨_, hb7⟩, rfl⟩
                go_wp2
                go_ret
                exact ⟨by rw [e.out]; rfl, behind hb hb7⟩
              · have e5 : (d1 == seq - 1) = false := by simp [h5]
                have e : Hid (okTx 1 seq wall count d0 d1 d2 d3 l = false) := by show okTx 1 seq wall count d0 d1 d2 d3 l = false; simp only [okTx, P1.out, P2.out, p3, p4, Bool.and_true, Bool.true_and, depOf]; simp [h5]
                clear h5
                refine wp_region_later (by kernel_rfl) (by kernel_rfl) ?_
                repeat (go_big_quiet_step (first | (go_at_call 13; with_reducible exact calls_later (right_is p3 _)) | (go_at_call 62; with_reducible exact calls_later (rightv_is p4 _)) | (go_at_call 24; exact calls_later (rightW_any (WrIn.later (Later.below _) hW)))))
                refine wpQuiet_nil ?_
                rintro w5 ⟨⟨_, hb7⟩, rfl⟩
                go_wp2
                go_ret
                exact ⟨by rw [e.out]; rfl, behind hb hb7⟩
            · by_cases h5 : d2 = seq - 1
              · have e5 : (d2 == seq - 1) = true := by simp [h5]
                have e : Hid (okTx 2 seq wall count d0 d1 d2 d3 l = okWs l) := by show okTx 2 seq wall count d0 d1 d2 d3 l = okWs l; simp only [okTx, P1.out, P2.out, p3, p4, Bool.and_true, Bool.true_and, depOf]; simp [h5]
                clear h5
                refine wp_region_later (by kernel_rfl) (by kernel_rfl) ?_
                repeat (go_big_quiet_step (first | (go_at_call 13; with_reducible exact calls_later (right_is p3 _)) | (go_at_call 62; with_reducible exact calls_later (rightv_is p4 _)) | (go_at_call 24; exact calls_later (rightW_any (WrIn.later (Later.below _) hW)))))
                refine wpQuiet_nil ?_
                rintro w5 ⟨⟨_, hb7⟩, rfl⟩
                go_wp2
                go_ret
                exact ⟨by rw [e.out]; rfl, behind hb hb7⟩
              · have e5 : (d2 == seq - 1) = false := by simp [h5]
                have e : Hid (okTx 2 seq wall count d0 d1 d2 d3 l = false) := by show okTx 2 seq wall count d0 d1 d2 d3 l = false; simp only [okTx, P1.out, P2.out, p3, p4, Bool.and_true, Bool.true_and, depOf]; simp [h5]
                clear h5
                refine wp_region_later (by kernel_rfl) (by kernel_rfl) ?_
                repeat (go_big_quiet_step (first | (go_at_call 13; with_reducible exact calls_later (right_is p3 _)) | (go_at_call 62; with_reducible exact calls_later (rightv_is p4 _)) | (go_at_call 24; exact calls_later (rightW_any (WrIn.later (Later.below _) hW)))))
                refine wpQuiet_nil ?_
                rintro w5 ⟨⟨_, hb7⟩, rfl⟩
                go_wp2
                go_ret
                exact ⟨by rw [e.out]; rfl, behind hb hb7⟩
            · by_cases h5 : d3 = seq - 1
              · have e5 : (d3 == seq - 1) = true := by simp [h5]
                have e : Hid (okTx 3 seq wall count d0 d1 d2 d3 l = okWs l) := by show okTx 3 seq wall count d0 d1 d2 d3 l = okWs l; simp only [okTx, P1.out, P2.out, p3, p4, Bool.and_true, Bool.true_and, depOf]; simp [h5]
                clear h5
                refine wp_region_later (by kernel_rfl) (by kernel_rfl) ?_
                repeat (go_big_quiet_step (first | (go_at_call 13; with_reducible exact calls_later (right_is p3 _)) | (go_at_call 62; with_reducible exact calls_later (rightv_is p4 _)) | (go_at_call 24; exact calls_later (rightW_any (WrIn.later (Later.below _) hW)))))
                refine wpQuiet_nil ?_
                rintro w5 ⟨⟨_, hb7⟩, rfl⟩
                go_wp2
                go_ret
                exact ⟨by rw [e.out]; rfl, behind hb hb7⟩
              · have e5 : (d3 == seq - 1) = false := by simp [h5]
                have e : Hid (okTx 3 seq wall count d0 d1 d2 d3 l = false) := by show okTx 3 seq wall count d0 d1 d2 d3 l = false; simp only [okTx, P1.out, P2.out, p3, p4, Bool.and_true, Bool.true_and, depOf]; simp [h5]
                clear h5
                refine wp_region_later (by kernel_rfl) (by kernel_rfl) ?_
                repeat (go_big_quiet_step (first | (go_at_call 13; with_reducible exact calls_later (right_is p3 _)) | (go_at_call 62; with_reducible exact calls_later (rightv_is p4 _)) | (go_at_call 24; exact calls_later (rightW_any (WrIn.later (Later.below _) hW)))))
                refine wpQuiet_nil ?_
                rintro w5 ⟨⟨_, hb7⟩, rfl⟩
                go_wp2
                go_ret
                exact ⟨by rw [e.out]; rfl, behind hb hb7⟩

theorem rightTx_is {site seq wall count d0 d1 d2 d3 : Int} {a : Option Addr} {cap : Nat} {l : List Wr} {w : World} {v : Bool} (hW : WrIn w a cap l) (h : okTx site seq wall count d0 d1 d2 d3 l = v) :
    Calls Tryd.prog 22 #[.agg #[.int .i64 site, .int .i64 seq, .int .i64 wall, .int .i64 count, .int .i64 d0, .int .i64 d1, .int .i64 d2, .int .i64 d3, .slice a l.length cap]] w fun e w' => e = .returned (.bool v) ∧ Below w.heap.size w w' := by
  subst h
  exact rightTx_any site seq wall count d0 d1 d2 d3 a cap l w hW

end Go.Proofs.YtknejedgddlabaaDoor

namespace Go.Proofs.YtknejedgddlabaaDoor
open Go.RowKit

theorem eqVec (a b c d x y z t : Int) (w : World) : (Op.equalIn 10000 37 (.agg #[.int .i64 a, .int .i64 b, .int .i64 c, .int .i64 d]) (.agg #[.int .i64 x, .int .i64 y, .int .i64 z, .int .i64 t])).run Tryd.prog w = .ok (a == x && b == y && c == z && d == t) w := by
  have u3 := Tryd.underlying3
  have a3 := Tryd.isAgg3
  have z3 := Tryd.sizeOf3
  rw [show (10000 : Nat) = 9999 + 1 from rfl, Op.equalIn]
  simp only [Sem.run_bind, run_underlying Tryd.underlying37, Result.andThen_ok]
  simp only [Std.Legacy.Range.forIn_eq_forIn_range', Std.Legacy.Range.size, Nat.sub_zero, Nat.add_sub_cancel, Nat.div_one, List.range'_succ, List.range'_zero, List.forIn_cons, List.forIn_nil]
  go_simp
  by_cases h1 : a = x <;> by_cases h2 : b = y <;> by_cases h3 : c = z <;> by_cases h4 : d = t <;> simp [h1, h2, h3, h4]

theorem eqVecB (a b c d x y z t : Int) (w : World) : (binOp .eql 37 (.agg #[.int .i64 a, .int .i64 b, .int .i64 c, .int .i64 d]) (.agg #[.int .i64 x, .int .i64 y, .int .i64 z, .int .i64 t])).run Tryd.prog w = .ok (.bool (same4 a b c d x y z t)) w := by
  rw [run_eql_struct, eqVec]
  rfl

end Go.Proofs.YtknejedgddlabaaDoor
