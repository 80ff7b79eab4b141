/-
  What the document's own RightWrites does, as the model runs it (package copseref).
-/
import Derived.Test.YtpncedpfoakfkaaGreatDoorSiteA
import Derived.LoopN
namespace Go.Proofs.YtpncedpfoakfkaaGreatDoor
open Go.RowKit

set_option maxHeartbeats 4000000 in
theorem refRightW_cells (b off cap : Nat) (l : List Wr) (w : World) (hc : WrCells w b off l) (hcap : l.length ≤ cap) (hcap2 : cap ≤ 9223372036854775807) :
    Calls Tryz.prog 47 #[.slice (some ⟨b, off, none⟩) l.length cap] w fun e w' => e = .returned (.bool (okWs l)) ∧ Below w.heap.size w w' := by
  have hne := Later.one
  go_enter Tryz.func47, Tryz.ntmps47
  go_wp2
  go_loopw [7] (fun i wr => ∃ (k : Nat) (z : Int), k ≤ l.length ∧ z = k ∧ i = .int .i64 z ∧ (∀ j, j < k → okAt l j = true) ∧ Below w.heap.size w wr ∧ WrCells wr b off l) (fun i _ => l.length - (intOf i).toNat)
  case atStart => exact ⟨0, 0, by omega, rfl, rfl, fun j hj => by omega, Below.refl _ _, hc⟩
  case round =>
    obtain ⟨k, z, hk, hz, rfl, HA0, hb, C⟩ := hrel
    have HA : Hid (∀ j, j < k → okAt l j = true) := HA0
    clear HA0
    by_cases hlt : k < l.length
    · obtain ⟨x0, x1, x2⟩ := C k hlt
      have h1 : z < (l.length : Int) := by omega
      have h2 : z.toNat = k := by omega
      have h3 : 0 ≤ z := by omega
      have HZ : Hid (z = k) := hz
      clear hz
      obtain ⟨⟨key, data, gone⟩, hx⟩ : ∃ x, wrAt l k = x := ⟨_, rfl⟩
      rw [hx] at x0 x1 x2
      have HX : Hid (wrAt l k = ⟨key, data, gone⟩) := hx
      clear hx
      simp only at x0 x1 x2
      have hb4 := boxed hb (.cells #[.int .i64 key, .string data, .bool gone] 83)
      have C4 := C.later (boxed (Below.refl _ wr) (.cells #[.int .i64 key, .string data, .bool gone] 83))
      have y0 : (wr.alloc (.cells #[.int .i64 key, .string data, .bool gone] 83)).cell? ⟨wr.heap.size, 0, none⟩ = some (.int .i64 key) := by go_simp
      have y1 : (wr.alloc (.cells #[.int .i64 key, .string data, .bool gone] 83)).cell? ⟨wr.heap.size, 1, none⟩ = some (.string data) := by go_simp
      have y2 : (wr.alloc (.cells #[.int .i64 key, .string data, .bool gone] 83)).cell? ⟨wr.heap.size, 2, none⟩ = some (.bool gone) := by go_simp
      have ok := okAt_eq HX.out
      replace y0 := Later.cell y0
      replace y1 := Later.cell y1
      replace y2 := Later.cell y2
      cases p1 : inB key 0 7
      · skip
        have bad : Hid (okAt l k = false) := by rw [ok]; exact okv_key p1
        clear ok
        go_wp2_with fail
        clear x0 x1 x2
        refine wp_region_later (by kernel_rfl) (by kernel_rfl) ?_
        repeat (go_big_quiet_step ((go_at_call 76; with_reducible exact calls_later (inB_is p1 _))))
        refine wpQuiet_nil ?_
        rintro w5 ⟨⟨_, hb7⟩, rfl⟩
        go_wp2
        go_ret
        exact ⟨by rw [okWs_bad hlt bad.out]; rfl, behind hb4 hb7⟩
      · by_cases hz0 : k = 0
        · have h5 : decide (0 < z) = false := decide_eq_false (by have := HZ.out; omega)
          have HZ0 : Hid (k = 0) := hz0
          clear hz0
          by_cases h7 : 12 < (data.size : Int)
          · skip
            have bad : Hid (okAt l k = false) := by rw [ok]; exact okv_len h7
            clear ok
            go_wp2_with fail
            clear x0 x1 x2
            refine wp_region_later (by kernel_rfl) (by kernel_rfl) ?_
            repeat (go_big_quiet_step ((go_at_call 76; with_reducible exact calls_later (inB_is p1 _))))
            refine wpQuiet_nil ?_
            rintro w5 ⟨⟨_, hb7⟩, rfl⟩
            go_wp2
            go_ret
            exact ⟨by rw [okWs_bad hlt bad.out]; rfl, behind hb4 hb7⟩
          · have d7 : decide (12 < (data.size : Int)) = false := decide_eq_false h7
            cases gone
            · skip
              have good : Hid (okAt l k = true) := by rw [ok]; exact okv_good p1 (.inl HZ0.out) h7 (.inl rfl)
              clear ok
              go_wp2_with fail
              clear x0 x1 x2
              refine wp_region_later (by kernel_rfl) (by kernel_rfl) ?_
              repeat (go_big_quiet_step ((go_at_call 76; with_reducible exact calls_later (inB_is p1 _))))
              refine wpQuiet_nil ?_
              rintro w5 ⟨⟨_, hb7⟩, rfl⟩
              go_wp2
              go_roundw
              case rel => exact ⟨k + 1, z + 1, by omega, by have := HZ.out; omega, by go_num, ok_next HA.out good.out, behind hb4 hb7, C4.later hb7⟩
              case measure => simp [intOf]; omega
            · cases he : data.toList.isEmpty
              · skip
                have bad : Hid (okAt l k = false) := by rw [ok]; exact okv_gone rfl he
                clear ok
                go_wp2_with fail
                clear x0 x1 x2
                refine wp_region_later (by kernel_rfl) (by kernel_rfl) ?_
                repeat (go_big_quiet_step ((go_at_call 76; with_reducible exact calls_later (inB_is p1 _))))
                refine wpQuiet_nil ?_
                rintro w5 ⟨⟨_, hb7⟩, rfl⟩
                go_wp2
                go_ret
                exact ⟨by rw [okWs_bad hlt bad.out]; rfl, behind hb4 hb7⟩
              · skip
                have good : Hid (okAt l k = true) := by rw [ok]; exact okv_good p1 (.inl HZ0.out) h7 (.inr he)
                clear ok
                go_wp2_with fail
                clear x0 x1 x2
                refine wp_region_later (by kernel_rfl) (by kernel_rfl) ?_
                repeat (go_big_quiet_step ((go_at_call 76; with_reducible exact calls_later (inB_is p1 _))))
                refine wpQuiet_nil ?_
                rintro w5 ⟨⟨_, hb7⟩, rfl⟩
                go_wp2
                go_roundw
                case rel => exact ⟨k + 1, z + 1, by omega, by have := HZ.out; omega, by go_num, ok_next HA.out good.out, behind hb4 hb7, C4.later hb7⟩
                case measure => simp [intOf]; omega
        · have h5 : 0 < z := by have := HZ.out; omega
          obtain ⟨v0, _, _⟩ := C4 (k - 1) (by omega)
          have q1 : (z - 1).toNat = k - 1 := by omega
          have q2 : 0 ≤ z - 1 := by omega
          have q3 : z - 1 < (l.length : Int) := by omega
          replace v0 := Later.cell v0
          by_cases h6 : key ≤ (wrAt l (k - 1)).key
          · skip
            have bad : Hid (okAt l k = false) := by rw [ok]; exact okv_prev (by omega) h6
            clear ok
            go_wp2_with fail
            clear x0 x1 x2
            refine wp_region_later (by kernel_rfl) (by kernel_rfl) ?_
            repeat (go_big_quiet_step ((go_at_call 76; with_reducible exact calls_later (inB_is p1 _))))
            refine wpQuiet_nil ?_
            rintro w5 ⟨⟨_, hb7⟩, rfl⟩
            go_wp2
            go_ret
            exact ⟨by rw [okWs_bad hlt bad.out]; rfl, behind hb4 hb7⟩
          · have d6 : decide (key ≤ (wrAt l (k - 1)).key) = false := decide_eq_false h6
            by_cases h7 : 12 < (data.size : Int)
            · skip
              have bad : Hid (okAt l k = false) := by rw [ok]; exact okv_len h7
              clear ok
              go_wp2_with fail
              clear x0 x1 x2
              refine wp_region_later (by kernel_rfl) (by kernel_rfl) ?_
              repeat (go_big_quiet_step ((go_at_call 76; with_reducible exact calls_later (inB_is p1 _))))
              refine wpQuiet_nil ?_
              rintro w5 ⟨⟨_, hb7⟩, rfl⟩
              go_wp2
              go_ret
              exact ⟨by rw [okWs_bad hlt bad.out]; rfl, behind hb4 hb7⟩
            · have d7 : decide (12 < (data.size : Int)) = false := decide_eq_false h7
              cases gone
              · skip
                have good : Hid (okAt l k = true) := by rw [ok]; exact okv_good p1 (.inr h6) h7 (.inl rfl)
                clear ok
                go_wp2_with fail
                clear x0 x1 x2
                refine wp_region_later (by kernel_rfl) (by kernel_rfl) ?_
                repeat (go_big_quiet_step ((go_at_call 76; with_reducible exact calls_later (inB_is p1 _))))
                refine wpQuiet_nil ?_
                rintro w5 ⟨⟨_, hb7⟩, rfl⟩
                go_wp2
                go_roundw
                case rel => exact ⟨k + 1, z + 1, by omega, by have := HZ.out; omega, by go_num, ok_next HA.out good.out, behind hb4 hb7, C4.later hb7⟩
                case measure => simp [intOf]; omega
              · cases he : data.toList.isEmpty
                · skip
                  have bad : Hid (okAt l k = false) := by rw [ok]; exact okv_gone rfl he
                  clear ok
                  go_wp2_with fail
                  clear x0 x1 x2
                  refine wp_region_later (by kernel_rfl) (by kernel_rfl) ?_
                  repeat (go_big_quiet_step ((go_at_call 76; with_reducible exact calls_later (inB_is p1 _))))
                  refine wpQuiet_nil ?_
                  rintro w5 ⟨⟨_, hb7⟩, rfl⟩
                  go_wp2
                  go_ret
                  exact ⟨by rw [okWs_bad hlt bad.out]; rfl, behind hb4 hb7⟩
                · skip
                  have good : Hid (okAt l k = true) := by rw [ok]; exact okv_good p1 (.inr h6) h7 (.inr he)
                  clear ok
                  go_wp2_with fail
                  clear x0 x1 x2
                  refine wp_region_later (by kernel_rfl) (by kernel_rfl) ?_
                  repeat (go_big_quiet_step ((go_at_call 76; with_reducible exact calls_later (inB_is p1 _))))
                  refine wpQuiet_nil ?_
                  rintro w5 ⟨⟨_, hb7⟩, rfl⟩
                  go_wp2
                  go_roundw
                  case rel => exact ⟨k + 1, z + 1, by omega, by have := HZ.out; omega, by go_num, ok_next HA.out good.out, behind hb4 hb7, C4.later hb7⟩
                  case measure => simp [intOf]; omega
    · go_wp2_with (go_at_call 76; refine (inB_any _ _ _ _).mono ?_; rintro e w1 ⟨rfl, rfl⟩)
      go_ret
      exact ⟨by rw [okWs_all (fun j hj => HA.out j (by omega))]; rfl, hb⟩

set_option maxHeartbeats 400000 in
theorem refRightW_none (a : Option Addr) (cap : Nat) (w : World) :
    Calls Tryz.prog 47 #[.slice a 0 cap] w fun e w' => e = .returned (.bool false) ∧ Below w.heap.size w w' := by
  go_enter Tryz.func47, Tryz.ntmps47
  go_wp2
  refine wp_loop_rounds 1 ?_
  rw [rounds_succ]
  go_wp2_with (go_at_call 76; refine (inB_any _ _ _ _).mono ?_; rintro e w1 ⟨rfl, rfl⟩)
  go_ret
  exact ⟨rfl, Below.refl _ _⟩

/-- whether writes may be, wherever they lie -/
theorem refRightW_any {a : Option Addr} {cap : Nat} {l : List Wr} {w : World} (h : WrIn w a cap l) :
    Calls Tryz.prog 47 #[.slice a l.length cap] w fun e w' => e = .returned (.bool (okWs l)) ∧ Below w.heap.size w w' := by
  rcases h.held with rfl | ⟨b, off, rfl, hc⟩
  · exact refRightW_none a cap w
  · exact refRightW_cells b off cap l w hc h.len h.cap

end Go.Proofs.YtpncedpfoakfkaaGreatDoor
