/-
  What the document's own bytes of a transaction are, as the model runs them (copseref.EncodeTx).
-/
import Derived.Test.YteebebahlegmlaaDoorNumber
import Derived.Test.YteebebahlegmlaaDoorRefRightTx
namespace Go.Proofs.YteebebahlegmlaaDoor
open Go.RowKit

/-- RightTx, where the answer is known -/
theorem refRightTx_is {site seq wall count d0 d1 d2 d3 : Int} {a : Option Addr} {cap : Nat} {l : List Wr} {w : World} {v : Bool} (hW : WrIn w a cap l) (h : okTx site seq wall count d0 d1 d2 d3 l = v) :
    Calls Tryd.prog 20 #[.agg #[.int .i64 site, .int .i64 seq, .int .i64 wall, .int .i64 count, .int .i64 d0, .int .i64 d1, .int .i64 d2, .int .i64 d3, .slice a l.length cap]] w fun e w' => e = .returned (.bool v) ∧ Below w.heap.size w w' := by
  subst h
  exact refRightTx_any site seq wall count d0 d1 d2 d3 a cap l w hW

set_option maxHeartbeats 1000000 in
theorem refTx_arg (site seq wall count d0 d1 d2 d3 : Int) (a : Option Addr) (cap : Nat) (l : List Wr) (w : World) (hW : WrIn w a cap l) (h : okTx site seq wall count d0 d1 d2 d3 l = false) :
    Calls Tryd.prog 15 #[.agg #[.int .i64 site, .int .i64 seq, .int .i64 wall, .int .i64 count, .int .i64 d0, .int .i64 d1, .int .i64 d2, .int .i64 d3, .slice a l.length cap]] w fun e w' => e = .returned (.tuple #[.string ⟨#[]⟩, .int .i64 1]) ∧ Below w.heap.size w w' := by
  go_enter Tryd.func15, Tryd.ntmps15
  go_wp2_with fail
  refine (refRightTx_is (hW.later (boxed (Below.refl _ _) _)) h).mono ?_
  rintro e w1 ⟨rfl, hb⟩
  go_wp2_with fail
  go_ret2
  exact ⟨rfl, behind (boxed (Below.refl _ _) _) hb⟩

set_option maxHeartbeats 4000000 in
theorem refTx_ok (site seq wall count d0 d1 d2 d3 : Int) (a : Option Addr) (cap : Nat) (l : List Wr) (w : World) (hW : WrIn w a cap l) (h : okTx site seq wall count d0 d1 d2 d3 l = true) :
    Calls Tryd.prog 15 #[.agg #[.int .i64 site, .int .i64 seq, .int .i64 wall, .int .i64 count, .int .i64 d0, .int .i64 d1, .int .i64 d2, .int .i64 d3, .slice a l.length cap]] w fun e w' => e = .returned (.tuple #[.string (txS site seq wall count d0 d1 d2 d3 l), .int .i64 0]) ∧ Below w.heap.size w w' := by
  have hne := Later.one
  have ht := h
  simp only [okTx, Bool.and_eq_true, inB_iff, timesB, timeB_iff] at ht
  obtain ⟨⟨⟨⟨⟨ts, tq⟩, tw, tc⟩, ⟨⟨t0, t1⟩, t2⟩, t3⟩, _⟩, hok⟩ := ht
  have hlen := okWs_len hok
  have hall : Hid (∀ j, j < l.length → okAt l j = true) := okWs_each hok
  clear hok
  have i0 : ∀ w, (Instr.index 37 (.agg #[.int .i64 d0, .int .i64 d1, .int .i64 d2, .int .i64 d3]) (.int .i64 0)).run Tryd.prog w = .ok (.int .i64 d0) w := fun _ => by kernel_rfl
  have i1 : ∀ w, (Instr.index 37 (.agg #[.int .i64 d0, .int .i64 d1, .int .i64 d2, .int .i64 d3]) (.int .i64 1)).run Tryd.prog w = .ok (.int .i64 d1) w := fun _ => by kernel_rfl
  have i2 : ∀ w, (Instr.index 37 (.agg #[.int .i64 d0, .int .i64 d1, .int .i64 d2, .int .i64 d3]) (.int .i64 2)).run Tryd.prog w = .ok (.int .i64 d2) w := fun _ => by kernel_rfl
  have i3 : ∀ w, (Instr.index 37 (.agg #[.int .i64 d0, .int .i64 d1, .int .i64 d2, .int .i64 d3]) (.int .i64 3)).run Tryd.prog w = .ok (.int .i64 d3) w := fun _ => by kernel_rfl
  have l0 := numS_size 5 site
  have l1 := numS_size 5 seq
  have l2 := numS_size 5 wall
  have l3 := numS_size 5 count
  have l4 := numS_size 5 d0
  have l5 := numS_size 5 d1
  have l6 := numS_size 5 d2
  have l7 := numS_size 5 d3
  have l8 := numS_size 5 (l.length : Int)
  have z : (⟨#[116]⟩ : ByteArray).size = 1 := rfl
  have p0 := fun w => addS (P := Tryd.prog) ((⟨#[116]⟩ : ByteArray)) (numS 5 site) (by (try simp only [ByteArray.size_append]); omega) w
  have p1 := fun w => addS (P := Tryd.prog) ((⟨#[116]⟩ : ByteArray) ++ numS 5 site) (numS 5 seq) (by (try simp only [ByteArray.size_append]); omega) w
  have p2 := fun w => addS (P := Tryd.prog) ((⟨#[116]⟩ : ByteArray) ++ numS 5 site ++ numS 5 seq) (numS 5 wall) (by (try simp only [ByteArray.size_append]); omega) w
  have p3 := fun w => addS (P := Tryd.prog) ((⟨#[116]⟩ : ByteArray) ++ numS 5 site ++ numS 5 seq ++ numS 5 wall) (numS 5 count) (by (try simp only [ByteArray.size_append]); omega) w
  have p4 := fun w => addS (P := Tryd.prog) ((⟨#[116]⟩ : ByteArray) ++ numS 5 site ++ numS 5 seq ++ numS 5 wall ++ numS 5 count) (numS 5 d0) (by (try simp only [ByteArray.size_append]); omega) w
  have p5 := fun w => addS (P := Tryd.prog) ((⟨#[116]⟩ : ByteArray) ++ numS 5 site ++ numS 5 seq ++ numS 5 wall ++ numS 5 count ++ numS 5 d0) (numS 5 d1) (by (try simp only [ByteArray.size_append]); omega) w
  have p6 := fun w => addS (P := Tryd.prog) ((⟨#[116]⟩ : ByteArray) ++ numS 5 site ++ numS 5 seq ++ numS 5 wall ++ numS 5 count ++ numS 5 d0 ++ numS 5 d1) (numS 5 d2) (by (try simp only [ByteArray.size_append]); omega) w
  have p7 := fun w => addS (P := Tryd.prog) ((⟨#[116]⟩ : ByteArray) ++ numS 5 site ++ numS 5 seq ++ numS 5 wall ++ numS 5 count ++ numS 5 d0 ++ numS 5 d1 ++ numS 5 d2) (numS 5 d3) (by (try simp only [ByteArray.size_append]); omega) w
  have p8 := fun w => addS (P := Tryd.prog) ((⟨#[116]⟩ : ByteArray) ++ numS 5 site ++ numS 5 seq ++ numS 5 wall ++ numS 5 count ++ numS 5 d0 ++ numS 5 d1 ++ numS 5 d2 ++ numS 5 d3) (numS 5 (l.length : Int)) (by (try simp only [ByteArray.size_append]); omega) w
  clear l0 l1 l2 l3 l4 l5 l6 l7 l8 z
  go_enter Tryd.func15, Tryd.ntmps15
  go_wp2_with fail
  refine (refRightTx_is (hW.later (boxed (Below.refl _ _) _)) h).mono ?_
  rintro e w1 ⟨rfl, hb1⟩
  have c0 : w1.cell? ⟨w.heap.size, 0, none⟩ = some (.int .i64 site) := cell_later hb1 (by go_simp)
  have c1 : w1.cell? ⟨w.heap.size, 1, none⟩ = some (.int .i64 seq) := cell_later hb1 (by go_simp)
  have c2 : w1.cell? ⟨w.heap.size, 2, none⟩ = some (.int .i64 wall) := cell_later hb1 (by go_simp)
  have c3 : w1.cell? ⟨w.heap.size, 3, none⟩ = some (.int .i64 count) := cell_later hb1 (by go_simp)
  have c4 : w1.cell? ⟨w.heap.size, 4, none⟩ = some (.int .i64 d0) := cell_later hb1 (by go_simp)
  have c5 : w1.cell? ⟨w.heap.size, 5, none⟩ = some (.int .i64 d1) := cell_later hb1 (by go_simp)
  have c6 : w1.cell? ⟨w.heap.size, 6, none⟩ = some (.int .i64 d2) := cell_later hb1 (by go_simp)
  have c7 : w1.cell? ⟨w.heap.size, 7, none⟩ = some (.int .i64 d3) := cell_later hb1 (by go_simp)
  have c8 : w1.cell? ⟨w.heap.size, 8, none⟩ = some (.slice a l.length cap) := cell_later hb1 (by go_simp)
  have hb := behind (boxed (Below.refl _ _) _) hb1
  clear hb1 h
  go_wp2_with fail
  have g0 := Later.cell c0
  have g1 := Later.cell c1
  have g2 := Later.cell c2
  have g3 := Later.cell c3
  have g4 := Later.cell c4
  have g5 := Later.cell c5
  have g6 := Later.cell c6
  have g7 := Later.cell c7
  have g8 := Later.cell c8
  refine wp_region_later (by kernel_rfl) (by kernel_rfl) ?_
  repeat (go_big_quiet_step ((go_at_call 32; refine calls_later (number_any _ _ ?_ ?_) <;> omega)))
  refine wpQuiet_nil ?_
  rintro w2 ⟨⟨_, hb2⟩, rfl⟩
  replace c4 := cell_later hb2 c4
  replace c5 := cell_later hb2 c5
  replace c6 := cell_later hb2 c6
  replace c7 := cell_later hb2 c7
  replace c8 := cell_later hb2 c8
  replace hb := behind hb hb2
  clear hb2 c0 c1 c2 c3 g0 g1 g2 g3 g4 g5 g6 g7 g8
  go_wp2_with fail
  refine wp_loop_rounds 5 ?_
  rw [rounds_succ]
  go_wp2_with fail
  refine (number_any _ _ (by omega) (by omega)).mono ?_
  rintro e v0 ⟨rfl, hb3⟩
  replace hb := behind hb hb3
  replace c8 := cell_later hb3 c8
  clear hb3
  go_wp2_with fail
  rw [rounds_succ]
  go_wp2_with fail
  refine (number_any _ _ (by omega) (by omega)).mono ?_
  rintro e v1 ⟨rfl, hb3⟩
  replace hb := behind hb hb3
  replace c8 := cell_later hb3 c8
  clear hb3
  go_wp2_with fail
  rw [rounds_succ]
  go_wp2_with fail
  refine (number_any _ _ (by omega) (by omega)).mono ?_
  rintro e v2 ⟨rfl, hb3⟩
  replace hb := behind hb hb3
  replace c8 := cell_later hb3 c8
  clear hb3
  go_wp2_with fail
  rw [rounds_succ]
  go_wp2_with fail
  refine (number_any _ _ (by omega) (by omega)).mono ?_
  rintro e v3 ⟨rfl, hb3⟩
  replace hb := behind hb hb3
  replace c8 := cell_later hb3 c8
  clear hb3
  go_wp2_with fail
  rw [rounds_succ]
  go_wp2_with fail
  refine (number_any _ _ (by omega) (by omega)).mono ?_
  rintro e v4 ⟨rfl, hb3⟩
  replace hb := behind hb hb3
  replace c8 := cell_later hb3 c8
  clear hb3
  have hd : (⟨#[116]⟩ : ByteArray) ++ numS 5 site ++ numS 5 seq ++ numS 5 wall ++ numS 5 count ++ numS 5 d0 ++ numS 5 d1 ++ numS 5 d2 ++ numS 5 d3 ++ numS 5 (l.length : Int) = headS site seq wall count d0 d1 d2 d3 l.length := rfl
  replace hW := hW.later hb
  obtain ⟨b, off, rfl, C⟩ : ∃ b off, a = some ⟨b, off, none⟩ ∧ WrCells v4 b off l := by
    rcases hW.held with h0 | h0
    · rw [h0] at hlen; simp at hlen
    · exact h0
  have hcap := hW.cap
  have hlc := hW.len
  clear hW
  go_wp2_with fail
  clear hd
  go_loopw [4, 49] (fun s i wr => ∃ (k : Nat) (z : Int), k ≤ l.length ∧ z = k ∧ i = .int .i64 z ∧ s = .string (wrS (headS site seq wall count d0 d1 d2 d3 l.length) (l.take k)) ∧ Below w.heap.size w wr ∧ WrCells wr b off l) (fun _ i _ => l.length - (intOf i).toNat)
  case atStart => exact ⟨0, 0, by omega, rfl, rfl, rfl, hb, C⟩
  case round =>
    clear C hb c8
    obtain ⟨k, z, hk, hz, rfl, rfl, hb, C⟩ := hrel
    by_cases hlt : k < l.length
    · obtain ⟨x0, x1, x2⟩ := C k hlt
      have h1 : z < (l.length : Int) := by omega
      have h2 : z.toNat = k := by omega
      have h3 : 0 ≤ z := by omega
      have HZ : Hid (z = k) := hz
      clear hz
      have hkey := okAt_key (hall.out k hlt)
      have hsize := okAt_size (hall.out k hlt)
      have hsz := wrS_size (s := (headS site seq wall count d0 d1 d2 d3 l.length)) hall.out k (by omega)
      have hh := headS_size site seq wall count d0 d1 d2 d3 l.length
      obtain ⟨S, hS⟩ : ∃ S, wrS (headS site seq wall count d0 d1 d2 d3 l.length) (l.take k) = S := ⟨_, rfl⟩
      rw [hS] at hsz
      have HS : Hid (wrS (headS site seq wall count d0 d1 d2 d3 l.length) (l.take k) = S) := hS
      rw [hS]
      clear hS
      obtain ⟨⟨key, data, gone⟩, hx⟩ : ∃ x, wrAt l k = x := ⟨_, rfl⟩
      rw [hx] at x0 x1 x2 hkey hsize
      have HX : Hid (wrAt l k = ⟨key, data, gone⟩) := hx
      clear hx
      simp only at x0 x1 x2 hkey hsize
      obtain ⟨q0, q1⟩ := hkey
      have n1 := numS_size 5 key
      have n2 := numS_size 5 (data.size : Int)
      have a1 := fun w => addS (P := Tryd.prog) S (numS 5 key) (by omega) w
      have a3 := fun w => addS (P := Tryd.prog) (numS 5 (data.size : Int)) data (by omega) w
      cases gone
      · skip
        have a2 := fun w => addS (P := Tryd.prog) (S ++ numS 5 key) (⟨#[0]⟩ : ByteArray) (by rw [ByteArray.size_append]; have z : (⟨#[0]⟩ : ByteArray).size = 1 := rfl; omega) w
        have a4 := fun w => addS (P := Tryd.prog) (S ++ numS 5 key ++ (⟨#[0]⟩ : ByteArray)) (numS 5 (data.size : Int) ++ data) (by simp only [ByteArray.size_append]; have z : (⟨#[0]⟩ : ByteArray).size = 1 := rfl; omega) w
        clear n1 n2 hsz
        have y0 : (wr.alloc (.cells #[.int .i64 key, .string data, .bool false] 67)).cell? ⟨wr.heap.size, 0, none⟩ = some (.int .i64 key) := by go_simp
        have y1 : (wr.alloc (.cells #[.int .i64 key, .string data, .bool false] 67)).cell? ⟨wr.heap.size, 1, none⟩ = some (.string data) := by go_simp
        have y2 : (wr.alloc (.cells #[.int .i64 key, .string data, .bool false] 67)).cell? ⟨wr.heap.size, 2, none⟩ = some (.bool false) := by go_simp
        go_wp2_with fail
        refine (number_any _ _ (by omega) (by omega)).mono ?_
        rintro e w6 ⟨rfl, hb6⟩
        replace y0 := cell_later hb6 y0
        replace y1 := cell_later hb6 y1
        replace y2 := cell_later hb6 y2
        have hb7 := behind (boxed (Below.refl _ _) (.cells #[.int .i64 key, .string data, .bool false] 67)) hb6
        clear hb6
        go_wp2_with fail
        replace y1 := Later.cell y1
        refine wp_region_later (by kernel_rfl) (by kernel_rfl) ?_
        repeat (go_big_quiet_step ((go_at_call 32; refine calls_later (number_any _ _ ?_ ?_) <;> omega)))
        refine wpQuiet_nil ?_
        rintro w8 ⟨⟨_, hb8⟩, rfl⟩
        replace hb7 := behind hb7 hb8
        go_wp2
        go_roundw
        case rel => exact ⟨k + 1, z + 1, by omega, by have := HZ.out; omega, by go_num, by rw [wrS_snoc hlt, HX.out, HS.out]; rfl, behind hb hb7, C.later hb7⟩
        case measure => simp [intOf]; omega
      · skip
        have a2 := fun w => addS (P := Tryd.prog) (S ++ numS 5 key) (⟨#[1]⟩ : ByteArray) (by rw [ByteArray.size_append]; have z : (⟨#[1]⟩ : ByteArray).size = 1 := rfl; omega) w
        have a4 := fun w => addS (P := Tryd.prog) (S ++ numS 5 key ++ (⟨#[1]⟩ : ByteArray)) (numS 5 (data.size : Int) ++ data) (by simp only [ByteArray.size_append]; have z : (⟨#[1]⟩ : ByteArray).size = 1 := rfl; omega) w
        clear n1 n2 hsz
        have y0 : (wr.alloc (.cells #[.int .i64 key, .string data, .bool true] 67)).cell? ⟨wr.heap.size, 0, none⟩ = some (.int .i64 key) := by go_simp
        have y1 : (wr.alloc (.cells #[.int .i64 key, .string data, .bool true] 67)).cell? ⟨wr.heap.size, 1, none⟩ = some (.string data) := by go_simp
        have y2 : (wr.alloc (.cells #[.int .i64 key, .string data, .bool true] 67)).cell? ⟨wr.heap.size, 2, none⟩ = some (.bool true) := by go_simp
        go_wp2_with fail
        refine (number_any _ _ (by omega) (by omega)).mono ?_
        rintro e w6 ⟨rfl, hb6⟩
        replace y0 := cell_later hb6 y0
        replace y1 := cell_later hb6 y1
        replace y2 := cell_later hb6 y2
        have hb7 := behind (boxed (Below.refl _ _) (.cells #[.int .i64 key, .string data, .bool true] 67)) hb6
        clear hb6
        go_wp2_with fail
        replace y1 := Later.cell y1
        refine wp_region_later (by kernel_rfl) (by kernel_rfl) ?_
        repeat (go_big_quiet_step ((go_at_call 32; refine calls_later (number_any _ _ ?_ ?_) <;> omega)))
        refine wpQuiet_nil ?_
        rintro w8 ⟨⟨_, hb8⟩, rfl⟩
        replace hb7 := behind hb7 hb8
        go_wp2
        go_roundw
        case rel => exact ⟨k + 1, z + 1, by omega, by have := HZ.out; omega, by go_num, by rw [wrS_snoc hlt, HX.out, HS.out]; rfl, behind hb hb7, C.later hb7⟩
        case measure => simp [intOf]; omega
    · have e : k = l.length := by omega
      go_wp2_with fail
      go_ret2
      exact ⟨by rw [e, List.take_length]; rfl, hb⟩

end Go.Proofs.YteebebahlegmlaaDoor
