/-
  What wire.EncodeTx does, as the model runs it.
-/
import Derived.Test.YteebebahlegmlaaNumbers
import Derived.Test.YteebebahlegmlaaWireRightTx
namespace Go.Proofs.Yteebebahlegmlaa
open Go.RowKit

set_option maxHeartbeats 1000000 in
theorem encTx_arg (site seq wall count d0 d1 d2 d3 : Int) (a : Option Addr) (cap : Nat) (l : List Wr) (w : World) (hW : WrIn w a cap l) (h : okTx site seq wall count d0 d1 d2 d3 l = false) :
    Calls Try.prog 22 #[.agg #[.int .i64 site, .int .i64 seq, .int .i64 wall, .int .i64 count, .int .i64 d0, .int .i64 d1, .int .i64 d2, .int .i64 d3, .slice a l.length cap]] w fun e w' => e = .returned (.tuple #[.slice none 0 0, .iface 56 (.int .i64 1)]) ∧ Below w.heap.size w w' := by
  have H : Hid (okTx site seq wall count d0 d1 d2 d3 l = false) := h
  clear h
  go_enter Try.func22, Try.ntmps22
  go_wp2_with fail
  refine (rightTx_is (hW.later (boxed (Below.refl _ _) _)) H.out).mono ?_
  rintro e w1 ⟨rfl, hb1⟩
  go_wp2_with fail
  go_ret2
  exact ⟨rfl, behind (boxed (Below.refl _ _) _) hb1⟩

theorem numsS_len (S : ByteArray) (ns : List Int) : (numsS S ns).size ≤ S.size + 6 * ns.length := by
  have := numsS_size S ns ns.length (Nat.le_refl _)
  rwa [List.take_length] at this
theorem flag_num (g : Bool) : numS 5 (if g then 1 else 0) = flagS g := by cases g <;> rfl
theorem step_eq (S : ByteArray) (key : Int) (data : ByteArray) (gone : Bool) : numsS S [key, if gone then 1 else 0, (data.size : Int)] ++ data = stepS S ⟨key, data, gone⟩ := by
  show S ++ numS 5 key ++ numS 5 (if gone then 1 else 0) ++ numS 5 (data.size : Int) ++ data = S ++ numS 5 key ++ flagS gone ++ (numS 5 (data.size : Int) ++ data)
  rw [flag_num, ByteArray.append_assoc (b := numS 5 (data.size : Int))]

set_option maxHeartbeats 4000000 in
theorem encTx_ok (site seq wall count d0 d1 d2 d3 : Int) (a : Option Addr) (cap : Nat) (l : List Wr) (w : World) (hW : WrIn w a cap l) (h : okTx site seq wall count d0 d1 d2 d3 l = true) :
    Calls Try.prog 22 #[.agg #[.int .i64 site, .int .i64 seq, .int .i64 wall, .int .i64 count, .int .i64 d0, .int .i64 d1, .int .i64 d2, .int .i64 d3, .slice a l.length cap]] w fun e w' =>
      ∃ S g cp, e = .returned (.tuple #[.slice (some ⟨g, 0, none⟩) S.size cp, .nilIface]) ∧ S = txS site seq wall count d0 d1 d2 d3 l ∧ Own w' w.heap.size g cp S ∧ Below w.heap.size w w' := by
  have kc := fun (w : World) (C : Array Value) (n c : Nat) => Lib.run_convert_bytes_const (P := Try.prog) w 44 5 C n c Try.underlying44 Try.underlying5
  have H : Hid (okTx site seq wall count d0 d1 d2 d3 l = true) := h
  have ht := h
  simp only [okTx, Bool.and_eq_true, inB_iff, timesB, timeB_iff] at ht
  obtain ⟨⟨⟨⟨⟨ts, tq⟩, tw, tc⟩, ⟨⟨t0, t1⟩, t2⟩, t3⟩, _⟩, hok⟩ := ht
  have TS : Hid ((0 ≤ site ∧ site ≤ 3) ∧ (1 ≤ seq ∧ seq ≤ 1099511627776) ∧ (0 ≤ wall ∧ wall ≤ 1099511627776) ∧ (0 ≤ count ∧ count ≤ 1099511627776)) := ⟨ts, tq, tw, tc⟩
  have TD : Hid ((0 ≤ d0 ∧ d0 ≤ 1099511627776) ∧ (0 ≤ d1 ∧ d1 ≤ 1099511627776) ∧ (0 ≤ d2 ∧ d2 ≤ 1099511627776) ∧ (0 ≤ d3 ∧ d3 ≤ 1099511627776)) := ⟨t0, t1, t2, t3⟩
  have HLEN : Hid (1 ≤ l.length ∧ l.length ≤ 5) := okWs_len hok
  have hall : Hid (∀ j, j < l.length → okAt l j = true) := okWs_each hok
  clear hok ts tq tw tc t0 t1 t2 t3 h
  have c0 : (w.alloc (.cells #[.int .i64 site, .int .i64 seq, .int .i64 wall, .int .i64 count, .int .i64 d0, .int .i64 d1, .int .i64 d2, .int .i64 d3, .slice a l.length cap] 41)).cell? ⟨w.heap.size, 0, none⟩ = some (.int .i64 site) := by go_simp
  have c1 : (w.alloc (.cells #[.int .i64 site, .int .i64 seq, .int .i64 wall, .int .i64 count, .int .i64 d0, .int .i64 d1, .int .i64 d2, .int .i64 d3, .slice a l.length cap] 41)).cell? ⟨w.heap.size, 1, none⟩ = some (.int .i64 seq) := by go_simp
  have c2 : (w.alloc (.cells #[.int .i64 site, .int .i64 seq, .int .i64 wall, .int .i64 count, .int .i64 d0, .int .i64 d1, .int .i64 d2, .int .i64 d3, .slice a l.length cap] 41)).cell? ⟨w.heap.size, 2, none⟩ = some (.int .i64 wall) := by go_simp
  have c3 : (w.alloc (.cells #[.int .i64 site, .int .i64 seq, .int .i64 wall, .int .i64 count, .int .i64 d0, .int .i64 d1, .int .i64 d2, .int .i64 d3, .slice a l.length cap] 41)).cell? ⟨w.heap.size, 3, none⟩ = some (.int .i64 count) := by go_simp
  have c4 : (w.alloc (.cells #[.int .i64 site, .int .i64 seq, .int .i64 wall, .int .i64 count, .int .i64 d0, .int .i64 d1, .int .i64 d2, .int .i64 d3, .slice a l.length cap] 41)).cell? ⟨w.heap.size, 4, none⟩ = some (.int .i64 d0) := by go_simp
  have c5 : (w.alloc (.cells #[.int .i64 site, .int .i64 seq, .int .i64 wall, .int .i64 count, .int .i64 d0, .int .i64 d1, .int .i64 d2, .int .i64 d3, .slice a l.length cap] 41)).cell? ⟨w.heap.size, 5, none⟩ = some (.int .i64 d1) := by go_simp
  have c6 : (w.alloc (.cells #[.int .i64 site, .int .i64 seq, .int .i64 wall, .int .i64 count, .int .i64 d0, .int .i64 d1, .int .i64 d2, .int .i64 d3, .slice a l.length cap] 41)).cell? ⟨w.heap.size, 6, none⟩ = some (.int .i64 d2) := by go_simp
  have c7 : (w.alloc (.cells #[.int .i64 site, .int .i64 seq, .int .i64 wall, .int .i64 count, .int .i64 d0, .int .i64 d1, .int .i64 d2, .int .i64 d3, .slice a l.length cap] 41)).cell? ⟨w.heap.size, 7, none⟩ = some (.int .i64 d3) := by go_simp
  have c8 : (w.alloc (.cells #[.int .i64 site, .int .i64 seq, .int .i64 wall, .int .i64 count, .int .i64 d0, .int .i64 d1, .int .i64 d2, .int .i64 d3, .slice a l.length cap] 41)).cell? ⟨w.heap.size, 8, none⟩ = some (.slice a l.length cap) := by go_simp
  go_enter Try.func22, Try.ntmps22
  go_wp2_with fail
  refine (rightTx_is (hW.later (boxed (Below.refl _ _) _)) H.out).mono ?_
  rintro e w1 ⟨rfl, hb1⟩
  replace c0 := cell_later hb1 c0
  replace c1 := cell_later hb1 c1
  replace c2 := cell_later hb1 c2
  replace c3 := cell_later hb1 c3
  replace c4 := cell_later hb1 c4
  replace c5 := cell_later hb1 c5
  replace c6 := cell_later hb1 c6
  replace c7 := cell_later hb1 c7
  replace c8 := cell_later hb1 c8
  have hbw := behind (boxed (Below.refl _ _) _) hb1
  replace hW := hW.later hbw
  clear hb1
  have hlt : w.heap.size < w1.heap.size := World.block_lt_of_cell? _ _ c0
  have HL : Hid (w.heap.size < w1.heap.size) := hlt
  go_wp2_with fail
  refine (numbers_any w1.heap.size w1.heap.size 1 (byteS 116) (w1.heap.size + 1) 0 4 [site, seq, wall, count] _ ((Own.one w1 w1.heap.size _ (by omega) (by omega) (Nat.le_refl _)).alloc _) (by simp; omega) (by omega) ?_ ?_ (by rw [byteS_size]; simp)).mono ?_
  · intro i hi
    have hi' : i = 0 ∨ i = 1 ∨ i = 2 ∨ i = 3 := by simp at hi; omega
    rcases hi' with rfl | rfl | rfl | rfl <;> go_simp
  · intro i hi
    have hi' : i = 0 ∨ i = 1 ∨ i = 2 ∨ i = 3 := by simp at hi; omega
    obtain ⟨q0, q1, q2, q3⟩ := TS.out
    rcases hi' with rfl | rfl | rfl | rfl
    · exact ⟨q0.1, Int.le_trans q0.2 (by decide)⟩
    · exact ⟨Int.le_trans (by decide) q1.1, q1.2⟩
    · exact q2
    · exact q3
  rintro e w2 ⟨S1, g1, cap1, rfl, hS1, O1, e1, y1⟩
  have HS1 : Hid (S1 = numsS (byteS 116) [site, seq, wall, count]) := hS1
  have hb2 : Below w1.heap.size w1 w2 := (boxed (boxed (Below.refl _ _) _) _).trans (y1.below (Nat.le_refl _) (by simp; omega))
  have HG : Hid (w1.heap.size ≤ g1) := O1.base
  have hz1 : S1.size ≤ 25 := by rw [HS1.out]; exact numsS_len (byteS 116) [site, seq, wall, count]
  clear hS1 y1 e1
  replace c4 := cell_later hb2 c4
  replace c5 := cell_later hb2 c5
  replace c6 := cell_later hb2 c6
  replace c7 := cell_later hb2 c7
  replace c8 := cell_later hb2 c8
  clear c0 c1 c2 c3
  go_wp2_with fail
  refine (numbers_any w1.heap.size g1 cap1 S1 w.heap.size 4 4 [d0, d1, d2, d3] w2 O1 hb2.size (by have := HG.out; have := HL.out; omega) ?_ ?_ ?_).mono ?_
  · intro i hi
    have hi' : i = 0 ∨ i = 1 ∨ i = 2 ∨ i = 3 := by simp at hi; omega
    rcases hi' with rfl | rfl | rfl | rfl
    · exact c4
    · exact c5
    · exact c6
    · exact c7
  · intro i hi
    have hi' : i = 0 ∨ i = 1 ∨ i = 2 ∨ i = 3 := by simp at hi; omega
    obtain ⟨q0, q1, q2, q3⟩ := TD.out
    rcases hi' with rfl | rfl | rfl | rfl
    · exact q0
    · exact q1
    · exact q2
    · exact q3
  · exact Nat.le_trans (Nat.add_le_add_right hz1 _) (by simp)
  rintro e w3 ⟨S2, g2, cap2, rfl, hS2, O2, e2, y2⟩
  have HS2 : Hid (S2 = numsS S1 [d0, d1, d2, d3]) := hS2
  have hb3 : Below w1.heap.size w1 w3 := hb2.trans (y2.below HG.out hb2.size)
  have hz2 : S2.size ≤ 49 := by rw [HS2.out]; exact Nat.le_trans (numsS_len S1 [d0, d1, d2, d3]) (Nat.add_le_add_right hz1 24)
  have HG2 : Hid (w1.heap.size ≤ g2) := O2.base
  replace c8 : w3.cell? ⟨w.heap.size, 8, none⟩ = some (.slice a l.length cap) := (y2.below (B := w1.heap.size) HG.out hb2.size).cell (p := ⟨w.heap.size, 8, none⟩) HL.out ▸ c8
  clear hS2 y2 e2 hb2 c4 c5 c6 c7
  go_wp2_with fail
  refine (numbers_any w1.heap.size g2 cap2 S2 w3.heap.size 0 1 [(l.length : Int)] _ (O2.alloc _) (by have := hb3.size; simp; omega) (by have := O2.lt; omega) ?_ ?_ ?_).mono ?_
  · intro i hi
    obtain rfl : i = 0 := by simpa using hi
    go_simp
  · intro i hi
    obtain rfl : i = 0 := by simpa using hi
    have := HLEN.out
    show 0 ≤ (l.length : Int) ∧ (l.length : Int) ≤ 1099511627776
    omega
  · exact Nat.le_trans (Nat.add_le_add_right hz2 _) (by simp)
  rintro e w4 ⟨S3, g3, cap3, rfl, hS3, O3, e3, y3⟩
  have HS3 : Hid (S3 = headS site seq wall count d0 d1 d2 d3 l.length) := by show S3 = _; rw [hS3, HS2.out, HS1.out]; rfl
  have hb34 : Below w1.heap.size w3 w4 := ((Below.refl _ _).alloc hb3.size _).trans (y3.below HG2.out (by have := hb3.size; simp; omega))
  have hb4 : Below w1.heap.size w1 w4 := hb3.trans hb34
  replace c8 : w4.cell? ⟨w.heap.size, 8, none⟩ = some (.slice a l.length cap) := hb34.cell (p := ⟨w.heap.size, 8, none⟩) HL.out ▸ c8
  obtain ⟨b, off, rfl, C⟩ : ∃ b off, a = some ⟨b, off, none⟩ ∧ WrCells w1 b off l := by
    rcases hW.held with h0 | h0
    · have := HLEN.out; rw [h0] at this; simp at this
    · exact h0
  have hcap := hW.cap
  have hlc := hW.len
  clear hW hS3 y3 e3 hb34 O2 hz2 HG2 HG O1 hz1 hb3
  go_wp2_with fail
  clear c8
  go_loopw [4, 39] (fun bv i wr => ∃ (k : Nat) (z : Int) (S' : ByteArray) (g' cap' : Nat), k ≤ l.length ∧ z = k ∧ i = .int .i64 z ∧ bv = .slice (some ⟨g', 0, none⟩) S'.size cap' ∧ S' = wrS (headS site seq wall count d0 d1 d2 d3 l.length) (l.take k) ∧ Own wr w1.heap.size g' cap' S' ∧ Below w1.heap.size w1 wr) (fun _ i _ => l.length - (intOf i).toNat)
  case atStart => exact ⟨0, 0, S3, g3, cap3, by omega, rfl, rfl, rfl, HS3.out, O3, hb4⟩
  case round =>
    clear O3 hb4
    obtain ⟨k, z, S5, g5, cap5, hk, hz, rfl, rfl, hS5, O5, hb5⟩ := hrel
    have HS5 : Hid (S5 = wrS (headS site seq wall count d0 d1 d2 d3 l.length) (l.take k)) := hS5
    clear hS5
    have hsz : S5.size ≤ 55 + 25 * k := by
      rw [HS5.out]
      exact Nat.le_trans (wrS_size hall.out k hk) (Nat.add_le_add_right (headS_size _ _ _ _ _ _ _ _ _) _)
    have hlen := HLEN.out
    by_cases hlt2 : k < l.length
    · obtain ⟨x0, x1, x2⟩ := (C.later hb5) k hlt2
      have h1 : z < (l.length : Int) := by omega
      have h2 : z.toNat = k := by omega
      have h3 : 0 ≤ z := by omega
      have HZ : Hid (z = k) := hz
      clear hz
      have hkey := okAt_key (hall.out k hlt2)
      have hsize := okAt_size (hall.out k hlt2)
      obtain ⟨⟨key, data, gone⟩, hx⟩ : ∃ x, wrAt l k = x := ⟨_, rfl⟩
      rw [hx] at x0 x1 x2 hkey hsize
      have HX : Hid (wrAt l k = ⟨key, data, gone⟩) := hx
      clear hx
      simp only at x0 x1 x2 hkey hsize
      obtain ⟨q0, q1⟩ := hkey
      have E : Hid (∀ S6, S6 = numsS S5 [key, if gone then 1 else 0, (data.size : Int)] → S6 ++ data = wrS (headS site seq wall count d0 d1 d2 d3 l.length) (l.take (k + 1))) := fun S6 h6 => by
        rw [h6, step_eq, wrS_snoc hlt2, HX.out, HS5.out]
      obtain ⟨gi, hgi⟩ : ∃ gi : Int, gi = if gone then 1 else 0 := ⟨_, rfl⟩
      rw [← hgi] at E
      have Hgi : Hid (0 ≤ gi ∧ gi ≤ 1) := by
        show 0 ≤ gi ∧ gi ≤ 1
        rw [hgi]
        cases gone <;> decide
      have y1 : (wr.alloc (.cells #[.int .i64 key, .string data, .bool gone] 43)).cell? ⟨wr.heap.size, 1, none⟩ = some (.string data) := by go_simp
      have y1' : ((wr.alloc (.cells #[.int .i64 key, .string data, .bool gone] 43)).alloc (.cells #[.int .i64 key, .int .i64 gi, .int .i64 (data.size : Int)] 3)).cell? ⟨wr.heap.size, 1, none⟩ = some (.string data) := by go_simp
      cases gone
      · obtain rfl : gi = 0 := hgi
        go_wp2_with fail
        refine (numbers_any w1.heap.size g5 cap5 S5 (wr.heap.size + 1) 0 3 [key, 0, (data.size : Int)] _ ((O5.alloc _).alloc _) (by have := hb5.size; simp; omega) (by have := O5.lt; omega) ?_ ?_ ?_).mono ?_
        · intro i hi
          have hi' : i = 0 ∨ i = 1 ∨ i = 2 := by simp at hi; omega
          rcases hi' with rfl | rfl | rfl <;> go_simp
        · intro i hi
          have hi' : i = 0 ∨ i = 1 ∨ i = 2 := by simp at hi; omega
          rcases hi' with rfl | rfl | rfl
          · show 0 ≤ key ∧ key ≤ 1099511627776
            omega
          · show (0 : Int) ≤ 0 ∧ (0 : Int) ≤ 1099511627776
            decide
          · show 0 ≤ (data.size : Int) ∧ (data.size : Int) ≤ 1099511627776
            omega
        · simp
          omega
        rintro e w6 ⟨S6, g6, cap6, rfl, hS6, O6, e6, y6⟩
        have HS6 : Hid (S6 = numsS S5 [key, 0, (data.size : Int)]) := hS6
        have hz6 : S6.size ≤ S5.size + 18 := by rw [HS6.out]; exact numsS_len S5 [key, 0, (data.size : Int)]
        have hb6 : Below w1.heap.size w1 w6 := (hb5.trans (((Below.refl _ _).alloc hb5.size _).alloc (by have := hb5.size; simp; omega) _)).trans (y6.below O5.base (by have := hb5.size; simp; omega))
        have y2 := y6.cell y1' (by have := O5.lt; show wr.heap.size ≠ g5; omega)
        clear hS6 y6 e6 y1 y1'
        go_wp2_with (at_builtin; refine wpList_append_bytes rfl (.tmp 54) (.tmp 56) 44 9 5 rfl Try.underlying44 u8info rfl O6 data _ rfl (Src.ofString _ Try.underlying9 data) (by omega) hb6.size ?_; intro S7 g7 cap7 w7 hS7 O7 e7 y7)
        go_roundw
        case rel => exact ⟨k + 1, z + 1, S7, g7, cap7, by omega, by have := HZ.out; omega, by go_num, rfl, by rw [hS7.out]; exact E.out S6 HS6.out, O7, hb6.trans (y7.below O6.base hb6.size)⟩
        case measure => simp [intOf]; omega
      · obtain rfl : gi = 1 := hgi
        go_wp2_with fail
        refine (numbers_any w1.heap.size g5 cap5 S5 (wr.heap.size + 1) 0 3 [key, 1, (data.size : Int)] _ ((O5.alloc _).alloc _) (by have := hb5.size; simp; omega) (by have := O5.lt; omega) ?_ ?_ ?_).mono ?_
        · intro i hi
          have hi' : i = 0 ∨ i = 1 ∨ i = 2 := by simp at hi; omega
          rcases hi' with rfl | rfl | rfl <;> go_simp
        · intro i hi
          have hi' : i = 0 ∨ i = 1 ∨ i = 2 := by simp at hi; omega
          rcases hi' with rfl | rfl | rfl
          · show 0 ≤ key ∧ key ≤ 1099511627776
            omega
          · show (0 : Int) ≤ 1 ∧ (1 : Int) ≤ 1099511627776
            decide
          · show 0 ≤ (data.size : Int) ∧ (data.size : Int) ≤ 1099511627776
            omega
        · simp
          omega
        rintro e w6 ⟨S6, g6, cap6, rfl, hS6, O6, e6, y6⟩
        have HS6 : Hid (S6 = numsS S5 [key, 1, (data.size : Int)]) := hS6
        have hz6 : S6.size ≤ S5.size + 18 := by rw [HS6.out]; exact numsS_len S5 [key, 1, (data.size : Int)]
        have hb6 : Below w1.heap.size w1 w6 := (hb5.trans (((Below.refl _ _).alloc hb5.size _).alloc (by have := hb5.size; simp; omega) _)).trans (y6.below O5.base (by have := hb5.size; simp; omega))
        have y2 := y6.cell y1' (by have := O5.lt; show wr.heap.size ≠ g5; omega)
        clear hS6 y6 e6 y1 y1'
        go_wp2_with (at_builtin; refine wpList_append_bytes rfl (.tmp 54) (.tmp 56) 44 9 5 rfl Try.underlying44 u8info rfl O6 data _ rfl (Src.ofString _ Try.underlying9 data) (by omega) hb6.size ?_; intro S7 g7 cap7 w7 hS7 O7 e7 y7)
        go_roundw
        case rel => exact ⟨k + 1, z + 1, S7, g7, cap7, by omega, by have := HZ.out; omega, by go_num, rfl, by rw [hS7.out]; exact E.out S6 HS6.out, O7, hb6.trans (y7.below O6.base hb6.size)⟩
        case measure => simp [intOf]; omega
    · have e : k = l.length := by omega
      go_wp2_with fail
      go_ret2
      exact ⟨S5, g5, cap5, rfl, by rw [HS5.out, e, List.take_length]; rfl, O5.mono (by have := HL.out; omega), hbw.trans (hb5.mono (by have := HL.out; omega))⟩

end Go.Proofs.Yteebebahlegmlaa
