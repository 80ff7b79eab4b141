import Derived.Test.YtoanjdndmlffdaaGreatDoorPgRead
namespace Go.Proofs.YtoanjdndmlffdaaGreatDoor
open Go.RowKit
set_option maxRecDepth 100000 in
set_option maxHeartbeats 8000000 in
theorem qRead_any {b so : Nat} {F : Nat → Prop} {l : List Hd} (key a0 a1 a2 a3 : Int) (w : World) (hS : QStP w b so F l) (hl : l.length ≤ 1000) (ha : Apart l) (ho : ∀ h ∈ l, okVer h.v = true) :
    Calls Tryz.prog 259 #[.pointer (some ⟨b, so, none⟩), .int .i64 key, .agg #[.int .i64 a0, .int .i64 a1, .int .i64 a2, .int .i64 a3]] w fun e w' => e = .returned (.tuple #[.agg (verL (readV key a0 a1 a2 a3 l).1).toArray, errV (readV key a0 a1 a2 a3 l).2]) ∧ Below w.heap.size w w' := by
  have RA := (RowL.new (w := w) (T := 77) [.int .i64 a0, .int .i64 a1, .int .i64 a2, .int .i64 a3] rfl).boxed (.cells #[.int .i64 0, .int .i64 0, .int .i64 0, .int .i64 0, .string ⟨#[]⟩, .bool false] 130)
  have RR := RowL.new (w := w.alloc (.cells #[.int .i64 a0, .int .i64 a1, .int .i64 a2, .int .i64 a3] 77)) (T := 130) (n := w.heap.size + 1) (verL ver0) (by simp)
  change RowL ((w.alloc (.cells #[.int .i64 a0, .int .i64 a1, .int .i64 a2, .int .i64 a3] 77)).alloc (.cells #[.int .i64 0, .int .i64 0, .int .i64 0, .int .i64 0, .string ⟨#[]⟩, .bool false] 130)) (w.heap.size + 1) (verL ver0) at RR
  have hb := boxed (boxed (Below.refl _ w) (.cells #[.int .i64 a0, .int .i64 a1, .int .i64 a2, .int .i64 a3] 77)) (.cells #[.int .i64 0, .int .i64 0, .int .i64 0, .int .i64 0, .string ⟨#[]⟩, .bool false] 130)
  obtain ⟨W, hWW⟩ : ∃ W, (w.alloc (.cells #[.int .i64 a0, .int .i64 a1, .int .i64 a2, .int .i64 a3] 77)).alloc (.cells #[.int .i64 0, .int .i64 0, .int .i64 0, .int .i64 0, .string ⟨#[]⟩, .bool false] 130) = W := ⟨_, rfl⟩
  have r0 := RR.cell 0 _ rfl
  have r1 := RR.cell 1 _ rfl
  have r2 := RR.cell 2 _ rfl
  have r3 := RR.cell 3 _ rfl
  have r4 := RR.cell 4 _ rfl
  have r5 := RR.cell 5 _ rfl
  have f0 := RR.free 0 (by simp [verL])
  have f1 := RR.free 1 (by simp [verL])
  have f2 := RR.free 2 (by simp [verL])
  have f3 := RR.free 3 (by simp [verL])
  have f4 := RR.free 4 (by simp [verL])
  have f5 := RR.free 5 (by simp [verL])
  cases h : inB key 0 7
  · have H : Hid (inB key 0 7 = false) := h
    have RV : Hid (readV key a0 a1 a2 a3 l = (ver0, 2)) := by show readV key a0 a1 a2 a3 l = _; unfold readV; rw [h]; rfl
    clear h
    rw [hWW] at r0 r1 r2 r3 r4 r5 f0 f1 f2 f3 f4 f5
    go_enter Tryz.func259, Tryz.ntmps259
    go_wp2_with fail
    rw [hWW] at RA RR hb
    clear hWW
    refine (isKey_is H.out _).mono ?_
    rintro e w1 ⟨rfl, rfl⟩
    go_wp2_with fail
    rw [RV.out]
    refine bodyPost_ret (pgRead_results (v := ver0) (RR.verSet ver0) rfl rfl) rfl ⟨rfl, below_setVer hb (by omega) ver0⟩
  · have hk := inB_iff.1 h
    obtain ⟨k, rfl⟩ : ∃ k : Nat, key = (k : Int) := ⟨key.toNat, by omega⟩
    have hk8 : k < 8 := by omega
    have hkz : (k : Int) < 8 := by omega
    obtain ⟨vs, Ls, R, PH, hF⟩ := id hS
    obtain ⟨a, cap, hvk, hV⟩ := vsIn_own (R.own k hk8)
    have hlk : (Ls k).length ≤ 1000 := Nat.le_trans (PH.len hk8) hl
    have H : Hid (inB (k : Int) 0 7 = true) := h
    have LB := PH.qlast R ha hk8 a0 a1 a2 a3
    obtain ⟨best, hbest⟩ : ∃ best, lastB a0 a1 a2 a3 (Ls k) = best := ⟨_, rfl⟩
    have RV : Hid (readV k a0 a1 a2 a3 l = readO best) := by show readV k a0 a1 a2 a3 l = _; unfold readV; rw [h, LB, hbest]; rfl
    have LA := last_any a0 a1 a2 a3 (L := Ls k) (a := a) (cap := cap)
    rw [hbest] at LA
    have st := PH.sites ho hk8
    have R1 := R.later hb
    have V1 := hV.later hb
    have k0 : ((w.alloc (.cells #[.int .i64 a0, .int .i64 a1, .int .i64 a2, .int .i64 a3] 77)).alloc (.cells #[.int .i64 0, .int .i64 0, .int .i64 0, .int .i64 0, .string ⟨#[]⟩, .bool false] 130)).cell? ⟨b, so + k, none⟩ = some (.slice a (Ls k).length cap) := by rw [← hvk]; exact R1.cell hk8
    have q0 := RA.cell 0 _ rfl
    have q1 := RA.cell 1 _ rfl
    have q2 := RA.cell 2 _ rfl
    have q3 := RA.cell 3 _ rfl
    rw [hWW] at r0 r1 r2 r3 r4 r5 f0 f1 f2 f3 f4 f5 k0 q0 q1 q2 q3 RA RR hb R1 V1
    have BE : Hid (lastB a0 a1 a2 a3 (Ls k) = best) := hbest
    have LC : Hid (∀ x : Later W, Calls Tryz.prog 260 #[.slice a (Ls k).length cap, .agg #[.int .i64 a0, .int .i64 a1, .int .i64 a2, .int .i64 a3]] x.val fun e w' => e = .returned (.tuple #[.agg (bestL best).toArray, .bool (someB best)]) ∧ Below x.val.heap.size x.val w') := fun x => LA x.val (V1.later x.below) st hlk
    clear h hk LB hbest LA st
    go_enter Tryz.func259, Tryz.ntmps259
    go_wp2_with fail
    clear hWW
    refine (isKey_is H.out _).mono ?_
    rintro e w1 ⟨rfl, rfl⟩
    cases best with
    | none =>
      have LC2 : Hid (∀ x : Later w1, Calls Tryz.prog 260 #[.slice a (Ls k).length cap, .agg #[.int .i64 a0, .int .i64 a1, .int .i64 a2, .int .i64 a3]] x.val fun e w' => e = .returned (.tuple #[.agg #[.int .i64 0, .int .i64 0, .int .i64 0, .int .i64 0, .string ⟨#[]⟩, .bool false], .bool false]) ∧ Below x.val.heap.size x.val w') := LC.out
      clear LC
      have hbq := boxed (Below.refl _ w1) (.cells #[.int .i64 0, .int .i64 0, .int .i64 0, .int .i64 0, .string ⟨#[]⟩, .bool false] 130)
      have p0 := cell_later hbq q0
      have p1 := cell_later hbq q1
      have p2 := cell_later hbq q2
      have p3 := cell_later hbq q3
      have p4 := cell_later hbq k0
      clear hbq
      go_wp2_with fail
      go_region_law (first
        | (refine step_call rfl 260 #[.slice a (Ls k).length cap, .agg #[.int .i64 a0, .int .i64 a1, .int .i64 a2, .int .i64 a3]] (by go_simp) (LC2.out ⟨w1.drew, (Below.refl _ w1).drew⟩) ?_
           rintro e w8 ⟨rfl, hb8⟩
           refine ⟨_, rfl, ?_⟩
           have HB8 : Hid (Below w1.heap.size w1 w8) := behind (Below.refl _ w1).drew hb8
           clear hb8)
        | (refine step_call rfl 260 #[.slice a (Ls k).length cap, .agg #[.int .i64 a0, .int .i64 a1, .int .i64 a2, .int .i64 a3]] (by go_simp) (LC2.out ⟨(w1.alloc (.cells #[.int .i64 0, .int .i64 0, .int .i64 0, .int .i64 0, .string ⟨#[]⟩, .bool false] 130)).drew, (boxed (Below.refl _ w1) _).drew⟩) ?_
           rintro e w9 ⟨rfl, hb9⟩
           refine ⟨_, rfl, ?_⟩
           have HB9 : Hid (Below w1.heap.size w1 w9) := behind (boxed (Below.refl _ w1) _).drew hb9
           have RV9 := ((RowL.new (w := w1) (T := 130) (verL ver0) rfl).drew).later hb9
           have z0 := RV9.cell 0 _ rfl
           have z1 := RV9.cell 1 _ rfl
           have z2 := RV9.cell 2 _ rfl
           have z3 := RV9.cell 3 _ rfl
           have z4 := RV9.cell 4 _ rfl
           have z5 := RV9.cell 5 _ rfl
           have y0 := RV9.free 0 (by simp [verL])
           have y1 := RV9.free 1 (by simp [verL])
           have y2 := RV9.free 2 (by simp [verL])
           have y3 := RV9.free 3 (by simp [verL])
           have y4 := RV9.free 4 (by simp [verL])
           have y5 := RV9.free 5 (by simp [verL])
           clear hb9))
      all_goals first
        | (have hb9 := boxed HB8.out (.cells #[.int .i64 0, .int .i64 0, .int .i64 0, .int .i64 0, .string ⟨#[]⟩, .bool false] 130)
           have RU := RowL.new (w := w8) (T := 130) (verL ver0) rfl
           change RowL (w8.alloc (.cells #[.int .i64 0, .int .i64 0, .int .i64 0, .int .i64 0, .string ⟨#[]⟩, .bool false] 130)) w8.heap.size (verL ver0) at RU
           have RR9 := RR.later hb9
           have s0 := RR9.cell 0 _ rfl
           have s1 := RR9.cell 1 _ rfl
           have s2 := RR9.cell 2 _ rfl
           have s3 := RR9.cell 3 _ rfl
           have s4 := RR9.cell 4 _ rfl
           have s5 := RR9.cell 5 _ rfl
           have g0 := RR9.free 0 (by simp [verL])
           have g1 := RR9.free 1 (by simp [verL])
           have g2 := RR9.free 2 (by simp [verL])
           have g3 := RR9.free 3 (by simp [verL])
           have g4 := RR9.free 4 (by simp [verL])
           have g5 := RR9.free 5 (by simp [verL])
           have t0 := RU.cell 0 _ rfl
           have t1 := RU.cell 1 _ rfl
           have t2 := RU.cell 2 _ rfl
           have t3 := RU.cell 3 _ rfl
           have t4 := RU.cell 4 _ rfl
           have t5 := RU.cell 5 _ rfl
           have hbz := below_setVer (behind hb hb9) (b := w.heap.size + 1) (by omega) ver0
           have RZ := RR9.verSet ver0
           clear hb9 RR9 RU
           go_wp2_with fail
           rw [RV.out]
           refine bodyPost_ret (pgRead_results (v := ver0) RZ rfl rfl) rfl ⟨rfl, hbz⟩)
        | (obtain ⟨wz, hwz⟩ : ∃ wz, ((((((w9.setCell ⟨w1.heap.size, 0, none⟩ (.int .i64 0)).setCell ⟨w1.heap.size, 1, none⟩ (.int .i64 0)).setCell ⟨w1.heap.size, 2, none⟩ (.int .i64 0)).setCell ⟨w1.heap.size, 3, none⟩ (.int .i64 0)).setCell ⟨w1.heap.size, 4, none⟩ (.string ⟨#[]⟩)).setCell ⟨w1.heap.size, 5, none⟩ (.bool false)) = wz := ⟨_, rfl⟩
           have hb9 : Below w1.heap.size w1 wz := by rw [← hwz]; exact below_setVer HB9.out (b := w1.heap.size) (Nat.le_refl _) ver0
           have RU : RowL wz w1.heap.size (verL ver0) := by rw [← hwz]; exact RV9.verSet ver0
           rw [hwz]
           clear hwz z0 z1 z2 z3 z4 z5 y0 y1 y2 y3 y4 y5
           have RR9 := RR.later hb9
           have s0 := RR9.cell 0 _ rfl
           have s1 := RR9.cell 1 _ rfl
           have s2 := RR9.cell 2 _ rfl
           have s3 := RR9.cell 3 _ rfl
           have s4 := RR9.cell 4 _ rfl
           have s5 := RR9.cell 5 _ rfl
           have g0 := RR9.free 0 (by simp [verL])
           have g1 := RR9.free 1 (by simp [verL])
           have g2 := RR9.free 2 (by simp [verL])
           have g3 := RR9.free 3 (by simp [verL])
           have g4 := RR9.free 4 (by simp [verL])
           have g5 := RR9.free 5 (by simp [verL])
           have t0 := RU.cell 0 _ rfl
           have t1 := RU.cell 1 _ rfl
           have t2 := RU.cell 2 _ rfl
           have t3 := RU.cell 3 _ rfl
           have t4 := RU.cell 4 _ rfl
           have t5 := RU.cell 5 _ rfl
           have hbz := below_setVer (behind hb hb9) (b := w.heap.size + 1) (by omega) ver0
           have RZ := RR9.verSet ver0
           clear hb9 RR9 RU
           go_wp2_with fail
           rw [RV.out]
           refine bodyPost_ret (pgRead_results (v := ver0) RZ rfl rfl) rfl ⟨rfl, hbz⟩)
    | some u =>
      obtain ⟨uw, uc, us, uq, ud, ug⟩ := u
      cases ug
      · have LC2 : Hid (∀ x : Later w1, Calls Tryz.prog 260 #[.slice a (Ls k).length cap, .agg #[.int .i64 a0, .int .i64 a1, .int .i64 a2, .int .i64 a3]] x.val fun e w' => e = .returned (.tuple #[.agg #[.int .i64 uw, .int .i64 uc, .int .i64 us, .int .i64 uq, .string ud, .bool false], .bool true]) ∧ Below x.val.heap.size x.val w') := LC.out
        clear LC
        have hbq := boxed (Below.refl _ w1) (.cells #[.int .i64 0, .int .i64 0, .int .i64 0, .int .i64 0, .string ⟨#[]⟩, .bool false] 130)
        have p0 := cell_later hbq q0
        have p1 := cell_later hbq q1
        have p2 := cell_later hbq q2
        have p3 := cell_later hbq q3
        have p4 := cell_later hbq k0
        clear hbq
        go_wp2_with fail
        go_region_law (first
          | (refine step_call rfl 260 #[.slice a (Ls k).length cap, .agg #[.int .i64 a0, .int .i64 a1, .int .i64 a2, .int .i64 a3]] (by go_simp) (LC2.out ⟨w1.drew, (Below.refl _ w1).drew⟩) ?_
             rintro e w8 ⟨rfl, hb8⟩
             refine ⟨_, rfl, ?_⟩
             have HB8 : Hid (Below w1.heap.size w1 w8) := behind (Below.refl _ w1).drew hb8
             clear hb8)
          | (refine step_call rfl 260 #[.slice a (Ls k).length cap, .agg #[.int .i64 a0, .int .i64 a1, .int .i64 a2, .int .i64 a3]] (by go_simp) (LC2.out ⟨(w1.alloc (.cells #[.int .i64 0, .int .i64 0, .int .i64 0, .int .i64 0, .string ⟨#[]⟩, .bool false] 130)).drew, (boxed (Below.refl _ w1) _).drew⟩) ?_
             rintro e w9 ⟨rfl, hb9⟩
             refine ⟨_, rfl, ?_⟩
             have HB9 : Hid (Below w1.heap.size w1 w9) := behind (boxed (Below.refl _ w1) _).drew hb9
             have RV9 := ((RowL.new (w := w1) (T := 130) (verL ver0) rfl).drew).later hb9
             have z0 := RV9.cell 0 _ rfl
             have z1 := RV9.cell 1 _ rfl
             have z2 := RV9.cell 2 _ rfl
             have z3 := RV9.cell 3 _ rfl
             have z4 := RV9.cell 4 _ rfl
             have z5 := RV9.cell 5 _ rfl
             have y0 := RV9.free 0 (by simp [verL])
             have y1 := RV9.free 1 (by simp [verL])
             have y2 := RV9.free 2 (by simp [verL])
             have y3 := RV9.free 3 (by simp [verL])
             have y4 := RV9.free 4 (by simp [verL])
             have y5 := RV9.free 5 (by simp [verL])
             clear hb9))
        all_goals first
          | (have hb9 := boxed HB8.out (.cells #[.int .i64 uw, .int .i64 uc, .int .i64 us, .int .i64 uq, .string ud, .bool false] 130)
             have RU := RowL.new (w := w8) (T := 130) (verL ⟨uw, uc, us, uq, ud, false⟩) rfl
             change RowL (w8.alloc (.cells #[.int .i64 uw, .int .i64 uc, .int .i64 us, .int .i64 uq, .string ud, .bool false] 130)) w8.heap.size (verL ⟨uw, uc, us, uq, ud, false⟩) at RU
             have RR9 := RR.later hb9
             have s0 := RR9.cell 0 _ rfl
             have s1 := RR9.cell 1 _ rfl
             have s2 := RR9.cell 2 _ rfl
             have s3 := RR9.cell 3 _ rfl
             have s4 := RR9.cell 4 _ rfl
             have s5 := RR9.cell 5 _ rfl
             have g0 := RR9.free 0 (by simp [verL])
             have g1 := RR9.free 1 (by simp [verL])
             have g2 := RR9.free 2 (by simp [verL])
             have g3 := RR9.free 3 (by simp [verL])
             have g4 := RR9.free 4 (by simp [verL])
             have g5 := RR9.free 5 (by simp [verL])
             have t0 := RU.cell 0 _ rfl
             have t1 := RU.cell 1 _ rfl
             have t2 := RU.cell 2 _ rfl
             have t3 := RU.cell 3 _ rfl
             have t4 := RU.cell 4 _ rfl
             have t5 := RU.cell 5 _ rfl
             have hbz := below_setVer (behind hb hb9) (b := w.heap.size + 1) (by omega) ver0
             have RZ := RR9.verSet ver0
             have hbu := below_setVer (behind hb hb9) (b := w.heap.size + 1) (by omega) ⟨uw, uc, us, uq, ud, false⟩
             have RU2 := RR9.verSet ⟨uw, uc, us, uq, ud, false⟩
             clear hb9 RR9 RU
             go_wp2_with fail
             rw [RV.out]
             have e : readO (some ⟨uw, uc, us, uq, ud, false⟩) = (⟨uw, uc, us, uq, ud, false⟩, 0) := rfl
             rw [e]
             refine bodyPost_ret (pgRead_results (v := ⟨uw, uc, us, uq, ud, false⟩) RU2 rfl rfl) rfl ⟨rfl, hbu⟩)
          | (obtain ⟨wz, hwz⟩ : ∃ wz, ((((((w9.setCell ⟨w1.heap.size, 0, none⟩ (.int .i64 uw)).setCell ⟨w1.heap.size, 1, none⟩ (.int .i64 uc)).setCell ⟨w1.heap.size, 2, none⟩ (.int .i64 us)).setCell ⟨w1.heap.size, 3, none⟩ (.int .i64 uq)).setCell ⟨w1.heap.size, 4, none⟩ (.string ud)).setCell ⟨w1.heap.size, 5, none⟩ (.bool false)) = wz := ⟨_, rfl⟩
             have hb9 : Below w1.heap.size w1 wz := by rw [← hwz]; exact below_setVer HB9.out (b := w1.heap.size) (Nat.le_refl _) ⟨uw, uc, us, uq, ud, false⟩
             have RU : RowL wz w1.heap.size (verL ⟨uw, uc, us, uq, ud, false⟩) := by rw [← hwz]; exact RV9.verSet ⟨uw, uc, us, uq, ud, false⟩
             rw [hwz]
             clear hwz z0 z1 z2 z3 z4 z5 y0 y1 y2 y3 y4 y5
             have RR9 := RR.later hb9
             have s0 := RR9.cell 0 _ rfl
             have s1 := RR9.cell 1 _ rfl
             have s2 := RR9.cell 2 _ rfl
             have s3 := RR9.cell 3 _ rfl
             have s4 := RR9.cell 4 _ rfl
             have s5 := RR9.cell 5 _ rfl
             have g0 := RR9.free 0 (by simp [verL])
             have g1 := RR9.free 1 (by simp [verL])
             have g2 := RR9.free 2 (by simp [verL])
             have g3 := RR9.free 3 (by simp [verL])
             have g4 := RR9.free 4 (by simp [verL])
             have g5 := RR9.free 5 (by simp [verL])
             have t0 := RU.cell 0 _ rfl
             have t1 := RU.cell 1 _ rfl
             have t2 := RU.cell 2 _ rfl
             have t3 := RU.cell 3 _ rfl
             have t4 := RU.cell 4 _ rfl
             have t5 := RU.cell 5 _ rfl
             have hbz := below_setVer (behind hb hb9) (b := w.heap.size + 1) (by omega) ver0
             have RZ := RR9.verSet ver0
             have hbu := below_setVer (behind hb hb9) (b := w.heap.size + 1) (by omega) ⟨uw, uc, us, uq, ud, false⟩
             have RU2 := RR9.verSet ⟨uw, uc, us, uq, ud, false⟩
             clear hb9 RR9 RU
             go_wp2_with fail
             rw [RV.out]
             have e : readO (some ⟨uw, uc, us, uq, ud, false⟩) = (⟨uw, uc, us, uq, ud, false⟩, 0) := rfl
             rw [e]
             refine bodyPost_ret (pgRead_results (v := ⟨uw, uc, us, uq, ud, false⟩) RU2 rfl rfl) rfl ⟨rfl, hbu⟩)
      · have LC2 : Hid (∀ x : Later w1, Calls Tryz.prog 260 #[.slice a (Ls k).length cap, .agg #[.int .i64 a0, .int .i64 a1, .int .i64 a2, .int .i64 a3]] x.val fun e w' => e = .returned (.tuple #[.agg #[.int .i64 uw, .int .i64 uc, .int .i64 us, .int .i64 uq, .string ud, .bool true], .bool true]) ∧ Below x.val.heap.size x.val w') := LC.out
        clear LC
        have hbq := boxed (Below.refl _ w1) (.cells #[.int .i64 0, .int .i64 0, .int .i64 0, .int .i64 0, .string ⟨#[]⟩, .bool false] 130)
        have p0 := cell_later hbq q0
        have p1 := cell_later hbq q1
        have p2 := cell_later hbq q2
        have p3 := cell_later hbq q3
        have p4 := cell_later hbq k0
        clear hbq
        go_wp2_with fail
        go_region_law (first
          | (refine step_call rfl 260 #[.slice a (Ls k).length cap, .agg #[.int .i64 a0, .int .i64 a1, .int .i64 a2, .int .i64 a3]] (by go_simp) (LC2.out ⟨w1.drew, (Below.refl _ w1).drew⟩) ?_
             rintro e w8 ⟨rfl, hb8⟩
             refine ⟨_, rfl, ?_⟩
             have HB8 : Hid (Below w1.heap.size w1 w8) := behind (Below.refl _ w1).drew hb8
             clear hb8)
          | (refine step_call rfl 260 #[.slice a (Ls k).length cap, .agg #[.int .i64 a0, .int .i64 a1, .int .i64 a2, .int .i64 a3]] (by go_simp) (LC2.out ⟨(w1.alloc (.cells #[.int .i64 0, .int .i64 0, .int .i64 0, .int .i64 0, .string ⟨#[]⟩, .bool false] 130)).drew, (boxed (Below.refl _ w1) _).drew⟩) ?_
             rintro e w9 ⟨rfl, hb9⟩
             refine ⟨_, rfl, ?_⟩
             have HB9 : Hid (Below w1.heap.size w1 w9) := behind (boxed (Below.refl _ w1) _).drew hb9
             have RV9 := ((RowL.new (w := w1) (T := 130) (verL ver0) rfl).drew).later hb9
             have z0 := RV9.cell 0 _ rfl
             have z1 := RV9.cell 1 _ rfl
             have z2 := RV9.cell 2 _ rfl
             have z3 := RV9.cell 3 _ rfl
             have z4 := RV9.cell 4 _ rfl
             have z5 := RV9.cell 5 _ rfl
             have y0 := RV9.free 0 (by simp [verL])
             have y1 := RV9.free 1 (by simp [verL])
             have y2 := RV9.free 2 (by simp [verL])
             have y3 := RV9.free 3 (by simp [verL])
             have y4 := RV9.free 4 (by simp [verL])
             have y5 := RV9.free 5 (by simp [verL])
             clear hb9))
        all_goals first
          | (have hb9 := boxed HB8.out (.cells #[.int .i64 uw, .int .i64 uc, .int .i64 us, .int .i64 uq, .string ud, .bool true] 130)
             have RU := RowL.new (w := w8) (T := 130) (verL ⟨uw, uc, us, uq, ud, true⟩) rfl
             change RowL (w8.alloc (.cells #[.int .i64 uw, .int .i64 uc, .int .i64 us, .int .i64 uq, .string ud, .bool true] 130)) w8.heap.size (verL ⟨uw, uc, us, uq, ud, true⟩) at RU
             have RR9 := RR.later hb9
             have s0 := RR9.cell 0 _ rfl
             have s1 := RR9.cell 1 _ rfl
             have s2 := RR9.cell 2 _ rfl
             have s3 := RR9.cell 3 _ rfl
             have s4 := RR9.cell 4 _ rfl
             have s5 := RR9.cell 5 _ rfl
             have g0 := RR9.free 0 (by simp [verL])
             have g1 := RR9.free 1 (by simp [verL])
             have g2 := RR9.free 2 (by simp [verL])
             have g3 := RR9.free 3 (by simp [verL])
             have g4 := RR9.free 4 (by simp [verL])
             have g5 := RR9.free 5 (by simp [verL])
             have t0 := RU.cell 0 _ rfl
             have t1 := RU.cell 1 _ rfl
             have t2 := RU.cell 2 _ rfl
             have t3 := RU.cell 3 _ rfl
             have t4 := RU.cell 4 _ rfl
             have t5 := RU.cell 5 _ rfl
             have hbz := below_setVer (behind hb hb9) (b := w.heap.size + 1) (by omega) ver0
             have RZ := RR9.verSet ver0
             have hbu := below_setVer (behind hb hb9) (b := w.heap.size + 1) (by omega) ⟨uw, uc, us, uq, ud, true⟩
             have RU2 := RR9.verSet ⟨uw, uc, us, uq, ud, true⟩
             clear hb9 RR9 RU
             go_wp2_with fail
             rw [RV.out]
             have e : readO (some ⟨uw, uc, us, uq, ud, true⟩) = (ver0, 8) := rfl
             rw [e]
             refine bodyPost_ret (pgRead_results (v := ver0) RZ rfl rfl) rfl ⟨rfl, hbz⟩)
          | (obtain ⟨wz, hwz⟩ : ∃ wz, ((((((w9.setCell ⟨w1.heap.size, 0, none⟩ (.int .i64 uw)).setCell ⟨w1.heap.size, 1, none⟩ (.int .i64 uc)).setCell ⟨w1.heap.size, 2, none⟩ (.int .i64 us)).setCell ⟨w1.heap.size, 3, none⟩ (.int .i64 uq)).setCell ⟨w1.heap.size, 4, none⟩ (.string ud)).setCell ⟨w1.heap.size, 5, none⟩ (.bool true)) = wz := ⟨_, rfl⟩
             have hb9 : Below w1.heap.size w1 wz := by rw [← hwz]; exact below_setVer HB9.out (b := w1.heap.size) (Nat.le_refl _) ⟨uw, uc, us, uq, ud, true⟩
             have RU : RowL wz w1.heap.size (verL ⟨uw, uc, us, uq, ud, true⟩) := by rw [← hwz]; exact RV9.verSet ⟨uw, uc, us, uq, ud, true⟩
             rw [hwz]
             clear hwz z0 z1 z2 z3 z4 z5 y0 y1 y2 y3 y4 y5
             have RR9 := RR.later hb9
             have s0 := RR9.cell 0 _ rfl
             have s1 := RR9.cell 1 _ rfl
             have s2 := RR9.cell 2 _ rfl
             have s3 := RR9.cell 3 _ rfl
             have s4 := RR9.cell 4 _ rfl
             have s5 := RR9.cell 5 _ rfl
             have g0 := RR9.free 0 (by simp [verL])
             have g1 := RR9.free 1 (by simp [verL])
             have g2 := RR9.free 2 (by simp [verL])
             have g3 := RR9.free 3 (by simp [verL])
             have g4 := RR9.free 4 (by simp [verL])
             have g5 := RR9.free 5 (by simp [verL])
             have t0 := RU.cell 0 _ rfl
             have t1 := RU.cell 1 _ rfl
             have t2 := RU.cell 2 _ rfl
             have t3 := RU.cell 3 _ rfl
             have t4 := RU.cell 4 _ rfl
             have t5 := RU.cell 5 _ rfl
             have hbz := below_setVer (behind hb hb9) (b := w.heap.size + 1) (by omega) ver0
             have RZ := RR9.verSet ver0
             have hbu := below_setVer (behind hb hb9) (b := w.heap.size + 1) (by omega) ⟨uw, uc, us, uq, ud, true⟩
             have RU2 := RR9.verSet ⟨uw, uc, us, uq, ud, true⟩
             clear hb9 RR9 RU
             go_wp2_with fail
             rw [RV.out]
             have e : readO (some ⟨uw, uc, us, uq, ud, true⟩) = (ver0, 8) := rfl
             rw [e]
             refine bodyPost_ret (pgRead_results (v := ver0) RZ rfl rfl) rfl ⟨rfl, hbz⟩)
end Go.Proofs.YtoanjdndmlffdaaGreatDoor
