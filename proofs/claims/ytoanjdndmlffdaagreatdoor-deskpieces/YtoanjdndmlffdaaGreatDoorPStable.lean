import Derived.Test.YtoanjdndmlffdaaGreatDoorSiteD
import Derived.Test.YtoanjdndmlffdaaGreatDoorVector
namespace Go.Proofs.YtoanjdndmlffdaaGreatDoor
open Go.RowKit
theorem othQ_cells {S : SiteS} {lv : Value} {bm : Nat} {k : Nat} (hk : k < 4) : (psiteC S lv bm)[9 + k * 4]? = some (.int .i64 (S.oth (k * 4))) ∧ (psiteC S lv bm)[9 + k * 4 + 1]? = some (.int .i64 (S.oth (k * 4 + 1))) ∧ (psiteC S lv bm)[9 + k * 4 + 2]? = some (.int .i64 (S.oth (k * 4 + 2))) ∧ (psiteC S lv bm)[9 + k * 4 + 3]? = some (.int .i64 (S.oth (k * 4 + 3))) := by
  match k, hk with
  | 0, _ => exact ⟨rfl, rfl, rfl, rfl⟩
  | 1, _ => exact ⟨rfl, rfl, rfl, rfl⟩
  | 2, _ => exact ⟨rfl, rfl, rfl, rfl⟩
  | 3, _ => exact ⟨rfl, rfl, rfl, rfl⟩
set_option maxHeartbeats 4000000 in
theorem stable_hi {b : Nat} {lv : Value} {bm : Nat} {F : Nat → Prop} {S : SiteS} {log waits : List TxM} (sites : Int) (w : World) (h : PMem w b lv bm F S log waits) (h4 : 4 < sites) :
    Calls Tryz.prog 162 #[.pointer (some ⟨b, 0, none⟩), .int .i64 sites] w fun e w' =>
      e = .returned (.agg #[.int .i64 (stabS S (cutN sites)).v0, .int .i64 (stabS S (cutN sites)).v1, .int .i64 (stabS S (cutN sites)).v2, .int .i64 (stabS S (cutN sites)).v3]) ∧ Below w.heap.size w w' := by
  have RR := (Row4.new w 77 0 0 0 0).boxed (.cells #[.int .i64 S.a0, .int .i64 S.a1, .int .i64 S.a2, .int .i64 S.a3] 77)
  have RV := Row4.newest (w := w.alloc (.cells #[.int .i64 0, .int .i64 0, .int .i64 0, .int .i64 0] 77)) (T := 77) (n := w.heap.size + 1) (a0 := S.a0) (a1 := S.a1) (a2 := S.a2) (a3 := S.a3) (by simp)
  have hb := boxed (boxed (Below.refl _ w) (.cells #[.int .i64 0, .int .i64 0, .int .i64 0, .int .i64 0] 77)) (.cells #[.int .i64 S.a0, .int .i64 S.a1, .int .i64 S.a2, .int .i64 S.a3] 77)
  have HH : Hid (PMem w b lv bm F S log waits) := h
  have hlt := h.box.lt
  have k1 := h.box.cell 1 _ rfl
  have k2 := h.box.cell 2 _ rfl
  have k3 := h.box.cell 3 _ rfl
  have k4 := h.box.cell 4 _ rfl
  clear h
  go_enter Tryz.func162, Tryz.ntmps162
  go_wp2_with fail
  have M0 : Hid (StM w S 0 ((w.alloc (.cells #[.int .i64 0, .int .i64 0, .int .i64 0, .int .i64 0] 77)).alloc (.cells #[.int .i64 S.a0, .int .i64 S.a1, .int .i64 S.a2, .int .i64 S.a3] 77))) := ⟨RR, RV, hb⟩
  obtain ⟨W, hWW⟩ : ∃ W, (w.alloc (.cells #[.int .i64 0, .int .i64 0, .int .i64 0, .int .i64 0] 77)).alloc (.cells #[.int .i64 S.a0, .int .i64 S.a1, .int .i64 S.a2, .int .i64 S.a3] 77) = W := ⟨_, rfl⟩
  rw [hWW] at M0 ⊢
  clear hWW RR RV hb k1 k2 k3 k4 hlt
  go_loopw [13] (fun iv wr => ∃ (k : Nat) (z : Int), k ≤ (cutN sites) ∧ z = k ∧ iv = .int .i64 z ∧ Hid (StM w S k wr)) (fun i _ => 4 - (intOf i).toNat)
  case atStart => exact ⟨0, 0, by omega, rfl, rfl, M0⟩
  case round =>
    clear M0
    obtain ⟨k, z, hk, hz, rfl, AM⟩ := hrel
    have HZ : Hid (z = k) := hz
    have hcut : (cutN sites) = min 4 sites.toNat := rfl
    by_cases hlt : k < (cutN sites)
    · have h1 : z < sites := by omega
      have h2 : z < 4 := by omega
      have h5 : 0 ≤ z := by omega
      have h6 : z.toNat = k := by omega
      have hk4 : k < 4 := by omega
      clear hcut
      have B1 := HH.out.later AM.out.b
      have i0 := B1.box.cell 0 _ rfl
      by_cases hid : z = S.id
      · have e : Hid (stabS S (k + 1) = stabS S k) := by
          show stabS S (k + 1) = stabS S k
          have : (k : Int) = S.id := by omega
          simp [stabS, this]
        have AM2 : Hid (StM w S (k + 1) wr) := ⟨AM.out.r, by rw [e.out]; exact AM.out.v, AM.out.b⟩
        have hd : (z == S.id) = true := by simp [hid]
        clear hz B1
        go_wp2_with fail
        go_roundw
        case rel => exact ⟨k + 1, z + 1, by omega, by have := HZ.out; omega, by go_num, AM2⟩
        case measure => simp [intOf]; omega
      · have hd : (z == S.id) = false := by simp [hid]
        obtain ⟨o0, o1, o2, o3⟩ := othQ_cells (S := S) (lv := lv) (bm := bm) hk4
        have q0 := B1.box.cell _ _ o0
        have q1 := B1.box.cell _ _ o1
        have q2 := B1.box.cell _ _ o2
        have q3 := B1.box.cell _ _ o3
        obtain ⟨⟨v0, v1, v2, v3⟩, hv⟩ : ∃ v, stabS S k = v := ⟨_, rfl⟩
        obtain ⟨p0, hp0⟩ : ∃ x, S.oth (k * 4) = x := ⟨_, rfl⟩
        obtain ⟨p1, hp1⟩ : ∃ x, S.oth (k * 4 + 1) = x := ⟨_, rfl⟩
        obtain ⟨p2, hp2⟩ : ∃ x, S.oth (k * 4 + 2) = x := ⟨_, rfl⟩
        obtain ⟨p3, hp3⟩ : ∃ x, S.oth (k * 4 + 3) = x := ⟨_, rfl⟩
        have EQ : Hid (stabS S (k + 1) = ⟨minZ v0 p0, minZ v1 p1, minZ v2 p2, minZ v3 p3⟩) := by
          show stabS S (k + 1) = _
          have : ¬ (k : Int) = S.id := by omega
          simp [stabS, this, hv, hp0, hp1, hp2, hp3]
        rw [hp0] at q0
        rw [hp1] at q1
        rw [hp2] at q2
        rw [hp3] at q3
        have VV : Row4 wr (w.heap.size + 1) v0 v1 v2 v3 := by have := AM.out.v; rw [hv] at this; exact this
        have x0 := VV.c0
        have x1 := VV.c1
        have x2 := VV.c2
        have x3 := VV.c3
        have PU : Hid (Calls Tryz.prog 163 #[.agg #[.int .i64 v0, .int .i64 v1, .int .i64 v2, .int .i64 v3], .agg #[.int .i64 p0, .int .i64 p1, .int .i64 p2, .int .i64 p3]] wr.drew fun e w' => e = .returned (.agg #[.int .i64 (minZ v0 p0), .int .i64 (minZ v1 p1), .int .i64 (minZ v2 p2), .int .i64 (minZ v3 p3)]) ∧ Row4 w' w.heap.size 0 0 0 0 ∧ Row4 w' (w.heap.size + 1) v0 v1 v2 v3 ∧ Below w.heap.size w w') :=
          (min_any v0 v1 v2 v3 p0 p1 p2 p3 wr.drew).mono fun e w' ⟨he, hb'⟩ => ⟨he, Row4.later hb' AM.out.r.drew, Row4.later hb' VV.drew, behind AM.out.b.drew hb'⟩
        have hB : w.heap.size ≤ w.heap.size + 1 := by omega
        have hBB := AM.out.b.drew
        clear hz B1 o0 o1 o2 o3 hv hp0 hp1 hp2 hp3 VV AM hid
        go_wp2_with fail
        go_region_with
          (first | (go_at_call 163; with_reducible refine PU.out.mono ?_; rintro e w5 ⟨rfl, RR5, RV5, hb5⟩; have y0 := RV5.c0; have y1 := RV5.c1; have y2 := RV5.c2; have y3 := RV5.c3; have z0 := RV5.f0; have z1 := RV5.f1; have z2 := RV5.f2; have z3 := RV5.f3))
        all_goals
          have SM : Hid (StM w S (k + 1) ((((w5.setCell ⟨w.heap.size + 1, 0, none⟩ (.int .i64 (minZ v0 p0))).setCell ⟨w.heap.size + 1, 1, none⟩ (.int .i64 (minZ v1 p1))).setCell ⟨w.heap.size + 1, 2, none⟩ (.int .i64 (minZ v2 p2))).setCell ⟨w.heap.size + 1, 3, none⟩ (.int .i64 (minZ v3 p3)))) :=
            ⟨RR5.far4 (by omega), by rw [EQ.out]; exact RV5.set, vec_far hb5 hB _ _ _ _⟩
          go_wp2_with fail
          go_roundw
          case rel => exact ⟨k + 1, z + 1, by omega, by have := HZ.out; omega, by go_num, SM⟩
          case measure => simp [intOf]; omega
    · have hke : k = (cutN sites) := by omega
      have h2 : ¬ z < 4 := by omega
      clear hcut
      subst hke
      have r0 := AM.out.r.c0
      have r1 := AM.out.r.c1
      have r2 := AM.out.r.c2
      have r3 := AM.out.r.c3
      have f0 := AM.out.r.f0
      have f1 := AM.out.r.f1
      have f2 := AM.out.r.f2
      have f3 := AM.out.r.f3
      have x0 := AM.out.v.c0
      have x1 := AM.out.v.c1
      have x2 := AM.out.v.c2
      have x3 := AM.out.v.c3
      have RZ := AM.out.r.set (x0 := (stabS S (cutN sites)).v0) (x1 := (stabS S (cutN sites)).v1) (x2 := (stabS S (cutN sites)).v2) (x3 := (stabS S (cutN sites)).v3)
      have hbZ := vec_far AM.out.b (Nat.le_refl _) (stabS S (cutN sites)).v0 (stabS S (cutN sites)).v1 (stabS S (cutN sites)).v2 (stabS S (cutN sites)).v3
      have g0 := RZ.c0
      have g1 := RZ.c1
      have g2 := RZ.c2
      have g3 := RZ.c3
      clear hz
      go_wp2_with fail
      exact bodyPost_ret (v := .agg #[.int .i64 (stabS S (cutN sites)).v0, .int .i64 (stabS S (cutN sites)).v1, .int .i64 (stabS S (cutN sites)).v2, .int .i64 (stabS S (cutN sites)).v3]) (by simp [results, Tryz.results162, go_sem, g0, g1, g2, g3]) rfl ⟨rfl, hbZ⟩

set_option maxHeartbeats 4000000 in
theorem stable_lo {b : Nat} {lv : Value} {bm : Nat} {F : Nat → Prop} {S : SiteS} {log waits : List TxM} (sites : Int) (w : World) (h : PMem w b lv bm F S log waits) (h4 : ¬ 4 < sites) :
    Calls Tryz.prog 162 #[.pointer (some ⟨b, 0, none⟩), .int .i64 sites] w fun e w' =>
      e = .returned (.agg #[.int .i64 (stabS S (cutN sites)).v0, .int .i64 (stabS S (cutN sites)).v1, .int .i64 (stabS S (cutN sites)).v2, .int .i64 (stabS S (cutN sites)).v3]) ∧ Below w.heap.size w w' := by
  have RR := (Row4.new w 77 0 0 0 0).boxed (.cells #[.int .i64 S.a0, .int .i64 S.a1, .int .i64 S.a2, .int .i64 S.a3] 77)
  have RV := Row4.newest (w := w.alloc (.cells #[.int .i64 0, .int .i64 0, .int .i64 0, .int .i64 0] 77)) (T := 77) (n := w.heap.size + 1) (a0 := S.a0) (a1 := S.a1) (a2 := S.a2) (a3 := S.a3) (by simp)
  have hb := boxed (boxed (Below.refl _ w) (.cells #[.int .i64 0, .int .i64 0, .int .i64 0, .int .i64 0] 77)) (.cells #[.int .i64 S.a0, .int .i64 S.a1, .int .i64 S.a2, .int .i64 S.a3] 77)
  have HH : Hid (PMem w b lv bm F S log waits) := h
  have hlt := h.box.lt
  have k1 := h.box.cell 1 _ rfl
  have k2 := h.box.cell 2 _ rfl
  have k3 := h.box.cell 3 _ rfl
  have k4 := h.box.cell 4 _ rfl
  clear h
  go_enter Tryz.func162, Tryz.ntmps162
  go_wp2_with fail
  have M0 : Hid (StM w S 0 ((w.alloc (.cells #[.int .i64 0, .int .i64 0, .int .i64 0, .int .i64 0] 77)).alloc (.cells #[.int .i64 S.a0, .int .i64 S.a1, .int .i64 S.a2, .int .i64 S.a3] 77))) := ⟨RR, RV, hb⟩
  obtain ⟨W, hWW⟩ : ∃ W, (w.alloc (.cells #[.int .i64 0, .int .i64 0, .int .i64 0, .int .i64 0] 77)).alloc (.cells #[.int .i64 S.a0, .int .i64 S.a1, .int .i64 S.a2, .int .i64 S.a3] 77) = W := ⟨_, rfl⟩
  rw [hWW] at M0 ⊢
  clear hWW RR RV hb k1 k2 k3 k4 hlt
  go_loopw [13] (fun iv wr => ∃ (k : Nat) (z : Int), k ≤ (cutN sites) ∧ z = k ∧ iv = .int .i64 z ∧ Hid (StM w S k wr)) (fun i _ => 4 - (intOf i).toNat)
  case atStart => exact ⟨0, 0, by omega, rfl, rfl, M0⟩
  case round =>
    clear M0
    obtain ⟨k, z, hk, hz, rfl, AM⟩ := hrel
    have HZ : Hid (z = k) := hz
    have hcut : (cutN sites) = min 4 sites.toNat := rfl
    by_cases hlt : k < (cutN sites)
    · have h1 : z < sites := by omega
      have h2 : z < 4 := by omega
      have h5 : 0 ≤ z := by omega
      have h6 : z.toNat = k := by omega
      have hk4 : k < 4 := by omega
      clear hcut
      have B1 := HH.out.later AM.out.b
      have i0 := B1.box.cell 0 _ rfl
      by_cases hid : z = S.id
      · have e : Hid (stabS S (k + 1) = stabS S k) := by
          show stabS S (k + 1) = stabS S k
          have : (k : Int) = S.id := by omega
          simp [stabS, this]
        have AM2 : Hid (StM w S (k + 1) wr) := ⟨AM.out.r, by rw [e.out]; exact AM.out.v, AM.out.b⟩
        have hd : (z == S.id) = true := by simp [hid]
        clear hz B1
        go_wp2_with fail
        go_roundw
        case rel => exact ⟨k + 1, z + 1, by omega, by have := HZ.out; omega, by go_num, AM2⟩
        case measure => simp [intOf]; omega
      · have hd : (z == S.id) = false := by simp [hid]
        obtain ⟨o0, o1, o2, o3⟩ := othQ_cells (S := S) (lv := lv) (bm := bm) hk4
        have q0 := B1.box.cell _ _ o0
        have q1 := B1.box.cell _ _ o1
        have q2 := B1.box.cell _ _ o2
        have q3 := B1.box.cell _ _ o3
        obtain ⟨⟨v0, v1, v2, v3⟩, hv⟩ : ∃ v, stabS S k = v := ⟨_, rfl⟩
        obtain ⟨p0, hp0⟩ : ∃ x, S.oth (k * 4) = x := ⟨_, rfl⟩
        obtain ⟨p1, hp1⟩ : ∃ x, S.oth (k * 4 + 1) = x := ⟨_, rfl⟩
        obtain ⟨p2, hp2⟩ : ∃ x, S.oth (k * 4 + 2) = x := ⟨_, rfl⟩
        obtain ⟨p3, hp3⟩ : ∃ x, S.oth (k * 4 + 3) = x := ⟨_, rfl⟩
        have EQ : Hid (stabS S (k + 1) = ⟨minZ v0 p0, minZ v1 p1, minZ v2 p2, minZ v3 p3⟩) := by
          show stabS S (k + 1) = _
          have : ¬ (k : Int) = S.id := by omega
          simp [stabS, this, hv, hp0, hp1, hp2, hp3]
        rw [hp0] at q0
        rw [hp1] at q1
        rw [hp2] at q2
        rw [hp3] at q3
        have VV : Row4 wr (w.heap.size + 1) v0 v1 v2 v3 := by have := AM.out.v; rw [hv] at this; exact this
        have x0 := VV.c0
        have x1 := VV.c1
        have x2 := VV.c2
        have x3 := VV.c3
        have PU : Hid (Calls Tryz.prog 163 #[.agg #[.int .i64 v0, .int .i64 v1, .int .i64 v2, .int .i64 v3], .agg #[.int .i64 p0, .int .i64 p1, .int .i64 p2, .int .i64 p3]] wr.drew fun e w' => e = .returned (.agg #[.int .i64 (minZ v0 p0), .int .i64 (minZ v1 p1), .int .i64 (minZ v2 p2), .int .i64 (minZ v3 p3)]) ∧ Row4 w' w.heap.size 0 0 0 0 ∧ Row4 w' (w.heap.size + 1) v0 v1 v2 v3 ∧ Below w.heap.size w w') :=
          (min_any v0 v1 v2 v3 p0 p1 p2 p3 wr.drew).mono fun e w' ⟨he, hb'⟩ => ⟨he, Row4.later hb' AM.out.r.drew, Row4.later hb' VV.drew, behind AM.out.b.drew hb'⟩
        have hB : w.heap.size ≤ w.heap.size + 1 := by omega
        have hBB := AM.out.b.drew
        clear hz B1 o0 o1 o2 o3 hv hp0 hp1 hp2 hp3 VV AM hid
        go_wp2_with fail
        go_region_with
          (first | (go_at_call 163; with_reducible refine PU.out.mono ?_; rintro e w5 ⟨rfl, RR5, RV5, hb5⟩; have y0 := RV5.c0; have y1 := RV5.c1; have y2 := RV5.c2; have y3 := RV5.c3; have z0 := RV5.f0; have z1 := RV5.f1; have z2 := RV5.f2; have z3 := RV5.f3))
        all_goals
          have SM : Hid (StM w S (k + 1) ((((w5.setCell ⟨w.heap.size + 1, 0, none⟩ (.int .i64 (minZ v0 p0))).setCell ⟨w.heap.size + 1, 1, none⟩ (.int .i64 (minZ v1 p1))).setCell ⟨w.heap.size + 1, 2, none⟩ (.int .i64 (minZ v2 p2))).setCell ⟨w.heap.size + 1, 3, none⟩ (.int .i64 (minZ v3 p3)))) :=
            ⟨RR5.far4 (by omega), by rw [EQ.out]; exact RV5.set, vec_far hb5 hB _ _ _ _⟩
          go_wp2_with fail
          go_roundw
          case rel => exact ⟨k + 1, z + 1, by omega, by have := HZ.out; omega, by go_num, SM⟩
          case measure => simp [intOf]; omega
    · have hke : k = (cutN sites) := by omega
      have h1 : ¬ z < sites := by omega
      clear hcut
      subst hke
      have r0 := AM.out.r.c0
      have r1 := AM.out.r.c1
      have r2 := AM.out.r.c2
      have r3 := AM.out.r.c3
      have f0 := AM.out.r.f0
      have f1 := AM.out.r.f1
      have f2 := AM.out.r.f2
      have f3 := AM.out.r.f3
      have x0 := AM.out.v.c0
      have x1 := AM.out.v.c1
      have x2 := AM.out.v.c2
      have x3 := AM.out.v.c3
      have RZ := AM.out.r.set (x0 := (stabS S (cutN sites)).v0) (x1 := (stabS S (cutN sites)).v1) (x2 := (stabS S (cutN sites)).v2) (x3 := (stabS S (cutN sites)).v3)
      have hbZ := vec_far AM.out.b (Nat.le_refl _) (stabS S (cutN sites)).v0 (stabS S (cutN sites)).v1 (stabS S (cutN sites)).v2 (stabS S (cutN sites)).v3
      have g0 := RZ.c0
      have g1 := RZ.c1
      have g2 := RZ.c2
      have g3 := RZ.c3
      clear hz
      go_wp2_with fail
      exact bodyPost_ret (v := .agg #[.int .i64 (stabS S (cutN sites)).v0, .int .i64 (stabS S (cutN sites)).v1, .int .i64 (stabS S (cutN sites)).v2, .int .i64 (stabS S (cutN sites)).v3]) (by simp [results, Tryz.results162, go_sem, g0, g1, g2, g3]) rfl ⟨rfl, hbZ⟩

theorem stable_any {b : Nat} {lv : Value} {bm : Nat} {F : Nat → Prop} {S : SiteS} {log waits : List TxM} (sites : Int) (w : World) (h : PMem w b lv bm F S log waits) :
    Calls Tryz.prog 162 #[.pointer (some ⟨b, 0, none⟩), .int .i64 sites] w fun e w' =>
      e = .returned (.agg #[.int .i64 (stabS S (cutN sites)).v0, .int .i64 (stabS S (cutN sites)).v1, .int .i64 (stabS S (cutN sites)).v2, .int .i64 (stabS S (cutN sites)).v3]) ∧ Below w.heap.size w w' := by
  by_cases h4 : 4 < sites
  · exact stable_hi sites w h h4
  · exact stable_lo sites w h h4
end Go.Proofs.YtoanjdndmlffdaaGreatDoor
