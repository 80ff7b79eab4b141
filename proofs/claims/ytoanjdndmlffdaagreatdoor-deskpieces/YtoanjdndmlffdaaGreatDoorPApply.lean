import Derived.Test.YtoanjdndmlffdaaGreatDoorSiteE
namespace Go.Proofs.YtoanjdndmlffdaaGreatDoor
open Go.RowKit
theorem cmpS_turn (aw ac bw bc : Int) : cmpS aw ac bw bc < 0 ↔ 0 < cmpS bw bc aw ac := by
  rcases cmpS_cases aw ac bw bc with ⟨h, e⟩ | ⟨h, e⟩ | ⟨h, e⟩ <;> rcases cmpS_cases bw bc aw ac with ⟨g, f⟩ | ⟨g, f⟩ | ⟨g, f⟩ <;> rw [e, f] <;> constructor <;> intro k <;> omega
theorem later_is {lw lc tw tc x y : Int} (hx : (if 0 < cmpS tw tc lw lc then tw else lw) = x) (hy : (if 0 < cmpS tw tc lw lc then tc else lc) = y) (w : World) :
    Calls Tryz.prog 273 #[.agg #[.int .i64 lw, .int .i64 lc], .agg #[.int .i64 tw, .int .i64 tc]] w fun e w' => e = .returned (.agg #[.int .i64 x, .int .i64 y]) ∧ Below w.heap.size w w' := by
  subst hx hy
  by_cases h : 0 < cmpS tw tc lw lc
  · rw [if_pos h, if_pos h]
    exact later_b lw lc tw tc w ((cmpS_turn lw lc tw tc).2 h)
  · rw [if_neg h, if_neg h]
    exact later_a lw lc tw tc w (fun e => h ((cmpS_turn lw lc tw tc).1 e))
/-- while its writes are put -/
structure PaMid (w0 : World) (b : Nat) (lv : Value) (bm : Nat) (F : Nat → Prop) (S : SiteS) (log waits : List TxM) (m : TxM) (k : Nat) (F' : Nat → Prop) (wr : World) : Prop where
  mem : PMem wr b lv bm F' { S with l := putsT m.t (m.t.ws.take k) S.l } log waits
  box : RowL wr w0.heap.size (txC m)
  far : ¬ footQ b lv bm F' w0.heap.size
  foot : ∀ j, footQ b lv bm F' j → footQ b lv bm F j ∨ w0.heap.size ≤ j
  touch : Touch (footQ b lv bm F) w0 wr

theorem PaMid.later {w0 : World} {b : Nat} {lv : Value} {bm : Nat} {F : Nat → Prop} {S : SiteS} {log waits : List TxM} {m : TxM} {k : Nat} {F' : Nat → Prop} {wr w' : World} (h : PaMid w0 b lv bm F S log waits m k F' wr) (hb : Below wr.heap.size wr w') : PaMid w0 b lv bm F S log waits m k F' w' :=
  ⟨h.mem.later hb, h.box.later hb, h.far, h.foot, h.touch.trans (Touch.ofBelow hb)⟩
theorem PaMid.put {w0 : World} {b : Nat} {lv : Value} {bm : Nat} {F : Nat → Prop} {S : SiteS} {log waits : List TxM} {m : TxM} {k : Nat} {F' : Nat → Prop} {wr w' : World} (h : PaMid w0 b lv bm F S log waits m k F' wr) (hk : k < m.t.ws.length)
    (hp : QPost wr b 25 F' (putL (putsT m.t (m.t.ws.take k) S.l) (wrAt m.t.ws k).key (verOf m.t (wrAt m.t.ws k))) w') : ∃ F2, PaMid w0 b lv bm F S log waits m (k + 1) F2 w' := by
  obtain ⟨F2, mm, nf, ht⟩ := h.mem.store hp
  refine ⟨F2, by rw [putsT_snoc hk]; exact mm, h.box.kept (ht.block _ h.box.lt h.far) ht.size, fun hf => ?_, fun j hj => ?_, h.touch.more ht h.foot⟩
  · rcases nf _ hf with h1 | h1
    · exact h.far h1
    · have := h.box.lt
      omega
  · rcases nf j hj with h1 | h1
    · exact h.foot j h1
    · exact .inr (by have := h.touch.size; omega)

theorem PaMid.outside {w0 : World} {b : Nat} {lv : Value} {bm : Nat} {F : Nat → Prop} {S : SiteS} {log waits : List TxM} {m : TxM} {k : Nat} {F' : Nat → Prop} {wr w' : World} {xb : Nat} {xs : List Value} {l' : List Hd} (h : PaMid w0 b lv bm F S log waits m k F' wr)
    (hp : QPost wr b 25 F' l' w') (hx : RowL wr xb xs) (hn : ¬ footQ b lv bm F' xb) : ApB w0.heap.size xb (txC m) xs w' := by
  obtain ⟨F2, mm, nf, ht⟩ := h.mem.store hp
  exact ⟨h.box.kept (ht.block _ h.box.lt h.far) ht.size, hx.kept (ht.block _ hx.lt hn) ht.size⟩

/-- behind its writes -/
structure PaE (w0 : World) (b : Nat) (lv : Value) (bm : Nat) (F : Nat → Prop) (S : SiteS) (log waits : List TxM) (m : TxM) (F' : Nat → Prop) (wr : World) : Prop where
  mem : PMem wr b lv bm F' S log waits
  box : RowL wr w0.heap.size (txC m)
  far : ¬ footQ b lv bm F' w0.heap.size
  foot : ∀ j, footQ b lv bm F' j → footQ b lv bm F j ∨ w0.heap.size ≤ j
  touch : Touch (footQ b lv bm F) w0 wr
theorem PaE.later {w0 : World} {b : Nat} {lv : Value} {bm : Nat} {F : Nat → Prop} {S : SiteS} {log waits : List TxM} {m : TxM} {F' : Nat → Prop} {wr w' : World} (h : PaE w0 b lv bm F S log waits m F' wr) (hb : Below wr.heap.size wr w') : PaE w0 b lv bm F S log waits m F' w' :=
  ⟨h.mem.later hb, h.box.later hb, h.far, h.foot, h.touch.trans (Touch.ofBelow hb)⟩
theorem PaE.seq {w0 : World} {b : Nat} {lv : Value} {bm : Nat} {F : Nat → Prop} {S : SiteS} {log waits : List TxM} {m : TxM} {F' : Nat → Prop} {wr : World} (h : PaE w0 b lv bm F S log waits m F' wr) {s : Int} (x : Int) (h0 : 0 ≤ s) (h3 : s ≤ 3) :
    PaE w0 b lv bm F { S with a0 := setV0 s x S.a0, a1 := setV1 s x S.a1, a2 := setV2 s x S.a2, a3 := setV3 s x S.a3 } log waits m F' (wr.setCell ⟨b, 1 + s.toNat, none⟩ (.int .i64 x)) :=
  ⟨h.mem.seq x h0 h3, h.box.far _ _ (fun e => h.far (.inl e.symm)), h.far, h.foot, h.touch.trans (Touch.setCell wr ⟨b, 1 + s.toNat, none⟩ _ (.inl rfl))⟩
theorem PaE.last {w0 : World} {b : Nat} {lv : Value} {bm : Nat} {F : Nat → Prop} {S : SiteS} {log waits : List TxM} {m : TxM} {F' : Nat → Prop} {wr : World} (h : PaE w0 b lv bm F S log waits m F' wr) (x y : Int) :
    PaE w0 b lv bm F { S with lw := x, lc := y } log waits m F' ((wr.setCell ⟨b, 5, none⟩ (.int .i64 x)).setCell ⟨b, 6, none⟩ (.int .i64 y)) :=
  ⟨h.mem.last x y, (h.box.far _ _ (fun e => h.far (.inl e.symm))).far _ _ (fun e => h.far (.inl e.symm)), h.far, h.foot, (h.touch.trans (Touch.setCell wr ⟨b, 5, none⟩ _ (.inl rfl))).trans (Touch.setCell _ ⟨b, 6, none⟩ _ (.inl rfl))⟩
theorem PaE.append {w0 : World} {b : Nat} {lv : Value} {bm : Nat} {F : Nat → Prop} {S : SiteS} {log waits : List TxM} {m : TxM} {F' : Nat → Prop} {wr wE : World} (h : PaE w0 b lv bm F S log waits m F' wr) (hm : WrIn w0 m.wa m.wc m.t.ws ∧ ∀ k, m.blk k → ¬ footQ b lv bm F k) {g cap9 : Nat} (gr : wr.grownBy wE lv.ownBlock)
    (ownE : wE.ownsRow 0 102 9 (.slice (some ⟨g, 0, none⟩) (log.length + 1) cap9) (log.length + 1) (txsC log ++ txC m)) (eg : lv.ownBlock = some g ∨ wr.heap.size ≤ g) :
    ∃ lv' F2, PMem (wE.setCell ⟨b, 7, none⟩ (.slice (some ⟨g, 0, none⟩) (log.length + 1) cap9)) b lv' bm F2 S (log ++ [m]) waits ∧ (∀ k, footQ b lv' bm F2 k → footQ b lv bm F k ∨ w0.heap.size ≤ k) ∧ Touch (footQ b lv bm F) w0 (wE.setCell ⟨b, 7, none⟩ (.slice (some ⟨g, 0, none⟩) (log.length + 1) cap9)) := by
  obtain ⟨h1, h2, h3⟩ := h.mem.append m ⟨hm.1.kept (fun k e => h.touch.block k (hm.1.blk_lt k e) (hm.2 k e)), fun k e hf => by
    rcases h.foot k hf with h1 | h1
    · exact hm.2 k e h1
    · have := hm.1.blk_lt k e
      omega⟩ gr ownE eg
  refine ⟨_, _, h1, fun k hk => ?_, h.touch.more h3 h.foot⟩
  rcases h2 k hk with h4 | h4
  · exact h.foot k h4
  · exact .inr (by have := h.touch.size; omega)

set_option maxRecDepth 100000 in
set_option maxHeartbeats 8000000 in
theorem apply_any {b : Nat} {lv : Value} {bm : Nat} {F : Nat → Prop} {S : SiteS} {log waits : List TxM} (m : TxM) (w : World) (h : PMem w b lv bm F S log waits) (hm : WrIn w m.wa m.wc m.t.ws ∧ ∀ k, m.blk k → ¬ footQ b lv bm F k) (hs0 : 0 ≤ m.t.site) (hs1 : m.t.site ≤ 3) (hl : S.l.length + m.t.ws.length ≤ 1000) (hlog : log.length ≤ 1000) :
    Calls Tryz.prog 244 #[.pointer (some ⟨b, 0, none⟩), .agg #[.int .i64 m.t.site, .int .i64 m.t.seq, .int .i64 m.t.wall, .int .i64 m.t.count, .int .i64 m.t.d0, .int .i64 m.t.d1, .int .i64 m.t.d2, .int .i64 m.t.d3, .slice m.wa m.t.ws.length m.wc]] w fun e w' =>
      e = .returned (.tuple #[]) ∧ ∃ lv' F', PMem w' b lv' bm F' (applyS S m.t) (log ++ [m]) waits ∧ (∀ k, footQ b lv' bm F' k → footQ b lv bm F k ∨ w.heap.size ≤ k) ∧ Touch (footQ b lv bm F) w w' := by
  have hb := boxed (Below.refl _ w) (.cells #[.int .i64 m.t.site, .int .i64 m.t.seq, .int .i64 m.t.wall, .int .i64 m.t.count, .int .i64 m.t.d0, .int .i64 m.t.d1, .int .i64 m.t.d2, .int .i64 m.t.d3, .slice m.wa m.t.ws.length m.wc] 102)
  have RT := RowL.new (w := w) (T := 102) (txC m) rfl
  change RowL (w.alloc (.cells #[.int .i64 m.t.site, .int .i64 m.t.seq, .int .i64 m.t.wall, .int .i64 m.t.count, .int .i64 m.t.d0, .int .i64 m.t.d1, .int .i64 m.t.d2, .int .i64 m.t.d3, .slice m.wa m.t.ws.length m.wc] 102)) w.heap.size (txC m) at RT
  have M0 : PaMid w b lv bm F S log waits m 0 F (w.alloc (.cells #[.int .i64 m.t.site, .int .i64 m.t.seq, .int .i64 m.t.wall, .int .i64 m.t.count, .int .i64 m.t.d0, .int .i64 m.t.d1, .int .i64 m.t.d2, .int .i64 m.t.d3, .slice m.wa m.t.ws.length m.wc] 102)) :=
    ⟨by simpa [putsT] using h.later hb, RT, fun e => Nat.lt_irrefl _ (h.lt _ e), fun j hj => .inl hj, Touch.ofBelow hb⟩
  have HM : Hid (WrIn w m.wa m.wc m.t.ws ∧ ∀ k, m.blk k → ¬ footQ b lv bm F k) := hm
  have hc1 := hm.1.len
  have hc2 := hm.1.cap
  clear hm hb RT
  go_enter Tryz.func244, Tryz.ntmps244
  go_wp2_with fail
  obtain ⟨W, hWW⟩ : ∃ W, w.alloc (.cells #[.int .i64 m.t.site, .int .i64 m.t.seq, .int .i64 m.t.wall, .int .i64 m.t.count, .int .i64 m.t.d0, .int .i64 m.t.d1, .int .i64 m.t.d2, .int .i64 m.t.d3, .slice m.wa m.t.ws.length m.wc] 102) = W := ⟨_, rfl⟩
  rw [hWW] at M0 ⊢
  clear hWW
  go_loopw [9] (fun iv wr => ∃ (k : Nat) (z : Int) (F' : Nat → Prop), k ≤ m.t.ws.length ∧ z = k ∧ iv = .int .i64 z ∧ Hid (PaMid w b lv bm F S log waits m k F' wr)) (fun i _ => m.t.ws.length - (intOf i).toNat)
  case atStart => exact ⟨0, 0, F, by omega, rfl, rfl, M0⟩
  case round =>
    clear M0
    obtain ⟨k, z, F', hk, hz, rfl, AM⟩ := hrel
    have HZ : Hid (z = k) := hz
    by_cases hlt : k < m.t.ws.length
    · have h1 : z < (m.t.ws.length : Int) := by omega
      have h2 : z.toNat = k := by omega
      have h3 : 0 ≤ z := by omega
      clear hz
      obtain ⟨wb, off, hwa, hcc⟩ : ∃ wb off, m.wa = some ⟨wb, off, none⟩ ∧ WrCells w wb off m.t.ws := by
        rcases HM.out.1.held with h0 | h0
        · rw [h0] at hlt; simp at hlt
        · exact h0
      have hblk : m.blk wb := ⟨fun e => by rw [e] at hlt; simp at hlt, off, hwa⟩
      have hwl := HM.out.1.blk_lt wb hblk
      have ew := AM.out.touch.block wb hwl (HM.out.2 wb hblk)
      obtain ⟨⟨xk, xd, xg⟩, hx⟩ : ∃ x, wrAt m.t.ws k = x := ⟨_, rfl⟩
      have hc := hcc k hlt
      rw [hx] at hc
      have x0 : wr.cell? ⟨wb, off + k * 3, none⟩ = some (.int .i64 xk) := by rw [World.cell?_of_block (w := w) ew]; exact hc.1
      have x1 : wr.cell? ⟨wb, off + k * 3 + 1, none⟩ = some (.string xd) := by rw [World.cell?_of_block (w := w) ew]; exact hc.2.1
      have x2 : wr.cell? ⟨wb, off + k * 3 + 2, none⟩ = some (.bool xg) := by rw [World.cell?_of_block (w := w) ew]; exact hc.2.2
      have HX : Hid (wrAt m.t.ws k = ⟨xk, xd, xg⟩) := hx
      have HWA : Hid (m.wa = some ⟨wb, off, none⟩) := hwa
      rw [hwa]
      clear hcc hblk ew hc hx hwa hwl
      have hbx := boxed (Below.refl _ wr) (.cells #[.int .i64 xk, .string xd, .bool xg] 100)
      have AM1 := (AM.out.later hbx).later (Below.refl _ (wr.alloc (.cells #[.int .i64 xk, .string xd, .bool xg] 100))).drew
      have RX := (RowL.new (w := wr) (T := 100) [.int .i64 xk, .string xd, .bool xg] rfl).drew
      change RowL (wr.alloc (.cells #[.int .i64 xk, .string xd, .bool xg] 100)).drew wr.heap.size [.int .i64 xk, .string xd, .bool xg] at RX
      have SB : ApB w.heap.size wr.heap.size (txC m) [.int .i64 xk, .string xd, .bool xg] (wr.alloc (.cells #[.int .i64 xk, .string xd, .bool xg] 100)).drew := ⟨AM1.box, RX⟩
      have hll : (putsT m.t (m.t.ws.take k) S.l).length ≤ 1000 := by
        have := putsT_length m.t (m.t.ws.take k) S.l
        rw [List.length_take] at this
        omega
      have PU : Hid (Calls Tryz.prog 272 #[.pointer (some ⟨b, 25, none⟩), .int .i64 xk, .agg #[.int .i64 m.t.wall, .int .i64 m.t.count, .int .i64 m.t.site, .int .i64 m.t.seq, .string xd, .bool xg]] (wr.alloc (.cells #[.int .i64 xk, .string xd, .bool xg] 100)).drew fun e w' => e = .returned (errV (putE (putsT m.t (m.t.ws.take k) S.l) xk ⟨m.t.wall, m.t.count, m.t.site, m.t.seq, xd, xg⟩)) ∧ ApB w.heap.size wr.heap.size (txC m) [.int .i64 xk, .string xd, .bool xg] w' ∧ ∃ F2, Hid (PaMid w b lv bm F S log waits m (k + 1) F2 w')) :=
        (qPut_any xk ⟨m.t.wall, m.t.count, m.t.site, m.t.seq, xd, xg⟩ _ AM1.mem.st hll).mono fun e w' ⟨he, hp⟩ => ⟨he, AM1.outside hp RX (fun hf => Nat.lt_irrefl _ (AM.out.mem.lt _ hf)), AM1.put hlt (by rw [HX.out]; exact hp)⟩
      have T0 := fun (w' : World) (h : ApB w.heap.size wr.heap.size (txC m) [.int .i64 xk, .string xd, .bool xg] w') => h.t.cell 0 _ rfl
      have T1 := fun (w' : World) (h : ApB w.heap.size wr.heap.size (txC m) [.int .i64 xk, .string xd, .bool xg] w') => h.t.cell 1 _ rfl
      have T2 := fun (w' : World) (h : ApB w.heap.size wr.heap.size (txC m) [.int .i64 xk, .string xd, .bool xg] w') => h.t.cell 2 _ rfl
      have T3 := fun (w' : World) (h : ApB w.heap.size wr.heap.size (txC m) [.int .i64 xk, .string xd, .bool xg] w') => h.t.cell 3 _ rfl
      have X0 := fun (w' : World) (h : ApB w.heap.size wr.heap.size (txC m) [.int .i64 xk, .string xd, .bool xg] w') => h.x.cell 0 _ rfl
      have X1 := fun (w' : World) (h : ApB w.heap.size wr.heap.size (txC m) [.int .i64 xk, .string xd, .bool xg] w') => h.x.cell 1 _ rfl
      have X2 := fun (w' : World) (h : ApB w.heap.size wr.heap.size (txC m) [.int .i64 xk, .string xd, .bool xg] w') => h.x.cell 2 _ rfl
      clear AM1 RX hbx hll AM
      go_wp2_with fail
      go_region_held3 (fun w' => ApB w.heap.size wr.heap.size (txC m) [.int .i64 xk, .string xd, .bool xg] w') (with_reducible assumption)
        (first | (go_at_call 272; with_reducible refine PU.out.mono ?_; rintro e w5 ⟨rfl, SB5, F2, AM3⟩))
      all_goals
        go_wp2_with fail
        go_roundw
        case rel => exact ⟨k + 1, z + 1, F2, by omega, by have := HZ.out; omega, by go_num, AM3⟩
        case measure => simp [intOf]; have := HZ.out; omega
    · have h4 : ¬ z < (m.t.ws.length : Int) := by omega
      obtain rfl : k = m.t.ws.length := by omega
      clear hz
      have AE : Hid (PaE w b lv bm F { S with l := putsT m.t m.t.ws S.l } log waits m F' wr) := by
        have AM' := AM.out
        refine ⟨?_, AM'.box, AM'.far, AM'.foot, AM'.touch⟩
        have := AM'.mem
        rw [List.take_length] at this
        exact this
      have BX := AE.out.box
      have t0 := BX.cell 0 _ rfl
      have t1 := BX.cell 1 _ rfl
      have s1 := AE.out.mem.box.free (1 + m.t.site.toNat) (by simp [psiteC]; omega)
      obtain ⟨ov, s0⟩ : ∃ v, wr.cell? ⟨b, 1 + m.t.site.toNat, none⟩ = some v := ⟨_, AE.out.mem.box.cell (1 + m.t.site.toNat) _ (List.getElem?_eq_getElem (by simp [psiteC]; omega))⟩
      go_wp2_with fail
      go_region
      have A1 : Hid (PaE w b lv bm F { S with l := putsT m.t m.t.ws S.l, a0 := setV0 m.t.site m.t.seq S.a0, a1 := setV1 m.t.site m.t.seq S.a1, a2 := setV2 m.t.site m.t.seq S.a2, a3 := setV3 m.t.site m.t.seq S.a3 } log waits m F' (wr.setCell ⟨b, 1 + m.t.site.toNat, none⟩ (.int .i64 m.t.seq)).drew) := (AE.out.seq m.t.seq hs0 hs1).later (Below.refl _ _).drew
      obtain ⟨W1, hW1⟩ : ∃ W1, (wr.setCell ⟨b, 1 + m.t.site.toNat, none⟩ (.int .i64 m.t.seq)).drew = W1 := ⟨_, rfl⟩
      rw [hW1] at A1 ⊢
      clear hW1 AE AM BX t0 t1 s0 s1
      have t2 := A1.out.box.cell 2 _ rfl
      have t3 := A1.out.box.cell 3 _ rfl
      have l5 := A1.out.mem.box.cell 5 _ rfl
      have l6 := A1.out.mem.box.cell 6 _ rfl
      obtain ⟨lwn, hlw⟩ : ∃ x, (if 0 < cmpS m.t.wall m.t.count S.lw S.lc then m.t.wall else S.lw) = x := ⟨_, rfl⟩
      obtain ⟨lcn, hlc⟩ : ∃ x, (if 0 < cmpS m.t.wall m.t.count S.lw S.lc then m.t.count else S.lc) = x := ⟨_, rfl⟩
      have HLW : Hid ((if 0 < cmpS m.t.wall m.t.count S.lw S.lc then m.t.wall else S.lw) = lwn ∧ (if 0 < cmpS m.t.wall m.t.count S.lw S.lc then m.t.count else S.lc) = lcn) := ⟨hlw, hlc⟩
      have PU : Hid (Calls Tryz.prog 273 #[.agg #[.int .i64 S.lw, .int .i64 S.lc], .agg #[.int .i64 m.t.wall, .int .i64 m.t.count]] W1.drew fun e w' => e = .returned (.agg #[.int .i64 lwn, .int .i64 lcn]) ∧ Hid (PaE w b lv bm F { S with l := putsT m.t m.t.ws S.l, a0 := setV0 m.t.site m.t.seq S.a0, a1 := setV1 m.t.site m.t.seq S.a1, a2 := setV2 m.t.site m.t.seq S.a2, a3 := setV3 m.t.site m.t.seq S.a3 } log waits m F' w')) :=
        (later_is hlw hlc W1.drew).mono fun e w' ⟨he, hb'⟩ => ⟨he, A1.out.later (behind (Below.refl _ W1).drew hb')⟩
      clear hlw hlc A1
      go_wp2_with fail
      go_region_with
        (first | (go_at_call 273; with_reducible refine PU.out.mono ?_; rintro e w5 ⟨rfl, A2⟩; have k5 := A2.out.mem.box.cell 5 _ rfl; have k6 := A2.out.mem.box.cell 6 _ rfl; have q5 := A2.out.mem.box.free 5 (by simp [psiteC]); have q6 := A2.out.mem.box.free 6 (by simp [psiteC])))
      all_goals
        have A3 : Hid (PaE w b lv bm F { S with l := putsT m.t m.t.ws S.l, a0 := setV0 m.t.site m.t.seq S.a0, a1 := setV1 m.t.site m.t.seq S.a1, a2 := setV2 m.t.site m.t.seq S.a2, a3 := setV3 m.t.site m.t.seq S.a3, lw := lwn, lc := lcn } log waits m F' ((w5.setCell ⟨b, 5, none⟩ (.int .i64 lwn)).setCell ⟨b, 6, none⟩ (.int .i64 lcn))) := A2.out.last lwn lcn
        obtain ⟨w6, hw6⟩ : ∃ w6, (w5.setCell ⟨b, 5, none⟩ (.int .i64 lwn)).setCell ⟨b, 6, none⟩ (.int .i64 lcn) = w6 := ⟨_, rfl⟩
        rw [hw6] at A3 ⊢
        clear hw6 A2 k5 k6 q5 q6 t2 t3 l5 l6
        have FIN9 : ∀ (S9 : SiteS) (w6 : World), Hid (PaE w b lv bm F S9 log waits m F' w6) → { S9 with log := S.log ++ [m.t] } = applyS S m.t → ∀ (g cap9 : Nat) (wE : World), (w6.drew.alloc (.cells #[.int .i64 m.t.site, .int .i64 m.t.seq, .int .i64 m.t.wall, .int .i64 m.t.count, .int .i64 m.t.d0, .int .i64 m.t.d1, .int .i64 m.t.d2, .int .i64 m.t.d3, .slice m.wa m.t.ws.length m.wc] 102)).grownBy wE lv.ownBlock →
            wE.ownsRow 0 102 9 (.slice (some ⟨g, 0, none⟩) (log.length + 1) cap9) (log.length + 1) (txsC log ++ txC m) → (lv.ownBlock = some g ∨ g = (w6.drew.alloc (.cells #[.int .i64 m.t.site, .int .i64 m.t.seq, .int .i64 m.t.wall, .int .i64 m.t.count, .int .i64 m.t.d0, .int .i64 m.t.d1, .int .i64 m.t.d2, .int .i64 m.t.d3, .slice m.wa m.t.ws.length m.wc] 102)).heap.size) →
            Hid (∃ lv' F2, PMem (wE.setCell ⟨b, 7, none⟩ (.slice (some ⟨g, 0, none⟩) (log.length + 1) cap9)) b lv' bm F2 (applyS S m.t) (log ++ [m]) waits ∧ (∀ k, footQ b lv' bm F2 k → footQ b lv bm F k ∨ w.heap.size ≤ k) ∧ Touch (footQ b lv bm F) w (wE.setCell ⟨b, 7, none⟩ (.slice (some ⟨g, 0, none⟩) (log.length + 1) cap9))) := fun S9 w6 A e g cap9 wE gr ow eg => by
          have A' := A.out.later (boxed ((Below.refl _ w6).drew) (.cells #[.int .i64 m.t.site, .int .i64 m.t.seq, .int .i64 m.t.wall, .int .i64 m.t.count, .int .i64 m.t.d0, .int .i64 m.t.d1, .int .i64 m.t.d2, .int .i64 m.t.d3, .slice m.wa m.t.ws.length m.wc] 102))
          obtain ⟨lv', F2, h1, h2, h3⟩ := A'.append HM.out gr ow (eg.imp id (fun e => Nat.le_of_eq e.symm))
          rw [← e]
          exact ⟨lv', F2, ⟨h1.box, h1.st, h1.rlog, h1.map, h1.nl, h1.nm, h1.lm, h1.lf, h1.mf, h1.hold⟩, h2, h3⟩
        obtain ⟨i0, hi, hz0, hz1, hz2⟩ := info_parts txInfo
        have AP := FIN9 _ w6 A3 (by simp only [applyS]; obtain ⟨e1, e2⟩ := HLW.out; rw [e1, e2])
        have t0 := A3.out.box.cell 0 _ rfl
        have t1 := A3.out.box.cell 1 _ rfl
        have t2 := A3.out.box.cell 2 _ rfl
        have t3 := A3.out.box.cell 3 _ rfl
        have t4 := A3.out.box.cell 4 _ rfl
        have t5 := A3.out.box.cell 5 _ rfl
        have t6 := A3.out.box.cell 6 _ rfl
        have t7 := A3.out.box.cell 7 _ rfl
        have t8 := A3.out.box.cell 8 _ rfl
        have s7 := A3.out.mem.box.cell 7 _ rfl
        have f7 := A3.out.mem.box.free 7 (by simp [psiteC])
        have own6 : w6.drew.ownsRow 0 102 9 lv log.length (txsC log) := A3.out.mem.rlog
        have hsb := A3.out.mem.box.lt
        have nb : some b ≠ lv.ownBlock := fun e => A3.out.mem.nl e.symm
        have bx : RowL w6 b (psiteC _ lv bm) := A3.out.mem.box
        clear FIN9
        go_wp2_with fail
        go_region_law (refine step_append_lies _ rfl (.tmp 53) (.tmp 55) 80 rfl 0 102 i0 (.agg #[.int .i64 0, .int .i64 0, .int .i64 0, .int .i64 0, .int .i64 0, .int .i64 0, .int .i64 0, .int .i64 0, .slice none 0 0]) 9 88 Tryz.underlying80 hi hz0 hz1 hz2 rfl (by decide) lv log.length (txsC log) (by simp [Act.eval]) (own6.alloc _) ⟨w6.heap.size, 0, none⟩ 1 1 (txC m) (by simp [Act.eval]) rfl (World.news_of_block (heap_alloc_new w6.drew (.cells #[.int .i64 m.t.site, .int .i64 m.t.seq, .int .i64 m.t.wall, .int .i64 m.t.count, .int .i64 m.t.d0, .int .i64 m.t.d1, .int .i64 m.t.d2, .int .i64 m.t.d3, .slice m.wa m.t.ws.length m.wc] 102))) (txC_one m) (by decide) (by simp only [maxLen]; omega) (by omega) (by simp) _ rfl ?_
                       intro g cap9 wE ownE grE egE ltE
                       have FIN := AP g cap9 wE grE ownE egE
                       have BE := ((bx.drew).boxed (.cells #[.int .i64 m.t.site, .int .i64 m.t.seq, .int .i64 m.t.wall, .int .i64 m.t.count, .int .i64 m.t.d0, .int .i64 m.t.d1, .int .i64 m.t.d2, .int .i64 m.t.d3, .slice m.wa m.t.ws.length m.wc] 102)).grown grE nb
                       have s0E := BE.cell 7 _ rfl
                       have s1E := BE.free 7 (by simp [psiteC]))
        all_goals
          go_wp2_with fail
          go_end0
          exact ⟨rfl, FIN.out⟩
end Go.Proofs.YtoanjdndmlffdaaGreatDoor
