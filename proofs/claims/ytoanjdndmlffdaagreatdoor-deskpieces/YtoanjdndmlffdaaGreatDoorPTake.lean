import Derived.Test.YtoanjdndmlffdaaGreatDoorPGo
namespace Go.Proofs.YtoanjdndmlffdaaGreatDoor
open Go.RowKit Go.Maps
/-- the error of a Take -/
def takeE (S : SiteS) (t : TxP) : Int :=
  if okT t = false then 1 else if t.site = S.id then 1 else if t.seq ≤ depOf t.site S.a0 S.a1 S.a2 S.a3 then 9 else if S.waits.any (fun x => isNum x t) = true then 9 else if 200 ≤ S.log.length then 12 else if 40 ≤ S.waits.length ∧ readyS S t = false then 12 else 0
/-- what comes of a Take -/
def TakesTo (S : SiteS) (t : TxP) (S' : SiteS) : Prop := (takeE S t ≠ 0 ∧ S' = S) ∨ (takeE S t = 0 ∧ Goes { S with waits := S.waits ++ [t] } S')
theorem TakesTo.det {S A B : SiteS} {t : TxP} (h : TakesTo S t A) (k : TakesTo S t B) : A = B := by
  rcases h with ⟨h1, rfl⟩ | ⟨h1, h2⟩
  · rcases k with ⟨_, rfl⟩ | ⟨k1, _⟩
    · rfl
    · exact absurd k1 h1
  · rcases k with ⟨k1, _⟩ | ⟨_, k2⟩
    · exact absurd h1 k1
    · exact h2.det k2
theorem takeE_zero {S : SiteS} {t : TxP} (h : takeE S t = 0) : okT t = true ∧ t.site ≠ S.id ∧ ¬ t.seq ≤ depOf t.site S.a0 S.a1 S.a2 S.a3 ∧ (∀ x ∈ S.waits, isNum x t = false) ∧ S.log.length < 200 := by
  unfold takeE at h
  split at h
  · cases h
  · rename_i h1
    split at h
    · cases h
    · rename_i h2
      split at h
      · cases h
      · rename_i h3
        split at h
        · cases h
        · rename_i h4
          split at h
          · cases h
          · rename_i h5
            refine ⟨by simpa using h1, h2, h3, fun x hx => ?_, by omega⟩
            cases hi : isNum x t with
            | false => rfl
            | true => exact absurd (List.any_eq_true.2 ⟨x, hx, hi⟩) h4
theorem TakesTo.inv {S S' : SiteS} {t : TxP} (h : TakesTo S t S') (hI : InvS S) : InvS S' := by
  rcases h with ⟨_, rfl⟩ | ⟨h1, h2⟩
  · exact hI
  · obtain ⟨p1, p2, _, p4, _⟩ := takeE_zero h1
    exact h2.inv (hI.wait p1 p2 p4)

/-- the box of a transaction, and where the map is -/
structure TkB (tb b bm : Nat) (ts : List Value) (w : World) : Prop where
  t : RowL w tb ts
  m : w.cell? ⟨b, 8, none⟩ = some (.map (some bm))
theorem look_any {l : List TxM} {L : List TxP} {t : TxP} {m : TxM} {v : Bool} (he : l.map (·.t) = L) (hL : LookIs l t.site t.seq m v) : L.any (fun x => isNum x t) = v := by
  cases v with
  | true =>
    obtain ⟨h1, h2, h3⟩ := hL.yes rfl
    rw [← he]
    exact List.any_eq_true.2 ⟨m.t, List.mem_map.2 ⟨m, h1, rfl⟩, isNum_iff.2 ⟨h2, h3⟩⟩
  | false =>
    obtain ⟨_, h1⟩ := hL.no rfl
    rw [← he, List.any_eq_false]
    intro x hx
    obtain ⟨y, hy, rfl⟩ := List.mem_map.1 hx
    exact fun e => h1 y hy (isNum_iff.1 e)

theorem put_ps {w5 w6 w7 : World} {b : Nat} {lv : Value} {bm : Nat} {F G : Nat → Prop} {S : SiteS} {log waits : List TxM} (PM : PMem w5 b lv bm F S log waits) (hl : log.map (·.t) = S.log) (hw : waits.map (·.t) = S.waits) (hG : ∀ k, G k ↔ (footQ b lv bm F k ∨ ∃ m ∈ log ++ waits, m.blk k))
    {m : TxM} (hb6 : Below w5.heap.size w5 w6) (WI : WrIn w6 m.wa m.wc m.t.ws) (hk : ∀ k, m.blk k → w5.heap.size ≤ k) (M7 : PMap w7 bm (waits ++ [m])) (gr : w6.grownBy w7 (some bm)) :
    ∃ G7, PS w7 b G7 { S with waits := S.waits ++ [m.t] } ∧ (∀ k, G7 k → G k ∨ w5.heap.size ≤ k) ∧ Touch G w5 w7 := by
  have PM6 := PM.later hb6
  have PM7 : PMem w7 b lv bm F { S with waits := S.waits ++ [m.t] } log (waits ++ [m]) := (PM6.turn gr M7 (fun x hx => by
    rcases List.mem_append.1 hx with h1 | h1
    · exact .inl h1
    · rw [List.mem_singleton.1 h1]
      refine .inr ⟨WI, fun k e hf => ?_⟩
      have := hk k e
      have := PM.lt k hf
      omega)).waits _
  refine ⟨_, ⟨lv, bm, F, log, waits ++ [m], PM7, hl, by rw [List.map_append, hw]; rfl, fun k => Iff.rfl⟩, fun k hk' => ?_, ?_⟩
  · rcases hk' with h1 | ⟨x, hx, h1⟩
    · exact .inl ((hG k).2 (.inl h1))
    · rcases List.mem_append.1 hx with h2 | h2
      · exact .inl ((hG k).2 (.inr ⟨x, List.mem_append.2 (.inl h2), h1⟩))
      · rcases List.mem_append.1 h2 with h3 | h3
        · exact .inl ((hG k).2 (.inr ⟨x, List.mem_append.2 (.inr h3), h1⟩))
        · rw [List.mem_singleton.1 h3] at h1
          exact .inr (hk k h1)
  · exact (Touch.ofBelow hb6).trans (Touch.grown gr (fun k e => (hG k).2 (.inl (.inr (.inr (.inl (by injection e with e; exact e.symm)))))))
set_option maxRecDepth 100000 in
set_option maxHeartbeats 16000000 in
theorem take_site {b : Nat} {G : Nat → Prop} {S : SiteS} (m : TxM) (w : World) (h : PS w b G S) (hI : InvS S) (hn : S.waits.length ≤ 990) (hW : WrIn w m.wa m.wc m.t.ws) :
    Calls Tryz.prog 210 #[.pointer (some ⟨b, 0, none⟩), txV m] w fun e w' => e = .returned (errV (takeE S m.t)) ∧ ∃ S', TakesTo S m.t S' ∧ PPo w b G S' w' := by
  obtain ⟨⟨site, seq, wall, count, d0, d1, d2, d3, ws⟩, a, cap⟩ := m
  simp only at hW ⊢
  have hb := boxed (Below.refl _ w) (.cells #[.int .i64 site, .int .i64 seq, .int .i64 wall, .int .i64 count, .int .i64 d0, .int .i64 d1, .int .i64 d2, .int .i64 d3, .slice a ws.length cap] 102)
  have RB := RowL.new (w := w) (T := 102) [.int .i64 site, .int .i64 seq, .int .i64 wall, .int .i64 count, .int .i64 d0, .int .i64 d1, .int .i64 d2, .int .i64 d3, .slice a ws.length cap] rfl
  change RowL (w.alloc (.cells #[.int .i64 site, .int .i64 seq, .int .i64 wall, .int .i64 count, .int .i64 d0, .int .i64 d1, .int .i64 d2, .int .i64 d3, .slice a ws.length cap] 102)) w.heap.size [.int .i64 site, .int .i64 seq, .int .i64 wall, .int .i64 count, .int .i64 d0, .int .i64 d1, .int .i64 d2, .int .i64 d3, .slice a ws.length cap] at RB
  have hne := Later.one
  have P1 := h.later hb
  have W1 := hW.later hb
  have nG : ¬ G w.heap.size := fun e => Nat.lt_irrefl _ (h.lt _ e)
  have NO : ∀ w9 ev, takeE S ⟨site, seq, wall, count, d0, d1, d2, d3, ws⟩ = ev → ev ≠ 0 → Below w.heap.size w w9 → Hid ((.returned (errV ev) : Ending) = .returned (errV (takeE S ⟨site, seq, wall, count, d0, d1, d2, d3, ws⟩)) ∧ ∃ S', TakesTo S ⟨site, seq, wall, count, d0, d1, d2, d3, ws⟩ S' ∧ PPo w b G S' w9) := fun w9 ev e1 e2 e3 => by
    show _ ∧ _
    rw [e1]
    exact ⟨rfl, S, .inl ⟨by rw [e1]; exact e2, rfl⟩, PPo.same h e3⟩
  have GO0 : Hid (∀ w9 G9 S', (∀ k, G9 k → G k ∨ w.heap.size ≤ k) → Touch G w w9 → ∀ w10, PPo w9 b G9 S' w10 → PPo w b G S' w10) := fun w9 G9 S' h1 h2 w10 h3 => PPo.trans h1 h2 h3
  clear h hW
  show Calls Tryz.prog 210 #[.pointer (some ⟨b, 0, none⟩), .agg #[.int .i64 site, .int .i64 seq, .int .i64 wall, .int .i64 count, .int .i64 d0, .int .i64 d1, .int .i64 d2, .int .i64 d3, .slice a ws.length cap]] w _
  obtain ⟨lv, bm, F, log, waits, PM, hl, hw, hG⟩ := id P1
  have k0 := Later.cell (PM.box.cell 0 _ rfl)
  have t0 := Later.cell (RB.cell 0 _ rfl)
  have t1 := Later.cell (RB.cell 1 _ rfl)
  have t2 := Later.cell (RB.cell 2 _ rfl)
  have t3 := Later.cell (RB.cell 3 _ rfl)
  have t4 := Later.cell (RB.cell 4 _ rfl)
  have t5 := Later.cell (RB.cell 5 _ rfl)
  have t6 := Later.cell (RB.cell 6 _ rfl)
  have t7 := Later.cell (RB.cell 7 _ rfl)
  have t8 := Later.cell (RB.cell 8 _ rfl)
  cases hok : okT ⟨site, seq, wall, count, d0, d1, d2, d3, ws⟩
  · have HK : Hid (okTx site seq wall count d0 d1 d2 d3 ws = false) := hok
    have E : takeE S ⟨site, seq, wall, count, d0, d1, d2, d3, ws⟩ = 1 := by unfold takeE; rw [if_pos hok]
    have FIN := fun w9 hb9 => NO w9 1 E (by decide) hb9
    clear E NO hok PM hl hw hG P1 hI
    go_enter Tryz.func210, Tryz.ntmps210
    go_wp2_with fail
    refine wp_region_later (by kernel_rfl) (by kernel_rfl) ?_
    repeat (go_big_quiet_step (first | rfl | (go_at_call 252; with_reducible exact calls_later (rightTx_is (W1.later (Later.below _)) HK.out))))
    refine wpQuiet_nil ?_
    rintro w2 ⟨⟨_, hb2⟩, rfl⟩
    go_wp2_with fail
    go_ret
    exact (FIN _ (behind hb hb2)).out
  · have HK : Hid (okTx site seq wall count d0 d1 d2 d3 ws = true) := hok
    obtain ⟨⟨s0, s3⟩, ⟨sq1, sq2⟩, sw⟩ := okT_parts hok
    simp only at s0 s3 sq1 sq2 sw
    have HOK : Hid (okT ⟨site, seq, wall, count, d0, d1, d2, d3, ws⟩ = true) := hok
    clear hok
    by_cases hid : site = S.id
    · have E : takeE S ⟨site, seq, wall, count, d0, d1, d2, d3, ws⟩ = 1 := by unfold takeE; rw [if_neg (by rw [HOK.out]; decide), if_pos hid]
      have FIN := fun w9 hb9 => NO w9 1 E (by decide) hb9
      have i1 : (site == S.id) = true := by simp [hid]
      have i2 : decide (site = S.id) = true := by simp [hid]
      clear E NO PM hl hw hG P1 hI hid
      go_enter Tryz.func210, Tryz.ntmps210
      go_wp2_with fail
      refine wp_region_later (by kernel_rfl) (by kernel_rfl) ?_
      repeat (go_big_quiet_step (first | rfl | (go_at_call 252; with_reducible exact calls_later (rightTx_is (W1.later (Later.below _)) HK.out))))
      refine wpQuiet_nil ?_
      rintro w2 ⟨⟨_, hb2⟩, rfl⟩
      go_wp2_with fail
      go_ret
      exact (FIN _ (behind hb hb2)).out
    · have i1 : (site == S.id) = false := by simp [hid]
      have i2 : decide (site = S.id) = false := by simp [hid]
      have HID : Hid (¬ site = S.id) := hid
      have HPM : Hid (PMem (w.alloc (.cells #[.int .i64 site, .int .i64 seq, .int .i64 wall, .int .i64 count, .int .i64 d0, .int .i64 d1, .int .i64 d2, .int .i64 d3, .slice a ws.length cap] 102)) b lv bm F S log waits ∧ log.map (·.t) = S.log ∧ waits.map (·.t) = S.waits ∧ ∀ k, G k ↔ (footQ b lv bm F k ∨ ∃ m ∈ log ++ waits, m.blk k)) := ⟨PM, hl, hw, hG⟩
      have HI : Hid (InvS S) := hI
      have HNO : Hid (∀ w9 ev, takeE S ⟨site, seq, wall, count, d0, d1, d2, d3, ws⟩ = ev → ev ≠ 0 → Below w.heap.size w w9 → Hid ((.returned (errV ev) : Ending) = .returned (errV (takeE S ⟨site, seq, wall, count, d0, d1, d2, d3, ws⟩)) ∧ ∃ S', TakesTo S ⟨site, seq, wall, count, d0, d1, d2, d3, ws⟩ S' ∧ PPo w b G S' w9)) := NO
      clear NO PM hl hw hG P1 hI hid
      go_enter Tryz.func210, Tryz.ntmps210
      go_wp2_with fail
      refine wp_region_later (by kernel_rfl) (by kernel_rfl) ?_
      repeat (go_big_quiet_step (first | rfl | (go_at_call 252; with_reducible exact calls_later (rightTx_is (W1.later (Later.below _)) HK.out))))
      refine wpQuiet_nil ?_
      rintro w2 ⟨⟨_, hb2⟩, rfl⟩
      clear t0 t1 t2 t3 t4 t5 t6 t7 t8 k0
      have PM2 : Hid (PMem w2 b lv bm F S log waits) := HPM.out.1.later hb2
      have RB2 := RB.later hb2
      have hbw := behind hb hb2
      have HBA2 : Hid (Below (w.alloc (.cells #[.int .i64 site, .int .i64 seq, .int .i64 wall, .int .i64 count, .int .i64 d0, .int .i64 d1, .int .i64 d2, .int .i64 d3, .slice a ws.length cap] 102)).heap.size (w.alloc (.cells #[.int .i64 site, .int .i64 seq, .int .i64 wall, .int .i64 count, .int .i64 d0, .int .i64 d1, .int .i64 d2, .int .i64 d3, .slice a ws.length cap] 102)) w2) := hb2
      have HNT : Hid (¬ G w.heap.size) := nG
      clear RB hb hb2 nG
      have d8 := Later.cell (PM2.out.box.cell 8 _ rfl)
      have t0 := Later.cell (RB2.cell 0 _ rfl)
      have t1 := Later.cell (RB2.cell 1 _ rfl)
      have ks := Later.cell (PM2.out.box.cell _ _ (app_at s0 s3))
      have s4 : site < 4 := by omega
      obtain ⟨D, hD⟩ : ∃ D, depOf site S.a0 S.a1 S.a2 S.a3 = D := ⟨_, rfl⟩
      have HD : Hid (depOf site S.a0 S.a1 S.a2 S.a3 = D) := hD
      rw [hD] at ks
      clear hD
      by_cases hle : seq ≤ D
      · have E : takeE S ⟨site, seq, wall, count, d0, d1, d2, d3, ws⟩ = 9 := by unfold takeE; rw [if_neg (by rw [HOK.out]; decide), if_neg HID.out, if_pos (by rw [HD.out]; exact hle)]
        have FIN := fun w9 hb9 => HNO.out w9 9 E (by decide) hb9
        clear E HNO HPM HI
        go_wp2_with fail
        refine wp_region_later (by kernel_rfl) (by kernel_rfl) ?_
        repeat (go_big_quiet_step (first | rfl | fail))
        refine wpQuiet_nil ?_
        rintro w3 ⟨⟨_, hb3⟩, rfl⟩
        go_wp2_with fail
        go_ret
        exact (FIN _ (behind hbw hb3)).out
      · obtain ⟨mx, v, hL⟩ := look_ex waits site seq
        have wfs : wfI site := ⟨by omega, by omega⟩
        have wfq : wfI seq := ⟨by omega, by omega⟩
        have HAS : Hid (∀ x : Later w2, Calls Tryz.prog 253 #[.map (some bm), .int .i64 site, .int .i64 seq] x.val fun e w' => e = .returned (.bool v) ∧ Below x.val.heap.size x.val w') := fun x => has_any hL wfs wfq x.val (PM2.out.later x.below).map
        have HAN : Hid (S.waits.any (fun x => isNum x ⟨site, seq, wall, count, d0, d1, d2, d3, ws⟩) = v) := look_any (t := ⟨site, seq, wall, count, d0, d1, d2, d3, ws⟩) HPM.out.2.2.1 hL
        have HLE : Hid (¬ seq ≤ D) := hle
        have q1 : decide (seq ≤ D) = false := decide_eq_false hle
        cases v
        rotate_left
        · have E : takeE S ⟨site, seq, wall, count, d0, d1, d2, d3, ws⟩ = 9 := by unfold takeE; rw [if_neg (by rw [HOK.out]; decide), if_neg HID.out, if_neg (by rw [HD.out]; have := HLE.out; simp only; omega), if_pos HAN.out]
          have FIN := fun w9 hb9 => HNO.out w9 9 E (by decide) hb9
          clear E HNO HPM HI hL
          go_wp2_with fail
          refine wp_region_later (by kernel_rfl) (by kernel_rfl) ?_
          repeat (go_big_quiet_step (first | rfl | (go_at_call 253; with_reducible exact calls_later (HAS.out _))))
          refine wpQuiet_nil ?_
          rintro w3 ⟨⟨_, hb3⟩, rfl⟩
          go_wp2_with fail
          go_ret
          exact (FIN _ (behind hbw hb3)).out
        · have HNM : Hid (∀ x ∈ waits, isNum x.t ⟨site, seq, wall, count, d0, d1, d2, d3, ws⟩ = false) := fun x hx => by
            cases hi : isNum x.t ⟨site, seq, wall, count, d0, d1, d2, d3, ws⟩ with
            | false => rfl
            | true => exact absurd (isNum_iff.1 hi) ((hL.no rfl).2 x hx)
          clear hL
          go_wp2_with fail
          refine wp_region_later (by kernel_rfl) (by kernel_rfl) ?_
          repeat (go_big_quiet_step (first | rfl | (go_at_call 253; with_reducible exact calls_later (HAS.out _))))
          refine wpQuiet_nil ?_
          rintro w3 ⟨⟨_, hb3⟩, rfl⟩
          have PM3 : Hid (PMem w3 b lv bm F S log waits) := PM2.out.later hb3
          have RB3 := RB2.later hb3
          have hbw3 := behind hbw hb3
          have HBA : Hid (Below (w.alloc (.cells #[.int .i64 site, .int .i64 seq, .int .i64 wall, .int .i64 count, .int .i64 d0, .int .i64 d1, .int .i64 d2, .int .i64 d3, .slice a ws.length cap] 102)).heap.size (w.alloc (.cells #[.int .i64 site, .int .i64 seq, .int .i64 wall, .int .i64 count, .int .i64 d0, .int .i64 d1, .int .i64 d2, .int .i64 d3, .slice a ws.length cap] 102)) w3) := behind HBA2.out hb3
          clear RB2 hbw hb3 HAS hle t0 t1 ks d8
          have hll : log.length = S.log.length := by rw [← HPM.out.2.1]; simp
          have hwl : waits.length = S.waits.length := by rw [← HPM.out.2.2.1]; simp
          by_cases hf : 200 ≤ log.length
          · have E : takeE S ⟨site, seq, wall, count, d0, d1, d2, d3, ws⟩ = 12 := by unfold takeE; rw [if_neg (by rw [HOK.out]; decide), if_neg HID.out, if_neg (by rw [HD.out]; have := HLE.out; simp only; omega), if_neg (by rw [HAN.out]; decide), if_pos (by omega)]
            have FIN := fun w9 hb9 => HNO.out w9 12 E (by decide) hb9
            have IF := isFull_any (decide_eq_true hf) w3 PM3.out
            clear E HNO HPM HI hf hll hwl
            go_wp2_with fail
            refine IF.mono ?_
            rintro e w4 ⟨rfl, hb4⟩
            go_wp2_with fail
            go_ret
            exact (FIN _ (behind hbw3 hb4)).out
          · have IF := isFull_any (decide_eq_false hf) w3 PM3.out
            have HF : Hid (S.log.length < 200) := by show _ < _; omega
            have HWL : Hid (waits.length = S.waits.length ∧ S.waits.length ≤ 990) := ⟨hwl, hn⟩
            clear hf hll
            go_wp2_with fail
            refine IF.mono ?_
            rintro e w4 ⟨rfl, hb4⟩
            have PM4 : Hid (PMem w4 b lv bm F S log waits) := PM3.out.later hb4
            have RB4 := RB3.later hb4
            have hbw4 := behind hbw3 hb4
            have HW4 : Hid (Below (w.alloc (.cells #[.int .i64 site, .int .i64 seq, .int .i64 wall, .int .i64 count, .int .i64 d0, .int .i64 d1, .int .i64 d2, .int .i64 d3, .slice a ws.length cap] 102)).heap.size (w.alloc (.cells #[.int .i64 site, .int .i64 seq, .int .i64 wall, .int .i64 count, .int .i64 d0, .int .i64 d1, .int .i64 d2, .int .i64 d3, .slice a ws.length cap] 102)) w4) := behind HBA.out hb4
            clear RB3 hbw3 hb4
            have d8 := PM4.out.box.cell 8 _ rfl
            obtain ⟨hM1, hM2, DD, hown, hMI⟩ := id PM4.out.map
            have LEN : ∀ ty, (Builtin.len_ #[214] ty #[.map (some bm)]).run Tryz.prog w4 = .ok (.int .i64 waits.length) w4 := fun ty => by
              have := hown.len Tryz.underlying214 ty
              rw [hMI.size] at this
              exact this
            clear hM1 hM2 hown hMI
            have t0 := (RB4.cell 0 _ rfl)
            have t1 := (RB4.cell 1 _ rfl)
            have t2 := (RB4.cell 2 _ rfl)
            have t3 := (RB4.cell 3 _ rfl)
            have t4 := (RB4.cell 4 _ rfl)
            have t5 := (RB4.cell 5 _ rfl)
            have t6 := (RB4.cell 6 _ rfl)
            have t7 := (RB4.cell 7 _ rfl)
            have t8 := (RB4.cell 8 _ rfl)
            by_cases h40 : 40 ≤ waits.length
            · have g40 : (40 : Int) ≤ (waits.length : Int) := by omega
              obtain ⟨r, hr⟩ : ∃ r, readyS S ⟨site, seq, wall, count, d0, d1, d2, d3, ws⟩ = r := ⟨_, rfl⟩
              have RD := isReady_any (v := r) ⟨⟨site, seq, wall, count, d0, d1, d2, d3, ws⟩, a, cap⟩ w4 PM4.out s0 s3 (HI.out.dep _) hr
              simp only [txV] at RD
              have HR : Hid (readyS S ⟨site, seq, wall, count, d0, d1, d2, d3, ws⟩ = r) := hr
              clear hr
              cases r
              · have E : takeE S ⟨site, seq, wall, count, d0, d1, d2, d3, ws⟩ = 12 := by unfold takeE; rw [if_neg (by rw [HOK.out]; decide), if_neg HID.out, if_neg (by rw [HD.out]; have := HLE.out; simp only; omega), if_neg (by rw [HAN.out]; decide), if_neg (by have := HF.out; omega), if_pos ⟨by have := HWL.out; omega, HR.out⟩]
                have FIN := fun w9 hb9 => HNO.out w9 12 E (by decide) hb9
                clear E HNO HPM HI
                go_wp2_with fail
                refine RD.mono ?_
                rintro e w5 ⟨rfl, hb5⟩
                go_wp2_with fail
                go_ret
                exact (FIN _ (behind hbw4 hb5)).out
              · have E0 : Hid (takeE S ⟨site, seq, wall, count, d0, d1, d2, d3, ws⟩ = 0) := by show _ = _; unfold takeE; rw [if_neg (by rw [HOK.out]; decide), if_neg HID.out, if_neg (by rw [HD.out]; have := HLE.out; simp only; omega), if_neg (by rw [HAN.out]; decide), if_neg (by have := HF.out; omega), if_neg (fun e => by rw [HR.out] at e; cases e.2)]
                go_wp2_with fail
                refine RD.mono ?_
                rintro e w5 ⟨rfl, hb5⟩
                have PM5 : Hid (PMem w5 b lv bm F S log waits) := PM4.out.later hb5
                have RB5 := RB4.later hb5
                have hbw5 := behind hbw4 hb5
                have HW5 : Hid (Below (w.alloc (.cells #[.int .i64 site, .int .i64 seq, .int .i64 wall, .int .i64 count, .int .i64 d0, .int .i64 d1, .int .i64 d2, .int .i64 d3, .slice a ws.length cap] 102)).heap.size (w.alloc (.cells #[.int .i64 site, .int .i64 seq, .int .i64 wall, .int .i64 count, .int .i64 d0, .int .i64 d1, .int .i64 d2, .int .i64 d3, .slice a ws.length cap] 102)) w5) := behind HW4.out hb5
                clear hb5
                have hbW : Below (w.alloc (.cells #[.int .i64 site, .int .i64 seq, .int .i64 wall, .int .i64 count, .int .i64 d0, .int .i64 d1, .int .i64 d2, .int .i64 d3, .slice a ws.length cap] 102)).heap.size (w.alloc (.cells #[.int .i64 site, .int .i64 seq, .int .i64 wall, .int .i64 count, .int .i64 d0, .int .i64 d1, .int .i64 d2, .int .i64 d3, .slice a ws.length cap] 102)) w5 := HW5.out
                have HTB : Hid (∀ w', PMap w' bm (waits ++ [⟨⟨site, seq, wall, count, d0, d1, d2, d3, ws⟩, none, 0⟩]) → True) := fun _ _ => trivial
                have SB : TkB w.heap.size b bm [.int .i64 site, .int .i64 seq, .int .i64 wall, .int .i64 count, .int .i64 d0, .int .i64 d1, .int .i64 d2, .int .i64 d3, .slice a ws.length cap] w5.drew := ⟨RB5.drew, PM5.out.box.cell 8 _ rfl⟩
                have CP : Hid (Calls Tryz.prog 245 #[.agg #[.int .i64 site, .int .i64 seq, .int .i64 wall, .int .i64 count, .int .i64 d0, .int .i64 d1, .int .i64 d2, .int .i64 d3, .slice a ws.length cap]] w5.drew fun e w' => (∃ a2 c2, e = .returned (.agg #[.int .i64 site, .int .i64 seq, .int .i64 wall, .int .i64 count, .int .i64 d0, .int .i64 d1, .int .i64 d2, .int .i64 d3, .slice a2 ws.length c2]) ∧ Hid (WrIn w' a2 c2 ws ∧ (∀ k, (⟨⟨site, seq, wall, count, d0, d1, d2, d3, ws⟩, a2, c2⟩ : TxM).blk k → w5.heap.size ≤ k))) ∧ TkB w.heap.size b bm [.int .i64 site, .int .i64 seq, .int .i64 wall, .int .i64 count, .int .i64 d0, .int .i64 d1, .int .i64 d2, .int .i64 d3, .slice a ws.length cap] w' ∧ Below w5.heap.size w5 w') :=
                  (copyOf_any ⟨⟨site, seq, wall, count, d0, d1, d2, d3, ws⟩, a, cap⟩ w5.drew (W1.later (hbW.trans (Below.refl _ w5).drew)) sw.1 (by have := sw.2; simp only; omega)).mono fun e w' ⟨m2, h1, h2, h3, h4, h5⟩ => by
                    obtain ⟨t2, a2, c2⟩ := m2
                    simp only at h1
                    subst h1
                    have h6 : Below w5.heap.size w5 w' := behind (Below.refl _ w5).drew h5
                    exact ⟨⟨a2, c2, h2, h3, h4⟩, ⟨RB5.later h6, (PM5.out.later h6).box.cell 8 _ rfl⟩, h6⟩
                have PU : Hid (∀ a2 c2 w6, (WrIn w6 a2 c2 ws ∧ (∀ k, (⟨⟨site, seq, wall, count, d0, d1, d2, d3, ws⟩, a2, c2⟩ : TxM).blk k → w5.heap.size ≤ k)) → Below w5.heap.size w5 w6 → Calls Tryz.prog 255 #[.map (some bm), .agg #[.int .i64 site, .int .i64 seq, .int .i64 wall, .int .i64 count, .int .i64 d0, .int .i64 d1, .int .i64 d2, .int .i64 d3, .slice a2 ws.length c2]] w6 fun e w' => e = .returned (.tuple #[]) ∧ TkB w.heap.size b bm [.int .i64 site, .int .i64 seq, .int .i64 wall, .int .i64 count, .int .i64 d0, .int .i64 d1, .int .i64 d2, .int .i64 d3, .slice a ws.length cap] w' ∧ Hid (∃ G7, PS w' b G7 { S with waits := S.waits ++ [⟨site, seq, wall, count, d0, d1, d2, d3, ws⟩] } ∧ (∀ k, G7 k → G k ∨ w.heap.size ≤ k) ∧ Touch G w w')) := fun a2 c2 w6 hh h6 => by
                  have PM6 := PM5.out.later h6
                  have R6 := RB5.later h6
                  refine (put_any ⟨⟨site, seq, wall, count, d0, d1, d2, d3, ws⟩, a2, c2⟩ w6 PM6.map ⟨⟨by simp only; omega, by simp only; omega⟩, ⟨by simp only; omega, by simp only; omega⟩⟩ HNM.out (by have := HWL.out; omega)).mono fun e w' ⟨h1, h2, h3⟩ => ⟨h1, ⟨R6.grown h3 (fun e => ?_), ?_⟩, ?_⟩
                  · injection e with e
                    exact HNT.out (by rw [e]; exact (HPM.out.2.2.2 bm).2 (.inl (.inr (.inr (.inl rfl)))))
                  · rw [World.cell?_of_block (w := w6) (h3.block b PM6.box.lt (fun e => PM6.nm (by injection e with e; exact e.symm)))]
                    exact PM6.box.cell 8 _ rfl
                  · obtain ⟨G7, g1, g2, g3⟩ := put_ps PM5.out HPM.out.2.1 HPM.out.2.2.1 HPM.out.2.2.2 h6 hh.1 hh.2 h2 h3
                    exact ⟨G7, g1, fun k hk => (g2 k hk).imp id (fun e => by have := hbw5.size; omega), (Touch.ofBelow hbw5).more g3 (fun k hk => .inl hk)⟩
                have T0 := fun (w' : World) (h : TkB w.heap.size b bm [.int .i64 site, .int .i64 seq, .int .i64 wall, .int .i64 count, .int .i64 d0, .int .i64 d1, .int .i64 d2, .int .i64 d3, .slice a ws.length cap] w') => h.t.cell 0 _ rfl
                have T1 := fun (w' : World) (h : TkB w.heap.size b bm [.int .i64 site, .int .i64 seq, .int .i64 wall, .int .i64 count, .int .i64 d0, .int .i64 d1, .int .i64 d2, .int .i64 d3, .slice a ws.length cap] w') => h.t.cell 1 _ rfl
                have T2 := fun (w' : World) (h : TkB w.heap.size b bm [.int .i64 site, .int .i64 seq, .int .i64 wall, .int .i64 count, .int .i64 d0, .int .i64 d1, .int .i64 d2, .int .i64 d3, .slice a ws.length cap] w') => h.t.cell 2 _ rfl
                have T3 := fun (w' : World) (h : TkB w.heap.size b bm [.int .i64 site, .int .i64 seq, .int .i64 wall, .int .i64 count, .int .i64 d0, .int .i64 d1, .int .i64 d2, .int .i64 d3, .slice a ws.length cap] w') => h.t.cell 3 _ rfl
                have T4 := fun (w' : World) (h : TkB w.heap.size b bm [.int .i64 site, .int .i64 seq, .int .i64 wall, .int .i64 count, .int .i64 d0, .int .i64 d1, .int .i64 d2, .int .i64 d3, .slice a ws.length cap] w') => h.t.cell 4 _ rfl
                have T5 := fun (w' : World) (h : TkB w.heap.size b bm [.int .i64 site, .int .i64 seq, .int .i64 wall, .int .i64 count, .int .i64 d0, .int .i64 d1, .int .i64 d2, .int .i64 d3, .slice a ws.length cap] w') => h.t.cell 5 _ rfl
                have T6 := fun (w' : World) (h : TkB w.heap.size b bm [.int .i64 site, .int .i64 seq, .int .i64 wall, .int .i64 count, .int .i64 d0, .int .i64 d1, .int .i64 d2, .int .i64 d3, .slice a ws.length cap] w') => h.t.cell 6 _ rfl
                have T7 := fun (w' : World) (h : TkB w.heap.size b bm [.int .i64 site, .int .i64 seq, .int .i64 wall, .int .i64 count, .int .i64 d0, .int .i64 d1, .int .i64 d2, .int .i64 d3, .slice a ws.length cap] w') => h.t.cell 7 _ rfl
                have T8 := fun (w' : World) (h : TkB w.heap.size b bm [.int .i64 site, .int .i64 seq, .int .i64 wall, .int .i64 count, .int .i64 d0, .int .i64 d1, .int .i64 d2, .int .i64 d3, .slice a ws.length cap] w') => h.t.cell 8 _ rfl
                have TM := fun (w' : World) (h : TkB w.heap.size b bm [.int .i64 site, .int .i64 seq, .int .i64 wall, .int .i64 count, .int .i64 d0, .int .i64 d1, .int .i64 d2, .int .i64 d3, .slice a ws.length cap] w') => h.m
                clear HTB t0 t1 t2 t3 t4 t5 t6 t7 t8 d8 LEN
                go_wp2_with fail
                go_region_held3 (fun w' => TkB w.heap.size b bm [.int .i64 site, .int .i64 seq, .int .i64 wall, .int .i64 count, .int .i64 d0, .int .i64 d1, .int .i64 d2, .int .i64 d3, .slice a ws.length cap] w') (with_reducible assumption)
                  (first
                    | (go_at_call 245; with_reducible refine CP.out.mono ?_; rintro e w6 ⟨⟨a2, c2, rfl, HC6⟩, N6, hb6⟩)
                    | (go_at_call 255; with_reducible refine (PU.out a2 c2 _ HC6.out hb6).mono ?_; rintro e w7 ⟨rfl, N7, HP7⟩))
                all_goals
                  clear T0 T1 T2 T3 T4 T5 T6 T7 T8 TM
                  obtain ⟨G7, q1, q2, q3⟩ := HP7.out
                  have AR := applyReady_any w7 q1 (HI.out.wait HOK.out HID.out (fun x hx => by rw [← HPM.out.2.2.1] at hx; obtain ⟨y, hy, rfl⟩ := List.mem_map.1 hx; exact HNM.out y hy)) (by have := HWL.out; simp; omega)
                  have HGO : Hid (∀ S' w', PPo w7 b G7 S' w' → PPo w b G S' w') := fun S' w' hp => GO0.out w7 G7 S' q2 q3 w' hp
                  clear q1 q2 q3
                  go_wp2_with fail
                  refine AR.mono ?_
                  rintro e w8 ⟨rfl, S', hgo, hp⟩
                  have HF9 : Hid (∃ S', TakesTo S ⟨site, seq, wall, count, d0, d1, d2, d3, ws⟩ S' ∧ PPo w b G S' w8) := ⟨S', .inr ⟨E0.out, hgo⟩, HGO.out S' w8 hp⟩
                  clear hgo hp
                  go_wp2_with fail
                  go_ret
                  refine ⟨?_, HF9.out⟩
                  rw [E0.out]
                  rfl
            · have g40 : ¬ (40 : Int) ≤ (waits.length : Int) := by omega
              have E0 : Hid (takeE S ⟨site, seq, wall, count, d0, d1, d2, d3, ws⟩ = 0) := by show _ = _; unfold takeE; rw [if_neg (by rw [HOK.out]; decide), if_neg HID.out, if_neg (by rw [HD.out]; have := HLE.out; simp only; omega), if_neg (by rw [HAN.out]; decide), if_neg (by have := HF.out; omega), if_neg (fun e => by have := HWL.out; omega)]
              go_wp2_with fail
              have hbW : Below (w.alloc (.cells #[.int .i64 site, .int .i64 seq, .int .i64 wall, .int .i64 count, .int .i64 d0, .int .i64 d1, .int .i64 d2, .int .i64 d3, .slice a ws.length cap] 102)).heap.size (w.alloc (.cells #[.int .i64 site, .int .i64 seq, .int .i64 wall, .int .i64 count, .int .i64 d0, .int .i64 d1, .int .i64 d2, .int .i64 d3, .slice a ws.length cap] 102)) w4 := HW4.out
              have HTB : Hid (∀ w', PMap w' bm (waits ++ [⟨⟨site, seq, wall, count, d0, d1, d2, d3, ws⟩, none, 0⟩]) → True) := fun _ _ => trivial
              have SB : TkB w.heap.size b bm [.int .i64 site, .int .i64 seq, .int .i64 wall, .int .i64 count, .int .i64 d0, .int .i64 d1, .int .i64 d2, .int .i64 d3, .slice a ws.length cap] w4.drew := ⟨RB4.drew, PM4.out.box.cell 8 _ rfl⟩
              have CP : Hid (Calls Tryz.prog 245 #[.agg #[.int .i64 site, .int .i64 seq, .int .i64 wall, .int .i64 count, .int .i64 d0, .int .i64 d1, .int .i64 d2, .int .i64 d3, .slice a ws.length cap]] w4.drew fun e w' => (∃ a2 c2, e = .returned (.agg #[.int .i64 site, .int .i64 seq, .int .i64 wall, .int .i64 count, .int .i64 d0, .int .i64 d1, .int .i64 d2, .int .i64 d3, .slice a2 ws.length c2]) ∧ Hid (WrIn w' a2 c2 ws ∧ (∀ k, (⟨⟨site, seq, wall, count, d0, d1, d2, d3, ws⟩, a2, c2⟩ : TxM).blk k → w4.heap.size ≤ k))) ∧ TkB w.heap.size b bm [.int .i64 site, .int .i64 seq, .int .i64 wall, .int .i64 count, .int .i64 d0, .int .i64 d1, .int .i64 d2, .int .i64 d3, .slice a ws.length cap] w' ∧ Below w4.heap.size w4 w') :=
                (copyOf_any ⟨⟨site, seq, wall, count, d0, d1, d2, d3, ws⟩, a, cap⟩ w4.drew (W1.later (hbW.trans (Below.refl _ w4).drew)) sw.1 (by have := sw.2; simp only; omega)).mono fun e w' ⟨m2, h1, h2, h3, h4, h5⟩ => by
                  obtain ⟨t2, a2, c2⟩ := m2
                  simp only at h1
                  subst h1
                  have h6 : Below w4.heap.size w4 w' := behind (Below.refl _ w4).drew h5
                  exact ⟨⟨a2, c2, h2, h3, h4⟩, ⟨RB4.later h6, (PM4.out.later h6).box.cell 8 _ rfl⟩, h6⟩
              have PU : Hid (∀ a2 c2 w6, (WrIn w6 a2 c2 ws ∧ (∀ k, (⟨⟨site, seq, wall, count, d0, d1, d2, d3, ws⟩, a2, c2⟩ : TxM).blk k → w4.heap.size ≤ k)) → Below w4.heap.size w4 w6 → Calls Tryz.prog 255 #[.map (some bm), .agg #[.int .i64 site, .int .i64 seq, .int .i64 wall, .int .i64 count, .int .i64 d0, .int .i64 d1, .int .i64 d2, .int .i64 d3, .slice a2 ws.length c2]] w6 fun e w' => e = .returned (.tuple #[]) ∧ TkB w.heap.size b bm [.int .i64 site, .int .i64 seq, .int .i64 wall, .int .i64 count, .int .i64 d0, .int .i64 d1, .int .i64 d2, .int .i64 d3, .slice a ws.length cap] w' ∧ Hid (∃ G7, PS w' b G7 { S with waits := S.waits ++ [⟨site, seq, wall, count, d0, d1, d2, d3, ws⟩] } ∧ (∀ k, G7 k → G k ∨ w.heap.size ≤ k) ∧ Touch G w w')) := fun a2 c2 w6 hh h6 => by
                have PM6 := PM4.out.later h6
                have R6 := RB4.later h6
                refine (put_any ⟨⟨site, seq, wall, count, d0, d1, d2, d3, ws⟩, a2, c2⟩ w6 PM6.map ⟨⟨by simp only; omega, by simp only; omega⟩, ⟨by simp only; omega, by simp only; omega⟩⟩ HNM.out (by have := HWL.out; omega)).mono fun e w' ⟨h1, h2, h3⟩ => ⟨h1, ⟨R6.grown h3 (fun e => ?_), ?_⟩, ?_⟩
                · injection e with e
                  exact HNT.out (by rw [e]; exact (HPM.out.2.2.2 bm).2 (.inl (.inr (.inr (.inl rfl)))))
                · rw [World.cell?_of_block (w := w6) (h3.block b PM6.box.lt (fun e => PM6.nm (by injection e with e; exact e.symm)))]
                  exact PM6.box.cell 8 _ rfl
                · obtain ⟨G7, g1, g2, g3⟩ := put_ps PM4.out HPM.out.2.1 HPM.out.2.2.1 HPM.out.2.2.2 h6 hh.1 hh.2 h2 h3
                  exact ⟨G7, g1, fun k hk => (g2 k hk).imp id (fun e => by have := hbw4.size; omega), (Touch.ofBelow hbw4).more g3 (fun k hk => .inl hk)⟩
              have T0 := fun (w' : World) (h : TkB w.heap.size b bm [.int .i64 site, .int .i64 seq, .int .i64 wall, .int .i64 count, .int .i64 d0, .int .i64 d1, .int .i64 d2, .int .i64 d3, .slice a ws.length cap] w') => h.t.cell 0 _ rfl
              have T1 := fun (w' : World) (h : TkB w.heap.size b bm [.int .i64 site, .int .i64 seq, .int .i64 wall, .int .i64 count, .int .i64 d0, .int .i64 d1, .int .i64 d2, .int .i64 d3, .slice a ws.length cap] w') => h.t.cell 1 _ rfl
              have T2 := fun (w' : World) (h : TkB w.heap.size b bm [.int .i64 site, .int .i64 seq, .int .i64 wall, .int .i64 count, .int .i64 d0, .int .i64 d1, .int .i64 d2, .int .i64 d3, .slice a ws.length cap] w') => h.t.cell 2 _ rfl
              have T3 := fun (w' : World) (h : TkB w.heap.size b bm [.int .i64 site, .int .i64 seq, .int .i64 wall, .int .i64 count, .int .i64 d0, .int .i64 d1, .int .i64 d2, .int .i64 d3, .slice a ws.length cap] w') => h.t.cell 3 _ rfl
              have T4 := fun (w' : World) (h : TkB w.heap.size b bm [.int .i64 site, .int .i64 seq, .int .i64 wall, .int .i64 count, .int .i64 d0, .int .i64 d1, .int .i64 d2, .int .i64 d3, .slice a ws.length cap] w') => h.t.cell 4 _ rfl
              have T5 := fun (w' : World) (h : TkB w.heap.size b bm [.int .i64 site, .int .i64 seq, .int .i64 wall, .int .i64 count, .int .i64 d0, .int .i64 d1, .int .i64 d2, .int .i64 d3, .slice a ws.length cap] w') => h.t.cell 5 _ rfl
              have T6 := fun (w' : World) (h : TkB w.heap.size b bm [.int .i64 site, .int .i64 seq, .int .i64 wall, .int .i64 count, .int .i64 d0, .int .i64 d1, .int .i64 d2, .int .i64 d3, .slice a ws.length cap] w') => h.t.cell 6 _ rfl
              have T7 := fun (w' : World) (h : TkB w.heap.size b bm [.int .i64 site, .int .i64 seq, .int .i64 wall, .int .i64 count, .int .i64 d0, .int .i64 d1, .int .i64 d2, .int .i64 d3, .slice a ws.length cap] w') => h.t.cell 7 _ rfl
              have T8 := fun (w' : World) (h : TkB w.heap.size b bm [.int .i64 site, .int .i64 seq, .int .i64 wall, .int .i64 count, .int .i64 d0, .int .i64 d1, .int .i64 d2, .int .i64 d3, .slice a ws.length cap] w') => h.t.cell 8 _ rfl
              have TM := fun (w' : World) (h : TkB w.heap.size b bm [.int .i64 site, .int .i64 seq, .int .i64 wall, .int .i64 count, .int .i64 d0, .int .i64 d1, .int .i64 d2, .int .i64 d3, .slice a ws.length cap] w') => h.m
              clear HTB t0 t1 t2 t3 t4 t5 t6 t7 t8 d8 LEN
              go_wp2_with fail
              go_region_held3 (fun w' => TkB w.heap.size b bm [.int .i64 site, .int .i64 seq, .int .i64 wall, .int .i64 count, .int .i64 d0, .int .i64 d1, .int .i64 d2, .int .i64 d3, .slice a ws.length cap] w') (with_reducible assumption)
                (first
                  | (go_at_call 245; with_reducible refine CP.out.mono ?_; rintro e w6 ⟨⟨a2, c2, rfl, HC6⟩, N6, hb6⟩)
                  | (go_at_call 255; with_reducible refine (PU.out a2 c2 _ HC6.out hb6).mono ?_; rintro e w7 ⟨rfl, N7, HP7⟩))
              all_goals
                clear T0 T1 T2 T3 T4 T5 T6 T7 T8 TM
                obtain ⟨G7, q1, q2, q3⟩ := HP7.out
                have AR := applyReady_any w7 q1 (HI.out.wait HOK.out HID.out (fun x hx => by rw [← HPM.out.2.2.1] at hx; obtain ⟨y, hy, rfl⟩ := List.mem_map.1 hx; exact HNM.out y hy)) (by have := HWL.out; simp; omega)
                have HGO : Hid (∀ S' w', PPo w7 b G7 S' w' → PPo w b G S' w') := fun S' w' hp => GO0.out w7 G7 S' q2 q3 w' hp
                clear q1 q2 q3
                go_wp2_with fail
                refine AR.mono ?_
                rintro e w8 ⟨rfl, S', hgo, hp⟩
                have HF9 : Hid (∃ S', TakesTo S ⟨site, seq, wall, count, d0, d1, d2, d3, ws⟩ S' ∧ PPo w b G S' w8) := ⟨S', .inr ⟨E0.out, hgo⟩, HGO.out S' w8 hp⟩
                clear hgo hp
                go_wp2_with fail
                go_ret
                refine ⟨?_, HF9.out⟩
                rw [E0.out]
                rfl
end Go.Proofs.YtoanjdndmlffdaaGreatDoor
