/-
  What a session of the document writes, as the model runs it (copseref.Session.Write).
-/
import Derived.Test.YtpncedpfoakfkaaGreatDoorSiteI
import Derived.Test.YtpncedpfoakfkaaGreatDoorSiteA
namespace Go.Proofs.YtpncedpfoakfkaaGreatDoor
open Go.RowKit

theorem emptyR {d : ByteArray} (h : d.toList.isEmpty = false) : d.size ≠ 0 := fun e => by
  rw [byteList] at h
  have := toL_length d
  rw [e] at this
  rw [List.length_eq_zero_iff.1 this] at h
  cases h
theorem emptyR' {d : ByteArray} (h : d.toList.isEmpty = true) : d.size = 0 := by
  rw [byteList, List.isEmpty_iff] at h
  rw [← toL_length, h]
  rfl
/-- one more write: the row has another place, perhaps, and the box says so -/
theorem app_box {w w5 wE : World} {b g cap9 H : Nat} {a : Option Addr} {cap : Nat} {s : SesS} {x : Wr} (h : RSes w b (.slice a s.ws.length cap) s) (hb : Below w.heap.size w w5) (ownE : wE.ownsRow 0 83 3 (.slice (some ⟨g, 0, none⟩) (s.ws.length + 1) cap9) (s.ws.length + 1) (wrsC s.ws ++ wrC x)) (gr : w5.grownBy wE (Value.slice a s.ws.length cap).ownBlock) (eg : (Value.slice a s.ws.length cap).ownBlock = some g ∨ g = H) (hH : w5.heap.size ≤ H) :
    RSPo w b (.slice a s.ws.length cap) { s with ws := s.ws ++ [x] } (wE.setCell ⟨b, 9, none⟩ (.slice (some ⟨g, 0, none⟩) (s.ws.length + 1) cap9)) := by
  have B5 := h.box.later hb
  have BE := B5.grown gr (fun e => h.nb e.symm)
  have hlt := h.box.lt
  have gne : g ≠ b := by
    rcases eg with e | e
    · intro e2; rw [e2] at e; exact h.nb e
    · have := hb.size; omega
  have R := BE.set 9 (.slice (some ⟨g, 0, none⟩) (s.ws.length + 1) cap9) (by simp [rsesC])
  refine ⟨.slice (some ⟨g, 0, none⟩) (s.ws.length + 1) cap9, ⟨R, ?_, fun e => gne (by simpa [Value.ownBlock] using e)⟩, fun k e => ?_, ?_⟩
  · show World.ownsRow _ 0 _ 3 _ (s.ws ++ [x]).length (wrsC (s.ws ++ [x]))
    rw [wrsC_snoc, List.length_append]
    refine own_keptN ownE (fun k e => ?_)
    have e : g = k := by simpa [Value.ownBlock] using e
    rw [← e]
    exact Below.heap_setCell _ _ _ _ gne
  · have e : g = k := by simpa [Value.ownBlock] using e
    rw [← e]
    rcases eg with e2 | e2
    · exact .inl e2
    · exact .inr (by have := hb.size; omega)
  · exact ((Touch.ofBelow hb).trans (Touch.grown gr (fun k e => .inr e))).trans (Touch.setCell _ _ _ (.inl rfl))

set_option maxRecDepth 100000 in
set_option maxHeartbeats 8000000 in
theorem refWrite_any {b : Nat} {wv : Value} {s : SesS} (x : Wr) (w : World) (h : RSes w b wv s) (hl : s.ws.length ≤ 1000) :
    Calls Tryz.prog 37 #[.pointer (some ⟨b, 0, none⟩), wrV x] w fun e w' => e = .returned (.int .i64 (wriE s x)) ∧ RSPo w b wv (wriS s x) w' := by
  have NO : ∀ w9 ev, wriE s x = ev → ev ≠ 0 → Below w.heap.size w w9 → Hid ((.returned (.int .i64 ev) : Ending) = .returned (.int .i64 (wriE s x)) ∧ RSPo w b wv (wriS s x) w9) := fun w9 ev e1 e2 e3 => by
    show _ ∧ _
    rw [e1, show wriS s x = s by unfold wriS; rw [if_neg (by rw [e1]; exact e2)]]
    exact ⟨rfl, RSPo.same h e3⟩
  obtain ⟨a, cap, rfl, hWi⟩ := wrIn_own h.row
  obtain ⟨xk, xd, xg⟩ := x
  have hb := boxed (Below.refl _ w) (.cells #[.int .i64 xk, .string xd, .bool xg] 83)
  have RX := RowL.new (w := w) (T := 83) [.int .i64 xk, .string xd, .bool xg] rfl
  change RowL (w.alloc (.cells #[.int .i64 xk, .string xd, .bool xg] 83)) w.heap.size [.int .i64 xk, .string xd, .bool xg] at RX
  have HS : Hid (RSes w b (.slice a s.ws.length cap) s) := h
  have HL : Hid (s.ws.length ≤ 1000) := hl
  have B := h.box.later hb
  have HNO : Hid (∀ w9 ev, wriE s ⟨xk, xd, xg⟩ = ev → ev ≠ 0 → Below w.heap.size w w9 → Hid ((.returned (.int .i64 ev) : Ending) = .returned (.int .i64 (wriE s ⟨xk, xd, xg⟩)) ∧ RSPo w b (.slice a s.ws.length cap) (wriS s ⟨xk, xd, xg⟩) w9)) := NO
  clear NO hWi
  show Calls Tryz.prog 37 #[.pointer (some ⟨b, 0, none⟩), .agg #[.int .i64 xk, .string xd, .bool xg]] w _
  have k8 := B.cell 8 _ rfl
  have x0 := RX.cell 0 _ rfl
  have x1 := RX.cell 1 _ rfl
  have x2 := RX.cell 2 _ rfl
  cases ho : s.opn
  · rw [ho] at k8
    have E : wriE s ⟨xk, xd, xg⟩ = 6 := by unfold wriE; rw [if_pos ho]
    have FIN := (HNO.out _ 6 E (by decide) hb).out
    clear E ho B h RX HNO hl
    go_enter Tryz.func37, Tryz.ntmps37
    go_wp2_with fail
    go_ret
    exact FIN
  · rw [ho] at k8
    have n1 : ¬ s.opn = false := by rw [ho]; decide
    have GO : Hid (∀ w5, Below (w.alloc (.cells #[.int .i64 xk, .string xd, .bool xg] 83)).heap.size (w.alloc (.cells #[.int .i64 xk, .string xd, .bool xg] 83)) w5 → RSes w5 b (.slice a s.ws.length cap) s ∧ RowL w5 w.heap.size [.int .i64 xk, .string xd, .bool xg] ∧ Below w.heap.size w w5) := fun w5 h5 => ⟨(HS.out.later hb).later h5, RX.later h5, behind hb h5⟩
    cases hin : inB xk 0 7
    · have n2 : xk < 0 ∨ 8 ≤ xk := by
        simp only [inB, Bool.and_eq_false_iff, decide_eq_false_iff_not] at hin
        omega
      have E : wriE s ⟨xk, xd, xg⟩ = 2 := by unfold wriE; rw [if_neg n1, if_pos n2]
      have FIN : Hid (∀ w5, Below w.heap.size w w5 → (.returned (.int .i64 2) : Ending) = .returned (.int .i64 (wriE s ⟨xk, xd, xg⟩)) ∧ RSPo w b (.slice a s.ws.length cap) (wriS s ⟨xk, xd, xg⟩) w5) := fun w5 h5 => (HNO.out _ 2 E (by decide) h5).out
      have IN := inB_is hin (w.alloc (.cells #[.int .i64 xk, .string xd, .bool xg] 83))
      clear E ho B h RX HNO hl n1 n2 hin
      go_enter Tryz.func37, Tryz.ntmps37
      go_wp2_with fail
      refine IN.mono ?_
      rintro e w1 ⟨rfl, hb1⟩
      obtain ⟨_, _, hbw⟩ := GO.out w1 hb1
      clear k8 x0 x1 x2
      go_wp2_with fail
      go_ret
      exact FIN.out _ hbw
    · have n2 : ¬ (xk < 0 ∨ 8 ≤ xk) := by
        simp only [inB, Bool.and_eq_true, decide_eq_true_eq] at hin
        omega
      have HK : Hid (0 ≤ xk ∧ xk < 8) := ⟨by omega, by omega⟩
      have IN := inB_is hin (w.alloc (.cells #[.int .i64 xk, .string xd, .bool xg] 83))
      by_cases hlen : 12 < (xd.size : Int)
      · have E : wriE s ⟨xk, xd, xg⟩ = 4 := by unfold wriE; rw [if_neg n1, if_neg n2, if_pos (by show 12 < xd.size; omega)]
        have FIN : Hid (∀ w5, Below w.heap.size w w5 → (.returned (.int .i64 4) : Ending) = .returned (.int .i64 (wriE s ⟨xk, xd, xg⟩)) ∧ RSPo w b (.slice a s.ws.length cap) (wriS s ⟨xk, xd, xg⟩) w5) := fun w5 h5 => (HNO.out _ 4 E (by decide) h5).out
        clear E ho B h RX HNO hl n1 n2 hin
        go_enter Tryz.func37, Tryz.ntmps37
        go_wp2_with fail
        refine IN.mono ?_
        rintro e w1 ⟨rfl, hb1⟩
        obtain ⟨_, X1, hbw⟩ := GO.out w1 hb1
        clear k8 x0 x1 x2
        have y1 := X1.cell 1 _ rfl
        go_wp2_with fail
        go_ret
        exact FIN.out _ hbw
      · have n3 : ¬ 12 < xd.size := by omega
        cases hgg : (xg && !xd.toList.isEmpty)
        · have HT : Hid (¬ (xg = true ∧ xd.size ≠ 0)) := by
            show ¬ _
            rintro ⟨e1, e2⟩
            rw [e1] at hgg
            exact e2 (emptyR' (by simpa using hgg))
          have OW : Hid (∀ w5, RSes w5 b (.slice a s.ws.length cap) s → Calls Tryz.prog 73 #[.pointer (some ⟨b, 0, none⟩), .int .i64 xk] w5 fun e w' => e = .returned (.tuple #[wrV (ownOr s.ws xk), .bool (ownW s.ws xk).isSome]) ∧ Below w5.heap.size w5 w') := fun w5 h5 => refOwn_any xk w5 h5
          have ALL : Hid (∀ w5, RSes w5 b (.slice a s.ws.length cap) s → Calls Tryz.prog 77 #[.pointer (some ⟨b, 0, none⟩)] w5 fun e w' => ∃ v, e = .returned v ∧ w'.ownsRow w5.heap.size 83 3 v (allW s.ws).length (wrsC (allW s.ws)) ∧ Below w5.heap.size w5 w') := fun w5 h5 => refAll_any w5 h5
          obtain ⟨⟨ok, od, og⟩, hoo⟩ : ∃ y, ownOr s.ws xk = y := ⟨_, rfl⟩
          have HF : Hid (¬ (ownW s.ws xk = none ∧ 5 ≤ (allW s.ws).length) → wriE s ⟨xk, xd, xg⟩ = 0 ∧ wriS s ⟨xk, xd, xg⟩ = { s with ws := s.ws ++ [⟨xk, xd, xg⟩] }) := fun hno => by
            have E : wriE s ⟨xk, xd, xg⟩ = 0 := by unfold wriE; rw [if_neg n1, if_neg n2, if_neg n3, if_neg HT.out, if_neg hno]
            exact ⟨E, by unfold wriS; rw [if_pos E]⟩
          have HF2 : Hid ((ownW s.ws xk = none ∧ 5 ≤ (allW s.ws).length) → wriE s ⟨xk, xd, xg⟩ = 12) := fun hno => by
            unfold wriE; rw [if_neg n1, if_neg n2, if_neg n3, if_neg HT.out, if_pos hno]
          have FIN : Hid (∀ w5, wriE s ⟨xk, xd, xg⟩ = 12 → Below w.heap.size w w5 → (.returned (.int .i64 12) : Ending) = .returned (.int .i64 (wriE s ⟨xk, xd, xg⟩)) ∧ RSPo w b (.slice a s.ws.length cap) (wriS s ⟨xk, xd, xg⟩) w5) := fun w5 E h5 => (HNO.out _ 12 E (by decide) h5).out
          obtain ⟨i0, hi, hz0, hz1, hz2⟩ := info_parts wrInfo
          rw [hoo] at OW
          clear ho B h RX HNO hl n1 n2 n3 hin HT hoo
          cases xg
          · clear hgg
            go_enter Tryz.func37, Tryz.ntmps37
            go_wp2_with fail
            refine IN.mono ?_
            rintro e w1 ⟨rfl, hb1⟩
            obtain ⟨S1, X1, hbw⟩ := GO.out w1 hb1
            clear k8 x0 x1 x2 IN GO hb1
            have y0 := X1.cell 0 _ rfl
            have y1 := X1.cell 1 _ rfl
            have y2 := X1.cell 2 _ rfl
            have OW1 := OW.out w1 S1
            cases hw : ownW s.ws xk with
            | some y =>
              rw [hw, show (some y).isSome = true from rfl, show wrV ⟨ok, od, og⟩ = .agg #[.int .i64 ok, .string od, .bool og] from rfl] at OW1
              have HE : Hid (wriE s ⟨xk, xd, false⟩ = 0 ∧ wriS s ⟨xk, xd, false⟩ = { s with ws := s.ws ++ [⟨xk, xd, false⟩] }) := HF.out (fun e => by rw [hw] at e; cases e.1)
              clear hw OW ALL FIN HF HF2
              go_wp2_with fail
              refine OW1.mono ?_
              rintro e w2 ⟨rfl, hb2⟩
              have hb3 := boxed hb2 (.cells #[.int .i64 ok, .string od, .bool og] 83)
              have S3 := S1.later hb3
              have X3 := X1.later hb3
              have hbw3 := behind hbw hb3
              obtain ⟨W3, hW3⟩ : ∃ W3, w2.alloc (.cells #[.int .i64 ok, .string od, .bool og] 83) = W3 := ⟨_, rfl⟩
              rw [hW3] at S3 X3 hbw3
              clear y0 y1 y2 OW1 hb2 S1 X1 hb3
              go_wp2_with (rw [hW3])
              have S4 : RSes W3.drew b (.slice a s.ws.length cap) s := S3.later ((Below.refl _ W3).drew)
              have own4 := S4.row
              have hbl : b < W3.heap.size := S4.box.lt
              have hxl : w.heap.size < W3.heap.size := X3.lt
              have z9 := S3.box.cell 9 _ rfl
              have g9 := S3.box.free 9 (by simp [rsesC])
              have y0 := X3.cell 0 _ rfl
              have y1 := X3.cell 1 _ rfl
              have y2 := X3.cell 2 _ rfl
              go_region_law (refine step_append_lies _ rfl (.tmp 46) (.tmp 48) 42 rfl 0 83 i0 (.agg #[.int .i64 0, .string ⟨#[]⟩, .bool false]) 3 32 Tryz.underlying42 hi hz0 hz1 hz2 rfl (by decide) (.slice a s.ws.length cap) s.ws.length (wrsC s.ws) (by simp [Act.eval]) (own4.alloc _) ⟨W3.heap.size, 0, none⟩ 1 1 (wrC ⟨xk, xd, false⟩) (by simp [Act.eval]) rfl (World.news_of_block (heap_alloc_new W3.drew (.cells #[.int .i64 xk, .string xd, .bool false] 83))) (by intro u hu; simp [wrC] at hu; rcases hu with rfl | rfl | rfl <;> rfl) (by decide) (by have := HL.out; simp only [maxLen]; omega) (by have := HL.out; omega) (by simp) _ rfl ?_
                             intro g cap9 wE ownE grE egE ltE
                             have BE := ((S4.box).boxed (.cells #[.int .i64 xk, .string xd, .bool false] 83)).grown grE (fun e => S4.nb e.symm)
                             have e9 := BE.cell 9 _ rfl
                             have h9 := BE.free 9 (by simp [rsesC]))
              all_goals
                have FN := app_box HS.out (boxed ((behind hbw3 ((Below.refl _ W3).drew))) (.cells #[.int .i64 xk, .string xd, .bool false] 83)) ownE grE egE (by simp)
                clear BE z9 g9 y0 y1 y2 S4 own4
                go_wp2_with fail
                go_ret
                refine ⟨by rw [HE.out.1]; rfl, ?_⟩
                rw [HE.out.2]
                exact FN
            | none =>
              rw [hw, show (none : Option Wr).isSome = false from rfl, show wrV ⟨ok, od, og⟩ = .agg #[.int .i64 ok, .string od, .bool og] from rfl] at OW1
              go_wp2_with fail
              refine OW1.mono ?_
              rintro e w2 ⟨rfl, hb2⟩
              have hb3 := boxed hb2 (.cells #[.int .i64 ok, .string od, .bool og] 83)
              have S3 := S1.later hb3
              have X3 := X1.later hb3
              have hbw3 := behind hbw hb3
              obtain ⟨W3, hW3⟩ : ∃ W3, w2.alloc (.cells #[.int .i64 ok, .string od, .bool og] 83) = W3 := ⟨_, rfl⟩
              rw [hW3] at S3 X3 hbw3
              have AL := ALL.out W3 S3
              clear y0 y1 y2 OW1 hb2 S1 X1 hb3
              go_wp2_with (rw [hW3])
              refine AL.mono ?_
              rintro e w4 ⟨v, rfl, ownv, hb4⟩
              obtain ⟨va, vc, rfl, hWv⟩ := wrIn_own ownv
              have SA := S3.later hb4
              have XA := X3.later hb4
              have hbwA := behind hbw3 hb4
              clear AL hWv ownv S3 X3
              by_cases h5 : (5 : Int) ≤ ((allW s.ws).length : Int)
              · have FN := FIN.out w4 (HF2.out ⟨hw, by omega⟩) hbwA
                clear hw OW ALL FIN HF HF2
                go_wp2_with fail
                go_ret
                exact FN
              · have HE : Hid (wriE s ⟨xk, xd, false⟩ = 0 ∧ wriS s ⟨xk, xd, false⟩ = { s with ws := s.ws ++ [⟨xk, xd, false⟩] }) := HF.out (fun e => by have := e.2; omega)
                clear hw OW ALL FIN HF HF2
                go_wp2_with fail
                have S4 : RSes w4.drew b (.slice a s.ws.length cap) s := SA.later ((Below.refl _ w4).drew)
                have own4 := S4.row
                have hbl : b < w4.heap.size := S4.box.lt
                have hxl : w.heap.size < w4.heap.size := XA.lt
                have z9 := SA.box.cell 9 _ rfl
                have g9 := SA.box.free 9 (by simp [rsesC])
                have y0 := XA.cell 0 _ rfl
                have y1 := XA.cell 1 _ rfl
                have y2 := XA.cell 2 _ rfl
                go_region_law (refine step_append_lies _ rfl (.tmp 46) (.tmp 48) 42 rfl 0 83 i0 (.agg #[.int .i64 0, .string ⟨#[]⟩, .bool false]) 3 32 Tryz.underlying42 hi hz0 hz1 hz2 rfl (by decide) (.slice a s.ws.length cap) s.ws.length (wrsC s.ws) (by simp [Act.eval]) (own4.alloc _) ⟨w4.heap.size, 0, none⟩ 1 1 (wrC ⟨xk, xd, false⟩) (by simp [Act.eval]) rfl (World.news_of_block (heap_alloc_new w4.drew (.cells #[.int .i64 xk, .string xd, .bool false] 83))) (by intro u hu; simp [wrC] at hu; rcases hu with rfl | rfl | rfl <;> rfl) (by decide) (by have := HL.out; simp only [maxLen]; omega) (by have := HL.out; omega) (by simp) _ rfl ?_
                               intro g cap9 wE ownE grE egE ltE
                               have BE := ((S4.box).boxed (.cells #[.int .i64 xk, .string xd, .bool false] 83)).grown grE (fun e => S4.nb e.symm)
                               have e9 := BE.cell 9 _ rfl
                               have h9 := BE.free 9 (by simp [rsesC]))
                all_goals
                  have FN := app_box HS.out (boxed ((behind hbwA ((Below.refl _ w4).drew))) (.cells #[.int .i64 xk, .string xd, .bool false] 83)) ownE grE egE (by simp)
                  clear BE z9 g9 y0 y1 y2 S4 own4
                  go_wp2_with fail
                  go_ret
                  refine ⟨by rw [HE.out.1]; rfl, ?_⟩
                  rw [HE.out.2]
                  exact FN
          · have hee : xd.toList.isEmpty = true := by simpa using hgg
            clear hgg
            go_enter Tryz.func37, Tryz.ntmps37
            go_wp2_with fail
            refine IN.mono ?_
            rintro e w1 ⟨rfl, hb1⟩
            obtain ⟨S1, X1, hbw⟩ := GO.out w1 hb1
            clear k8 x0 x1 x2 IN GO hb1
            have y0 := X1.cell 0 _ rfl
            have y1 := X1.cell 1 _ rfl
            have y2 := X1.cell 2 _ rfl
            have OW1 := OW.out w1 S1
            cases hw : ownW s.ws xk with
            | some y =>
              rw [hw, show (some y).isSome = true from rfl, show wrV ⟨ok, od, og⟩ = .agg #[.int .i64 ok, .string od, .bool og] from rfl] at OW1
              have HE : Hid (wriE s ⟨xk, xd, true⟩ = 0 ∧ wriS s ⟨xk, xd, true⟩ = { s with ws := s.ws ++ [⟨xk, xd, true⟩] }) := HF.out (fun e => by rw [hw] at e; cases e.1)
              clear hw OW ALL FIN HF HF2
              go_wp2_with fail
              refine OW1.mono ?_
              rintro e w2 ⟨rfl, hb2⟩
              have hb3 := boxed hb2 (.cells #[.int .i64 ok, .string od, .bool og] 83)
              have S3 := S1.later hb3
              have X3 := X1.later hb3
              have hbw3 := behind hbw hb3
              obtain ⟨W3, hW3⟩ : ∃ W3, w2.alloc (.cells #[.int .i64 ok, .string od, .bool og] 83) = W3 := ⟨_, rfl⟩
              rw [hW3] at S3 X3 hbw3
              clear y0 y1 y2 OW1 hb2 S1 X1 hb3
              go_wp2_with (rw [hW3])
              have S4 : RSes W3.drew b (.slice a s.ws.length cap) s := S3.later ((Below.refl _ W3).drew)
              have own4 := S4.row
              have hbl : b < W3.heap.size := S4.box.lt
              have hxl : w.heap.size < W3.heap.size := X3.lt
              have z9 := S3.box.cell 9 _ rfl
              have g9 := S3.box.free 9 (by simp [rsesC])
              have y0 := X3.cell 0 _ rfl
              have y1 := X3.cell 1 _ rfl
              have y2 := X3.cell 2 _ rfl
              go_region_law (refine step_append_lies _ rfl (.tmp 46) (.tmp 48) 42 rfl 0 83 i0 (.agg #[.int .i64 0, .string ⟨#[]⟩, .bool false]) 3 32 Tryz.underlying42 hi hz0 hz1 hz2 rfl (by decide) (.slice a s.ws.length cap) s.ws.length (wrsC s.ws) (by simp [Act.eval]) (own4.alloc _) ⟨W3.heap.size, 0, none⟩ 1 1 (wrC ⟨xk, xd, true⟩) (by simp [Act.eval]) rfl (World.news_of_block (heap_alloc_new W3.drew (.cells #[.int .i64 xk, .string xd, .bool true] 83))) (by intro u hu; simp [wrC] at hu; rcases hu with rfl | rfl | rfl <;> rfl) (by decide) (by have := HL.out; simp only [maxLen]; omega) (by have := HL.out; omega) (by simp) _ rfl ?_
                             intro g cap9 wE ownE grE egE ltE
                             have BE := ((S4.box).boxed (.cells #[.int .i64 xk, .string xd, .bool true] 83)).grown grE (fun e => S4.nb e.symm)
                             have e9 := BE.cell 9 _ rfl
                             have h9 := BE.free 9 (by simp [rsesC]))
              all_goals
                have FN := app_box HS.out (boxed ((behind hbw3 ((Below.refl _ W3).drew))) (.cells #[.int .i64 xk, .string xd, .bool true] 83)) ownE grE egE (by simp)
                clear BE z9 g9 y0 y1 y2 S4 own4
                go_wp2_with fail
                go_ret
                refine ⟨by rw [HE.out.1]; rfl, ?_⟩
                rw [HE.out.2]
                exact FN
            | none =>
              rw [hw, show (none : Option Wr).isSome = false from rfl, show wrV ⟨ok, od, og⟩ = .agg #[.int .i64 ok, .string od, .bool og] from rfl] at OW1
              go_wp2_with fail
              refine OW1.mono ?_
              rintro e w2 ⟨rfl, hb2⟩
              have hb3 := boxed hb2 (.cells #[.int .i64 ok, .string od, .bool og] 83)
              have S3 := S1.later hb3
              have X3 := X1.later hb3
              have hbw3 := behind hbw hb3
              obtain ⟨W3, hW3⟩ : ∃ W3, w2.alloc (.cells #[.int .i64 ok, .string od, .bool og] 83) = W3 := ⟨_, rfl⟩
              rw [hW3] at S3 X3 hbw3
              have AL := ALL.out W3 S3
              clear y0 y1 y2 OW1 hb2 S1 X1 hb3
              go_wp2_with (rw [hW3])
              refine AL.mono ?_
              rintro e w4 ⟨v, rfl, ownv, hb4⟩
              obtain ⟨va, vc, rfl, hWv⟩ := wrIn_own ownv
              have SA := S3.later hb4
              have XA := X3.later hb4
              have hbwA := behind hbw3 hb4
              clear AL hWv ownv S3 X3
              by_cases h5 : (5 : Int) ≤ ((allW s.ws).length : Int)
              · have FN := FIN.out w4 (HF2.out ⟨hw, by omega⟩) hbwA
                clear hw OW ALL FIN HF HF2
                go_wp2_with fail
                go_ret
                exact FN
              · have HE : Hid (wriE s ⟨xk, xd, true⟩ = 0 ∧ wriS s ⟨xk, xd, true⟩ = { s with ws := s.ws ++ [⟨xk, xd, true⟩] }) := HF.out (fun e => by have := e.2; omega)
                clear hw OW ALL FIN HF HF2
                go_wp2_with fail
                have S4 : RSes w4.drew b (.slice a s.ws.length cap) s := SA.later ((Below.refl _ w4).drew)
                have own4 := S4.row
                have hbl : b < w4.heap.size := S4.box.lt
                have hxl : w.heap.size < w4.heap.size := XA.lt
                have z9 := SA.box.cell 9 _ rfl
                have g9 := SA.box.free 9 (by simp [rsesC])
                have y0 := XA.cell 0 _ rfl
                have y1 := XA.cell 1 _ rfl
                have y2 := XA.cell 2 _ rfl
                go_region_law (refine step_append_lies _ rfl (.tmp 46) (.tmp 48) 42 rfl 0 83 i0 (.agg #[.int .i64 0, .string ⟨#[]⟩, .bool false]) 3 32 Tryz.underlying42 hi hz0 hz1 hz2 rfl (by decide) (.slice a s.ws.length cap) s.ws.length (wrsC s.ws) (by simp [Act.eval]) (own4.alloc _) ⟨w4.heap.size, 0, none⟩ 1 1 (wrC ⟨xk, xd, true⟩) (by simp [Act.eval]) rfl (World.news_of_block (heap_alloc_new w4.drew (.cells #[.int .i64 xk, .string xd, .bool true] 83))) (by intro u hu; simp [wrC] at hu; rcases hu with rfl | rfl | rfl <;> rfl) (by decide) (by have := HL.out; simp only [maxLen]; omega) (by have := HL.out; omega) (by simp) _ rfl ?_
                               intro g cap9 wE ownE grE egE ltE
                               have BE := ((S4.box).boxed (.cells #[.int .i64 xk, .string xd, .bool true] 83)).grown grE (fun e => S4.nb e.symm)
                               have e9 := BE.cell 9 _ rfl
                               have h9 := BE.free 9 (by simp [rsesC]))
                all_goals
                  have FN := app_box HS.out (boxed ((behind hbwA ((Below.refl _ w4).drew))) (.cells #[.int .i64 xk, .string xd, .bool true] 83)) ownE grE egE (by simp)
                  clear BE z9 g9 y0 y1 y2 S4 own4
                  go_wp2_with fail
                  go_ret
                  refine ⟨by rw [HE.out.1]; rfl, ?_⟩
                  rw [HE.out.2]
                  exact FN
        · simp only [Bool.and_eq_true, Bool.not_eq_true'] at hgg
          obtain ⟨rfl, hee⟩ := hgg
          have E : wriE s ⟨xk, xd, true⟩ = 1 := by unfold wriE; rw [if_neg n1, if_neg n2, if_neg n3, if_pos ⟨rfl, emptyR hee⟩]
          have FIN : Hid (∀ w5, Below w.heap.size w w5 → (.returned (.int .i64 1) : Ending) = .returned (.int .i64 (wriE s ⟨xk, xd, true⟩)) ∧ RSPo w b (.slice a s.ws.length cap) (wriS s ⟨xk, xd, true⟩) w5) := fun w5 h5 => (HNO.out _ 1 E (by decide) h5).out
          clear E ho B h RX HNO hl n1 n2 hin n3
          go_enter Tryz.func37, Tryz.ntmps37
          go_wp2_with fail
          refine IN.mono ?_
          rintro e w1 ⟨rfl, hb1⟩
          obtain ⟨_, X1, hbw⟩ := GO.out w1 hb1
          clear k8 x0 x1 x2
          have y0 := X1.cell 0 _ rfl
          have y1 := X1.cell 1 _ rfl
          have y2 := X1.cell 2 _ rfl
          go_wp2_with fail
          go_ret
          exact FIN.out _ hbw

end Go.Proofs.YtpncedpfoakfkaaGreatDoor
