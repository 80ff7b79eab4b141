import Derived.Test.YtoanjdndmlffdaaGreatDoorPSesB
namespace Go.Proofs.YtoanjdndmlffdaaGreatDoor
open Go.RowKit Go.Maps
theorem put_box {w w5 w2 : World} {b bm : Nat} {G : Nat → Prop} {s : SesS} {x : Wr} (hG : ∀ k, G k ↔ (k = b ∨ k = bm)) (hne : bm ≠ b) (ho : s.opn = true) (hb : Below w.heap.size w w5) (B : RowL w5 b (psesC s (.map (some bm)))) (M2 : WMap w2 bm (s.ws ++ [x])) (gr : w5.grownBy w2 (some bm)) : PSPo w b G { s with ws := s.ws ++ [x] } w2 := by
  refine ⟨G, ⟨.map (some bm), B.grown gr (fun e => hne (by injection e with e; exact e.symm)), .inr ⟨ho, bm, rfl, hne, M2, hG⟩⟩, fun k hk => .inl hk, ?_⟩
  exact (Touch.ofBelow hb).trans (Touch.grown gr (fun k e => (hG k).2 (.inr (by injection e with e; exact e.symm))))
theorem empty_size {d : ByteArray} (h : d.toList.isEmpty = false) : d.size ≠ 0 := fun e => by
  rw [byteList] at h
  have := toL_length d
  rw [e] at this
  rw [List.length_eq_zero_iff.1 this] at h
  cases h
theorem empty_size' {d : ByteArray} (h : d.toList.isEmpty = true) : d.size = 0 := by
  rw [byteList, List.isEmpty_iff] at h
  rw [← toL_length, h]
  rfl

set_option maxRecDepth 100000 in
set_option maxHeartbeats 8000000 in
theorem pwrite_any {b : Nat} {G : Nat → Prop} {s : SesS} (x : Wr) (w : World) (h : PSe w b G s) :
    Calls Tryz.prog 155 #[.pointer (some ⟨b, 0, none⟩), wrV x] w fun e w' => e = .returned (errV (wriE s x)) ∧ PSPo w b G (wriS s x) w' := by
  have NO : ∀ w9 ev, wriE s x = ev → ev ≠ 0 → Below w.heap.size w w9 → Hid ((.returned (errV ev) : Ending) = .returned (errV (wriE s x)) ∧ PSPo w b G (wriS s x) w9) := fun w9 ev e1 e2 e3 => by
    show _ ∧ _
    rw [e1, show wriS s x = s by unfold wriS; rw [if_neg (by rw [e1]; exact e2)]]
    exact ⟨rfl, PSPo.same h e3⟩
  obtain ⟨xk, xd, xg⟩ := x
  obtain ⟨mv, B0, hm⟩ := h
  have hb := boxed (Below.refl _ w) (.cells #[.int .i64 xk, .string xd, .bool xg] 100)
  have RX := RowL.new (w := w) (T := 100) [.int .i64 xk, .string xd, .bool xg] rfl
  change RowL (w.alloc (.cells #[.int .i64 xk, .string xd, .bool xg] 100)) w.heap.size [.int .i64 xk, .string xd, .bool xg] at RX
  have B := B0.later hb
  have HNO : Hid (∀ w9 ev, wriE s ⟨xk, xd, xg⟩ = ev → ev ≠ 0 → Below w.heap.size w w9 → Hid ((.returned (errV ev) : Ending) = .returned (errV (wriE s ⟨xk, xd, xg⟩)) ∧ PSPo w b G (wriS s ⟨xk, xd, xg⟩) w9)) := NO
  clear NO
  show Calls Tryz.prog 155 #[.pointer (some ⟨b, 0, none⟩), .agg #[.int .i64 xk, .string xd, .bool xg]] w _
  have k4 := B.cell 4 _ rfl
  rcases hm with ⟨ho, rfl, _, _⟩ | ⟨ho, bm, rfl, hne, hM, hG⟩
  · rw [ho] at k4
    have E : wriE s ⟨xk, xd, xg⟩ = 6 := by unfold wriE; rw [if_pos ho]
    have FIN := (HNO.out _ 6 E (by decide) hb).out
    clear E ho B B0 RX HNO
    go_enter Tryz.func155, Tryz.ntmps155
    go_wp2_with fail
    go_ret
    exact FIN
  · rw [ho] at k4
    have n1 : ¬ s.opn = false := by rw [ho]; decide
    by_cases hk0 : xk < 0
    · have E : wriE s ⟨xk, xd, xg⟩ = 2 := by unfold wriE; rw [if_neg n1, if_pos (.inl hk0)]
      have FIN := (HNO.out _ 2 E (by decide) hb).out
      clear E ho B B0 RX HNO n1 hM hG hne
      go_enter Tryz.func155, Tryz.ntmps155
      go_wp2_with fail
      go_ret
      exact FIN
    · by_cases hk8 : 8 ≤ xk
      · have E : wriE s ⟨xk, xd, xg⟩ = 2 := by unfold wriE; rw [if_neg n1, if_pos (.inr hk8)]
        have FIN := (HNO.out _ 2 E (by decide) hb).out
        clear E ho B B0 RX HNO n1 hM hG hne
        go_enter Tryz.func155, Tryz.ntmps155
        go_wp2_with fail
        go_ret
        exact FIN
      · have n2 : ¬ (xk < 0 ∨ 8 ≤ xk) := by omega
        by_cases hlen : 12 < (xd.size : Int)
        · have E : wriE s ⟨xk, xd, xg⟩ = 4 := by unfold wriE; rw [if_neg n1, if_neg n2, if_pos (by show 12 < xd.size; omega)]
          have FIN := (HNO.out _ 4 E (by decide) hb).out
          clear E ho B B0 RX HNO n1 n2 hM hG hne
          go_enter Tryz.func155, Tryz.ntmps155
          go_wp2_with fail
          go_ret
          exact FIN
        · have n3 : ¬ 12 < xd.size := by omega
          have TAIL : ∀ g : Bool, xg = g → (g = false ∨ xd.toList.isEmpty = true) → Hid (¬ (xg = true ∧ xd.size ≠ 0)) := fun g e h => by
            show ¬ _
            rintro ⟨e1, e2⟩
            rcases h with h | h
            · rw [e1] at e; rw [← e] at h; cases h
            · exact e2 (empty_size' h)
          have RM : Hid (∀ {v : Bool}, decide (ownW s.ws xk = none ∧ 5 ≤ (allW s.ws).length) = !v → Calls Tryz.prog 213 #[.pointer (some ⟨b, 0, none⟩), .int .i64 xk] (w.alloc (.cells #[.int .i64 xk, .string xd, .bool xg] 100)) fun e w' => e = .returned (.bool v) ∧ Below (w.alloc (.cells #[.int .i64 xk, .string xd, .bool xg] 100)).heap.size (w.alloc (.cells #[.int .i64 xk, .string xd, .bool xg] 100)) w') := fun hv => hasRoom_any xk (wf_i ⟨by omega, by omega⟩) _ B (hM.later hb) hv
          have KEY : Hid (keyOf Tryz.prog 3 (.int .i64 xk) = some (.int .i64 xk)) := intKey ⟨by omega, by omega⟩
          have H0 : Hid (RowL w b (psesC s (.map (some bm))) ∧ WMap w bm s.ws ∧ bm ≠ b ∧ (∀ k, G k ↔ (k = b ∨ k = bm)) ∧ s.opn = true ∧ ¬ s.opn = false ∧ ¬ (xk < 0 ∨ 8 ≤ xk) ∧ ¬ 12 < xd.size ∧ 0 ≤ xk ∧ xk < 8) := ⟨B0, hM, hne, hG, ho, n1, n2, n3, by omega, by omega⟩
          cases hgg : (xg && !xd.toList.isEmpty)
          · have HT : Hid (¬ (xg = true ∧ xd.size ≠ 0)) := by
              cases xg
              · exact TAIL false rfl (.inl rfl)
              · exact TAIL true rfl (.inr (by simpa using hgg))
            clear TAIL
            cases hv : decide (ownW s.ws xk = none ∧ 5 ≤ (allW s.ws).length)
            · have HR := RM.out (v := true) (by rw [hv]; rfl)
              have HE : Hid (wriE s ⟨xk, xd, xg⟩ = 0) := by
                show _ = _
                unfold wriE
                rw [if_neg H0.out.2.2.2.2.2.1, if_neg H0.out.2.2.2.2.2.2.1, if_neg H0.out.2.2.2.2.2.2.2.1, if_neg HT.out, if_neg (of_decide_eq_false hv)]
              clear B B0 ho n1 n2 n3 hM hG hne hv HT RM HNO
              have HRX : Hid (RowL (w.alloc (.cells #[.int .i64 xk, .string xd, .bool xg] 100)) w.heap.size [.int .i64 xk, .string xd, .bool xg]) := RX
              have GO : Hid (∀ w5, Below (w.alloc (.cells #[.int .i64 xk, .string xd, .bool xg] 100)).heap.size (w.alloc (.cells #[.int .i64 xk, .string xd, .bool xg] 100)) w5 → RowL w5 b (psesC s (.map (some bm))) ∧ WMap w5 bm s.ws ∧ RowL w5 w.heap.size [.int .i64 xk, .string xd, .bool xg] ∧ Below w.heap.size w w5) := fun w5 h5 => ⟨(H0.out.1.later hb).later h5, (H0.out.2.1.later hb).later h5, HRX.out.later h5, behind hb h5⟩
              cases xg
              · clear hgg RX
                go_enter Tryz.func155, Tryz.ntmps155
                go_wp2_with fail
                refine HR.mono ?_
                rintro e w5 ⟨rfl, hb5⟩
                obtain ⟨B5, M5, X5, hbw⟩ := GO.out w5 hb5
                obtain ⟨q1, D, own5, q4⟩ := M5
                have HQ : Hid ((∀ x ∈ s.ws, 0 ≤ x.key ∧ x.key < 8) ∧ w5.ownsMap Tryz.prog 3 heldR bm (allW s.ws).length D ∧ WMapIs D s.ws) := ⟨q1, own5, q4⟩
                have own6 : w5.drew.ownsMap Tryz.prog 3 heldR bm (allW s.ws).length D := own5
                have HB5 : Hid (RowL w5 b (psesC s (.map (some bm)))) := B5
                have HL8 : Hid ((allW s.ws).length ≤ 8) := allTo_len s.ws 8
                obtain ⟨w7, hrun, own7, turn7⟩ := own6.store intLaw Tryz.underlying221 (by have := HL8.out; simp only [maxLen]; omega) KEY.out (val := .agg #[.int .i64 xk, .string xd, .bool false]) (d := .held (.agg #[.int .i64 xk, .string xd, .bool false])) (ps := []) rfl
                clear k4 q1 q4 own5 hb5
                go_wp2_with fail
                have k9 := B5.cell 9 _ rfl
                have x0 := X5.cell 0 _ rfl
                have x1 := X5.cell 1 _ rfl
                have x2 := X5.cell 2 _ rfl
                go_region
                all_goals
                  have M7 := WMap.put HQ.out.1 HQ.out.2.1 HQ.out.2.2 (x := ⟨xk, xd, false⟩) H0.out.2.2.2.2.2.2.2.2.1 H0.out.2.2.2.2.2.2.2.2.2 own7
                  have g7 := turn7.grown
                  have gr : w5.grownBy w7 (some bm) := ⟨g7.os, g7.tape, g7.output, g7.size, g7.block⟩
                  have FIN := put_box H0.out.2.2.2.1 H0.out.2.2.1 H0.out.2.2.2.2.1 hbw HB5.out M7 gr
                  clear B5 X5 k9 x0 x1 x2 own6 own7 hrun
                  go_wp2_with fail
                  go_ret
                  refine ⟨by rw [HE.out]; rfl, ?_⟩
                  rw [show wriS s ⟨xk, xd, false⟩ = { s with ws := s.ws ++ [⟨xk, xd, false⟩] } by unfold wriS; rw [if_pos HE.out]]
                  exact FIN
              · have hee : xd.toList.isEmpty = true := by simpa using hgg
                clear hgg RX
                go_enter Tryz.func155, Tryz.ntmps155
                go_wp2_with fail
                refine HR.mono ?_
                rintro e w5 ⟨rfl, hb5⟩
                obtain ⟨B5, M5, X5, hbw⟩ := GO.out w5 hb5
                obtain ⟨q1, D, own5, q4⟩ := M5
                have HQ : Hid ((∀ x ∈ s.ws, 0 ≤ x.key ∧ x.key < 8) ∧ w5.ownsMap Tryz.prog 3 heldR bm (allW s.ws).length D ∧ WMapIs D s.ws) := ⟨q1, own5, q4⟩
                have own6 : w5.drew.ownsMap Tryz.prog 3 heldR bm (allW s.ws).length D := own5
                have HB5 : Hid (RowL w5 b (psesC s (.map (some bm)))) := B5
                have HL8 : Hid ((allW s.ws).length ≤ 8) := allTo_len s.ws 8
                obtain ⟨w7, hrun, own7, turn7⟩ := own6.store intLaw Tryz.underlying221 (by have := HL8.out; simp only [maxLen]; omega) KEY.out (val := .agg #[.int .i64 xk, .string xd, .bool true]) (d := .held (.agg #[.int .i64 xk, .string xd, .bool true])) (ps := []) rfl
                clear k4 q1 q4 own5 hb5
                go_wp2_with fail
                have k9 := B5.cell 9 _ rfl
                have x0 := X5.cell 0 _ rfl
                have x1 := X5.cell 1 _ rfl
                have x2 := X5.cell 2 _ rfl
                go_region
                all_goals
                  have M7 := WMap.put HQ.out.1 HQ.out.2.1 HQ.out.2.2 (x := ⟨xk, xd, true⟩) H0.out.2.2.2.2.2.2.2.2.1 H0.out.2.2.2.2.2.2.2.2.2 own7
                  have g7 := turn7.grown
                  have gr : w5.grownBy w7 (some bm) := ⟨g7.os, g7.tape, g7.output, g7.size, g7.block⟩
                  have FIN := put_box H0.out.2.2.2.1 H0.out.2.2.1 H0.out.2.2.2.2.1 hbw HB5.out M7 gr
                  clear B5 X5 k9 x0 x1 x2 own6 own7 hrun
                  go_wp2_with fail
                  go_ret
                  refine ⟨by rw [HE.out]; rfl, ?_⟩
                  rw [show wriS s ⟨xk, xd, true⟩ = { s with ws := s.ws ++ [⟨xk, xd, true⟩] } by unfold wriS; rw [if_pos HE.out]]
                  exact FIN
            · have HR := RM.out (v := false) (by rw [hv]; rfl)
              have E : wriE s ⟨xk, xd, xg⟩ = 12 := by unfold wriE; rw [if_neg n1, if_neg n2, if_neg n3, if_neg HT.out, if_pos (of_decide_eq_true hv)]
              have FIN : Hid (∀ w5, Below (w.alloc (.cells #[.int .i64 xk, .string xd, .bool xg] 100)).heap.size (w.alloc (.cells #[.int .i64 xk, .string xd, .bool xg] 100)) w5 → (.returned (errV 12) : Ending) = .returned (errV (wriE s ⟨xk, xd, xg⟩)) ∧ PSPo w b G (wriS s ⟨xk, xd, xg⟩) w5) := fun w5 h5 => (HNO.out _ 12 E (by decide) (behind hb h5)).out
              clear E B B0 ho n1 n2 n3 hM hG hne hv HT RM HNO
              cases xg
              all_goals
                (try have hee : xd.toList.isEmpty = true := by simpa using hgg)
                clear hgg
                go_enter Tryz.func155, Tryz.ntmps155
                go_wp2_with fail
                refine HR.mono ?_
                rintro e w5 ⟨rfl, hb5⟩
                clear k4 RX
                go_wp2_with fail
                go_ret
                exact FIN.out w5 hb5
          · simp only [Bool.and_eq_true, Bool.not_eq_true'] at hgg
            obtain ⟨rfl, hee⟩ := hgg
            have E : wriE s ⟨xk, xd, true⟩ = 1 := by unfold wriE; rw [if_neg n1, if_neg n2, if_neg n3, if_pos ⟨rfl, empty_size hee⟩]
            have FIN := (HNO.out _ 1 E (by decide) hb).out
            clear E ho B B0 RX HNO n1 n2 n3 hM hG hne TAIL RM H0 KEY
            go_enter Tryz.func155, Tryz.ntmps155
            go_wp2_with fail
            go_ret
            exact FIN
end Go.Proofs.YtoanjdndmlffdaaGreatDoor
