/-
  All that may be applied is, at a site of the document (copseref.Site.Take's outer loop), as the model runs it, whatever the rest of the frame is.
-/
import Derived.Test.YtpncedpfoakfkaaGreatDoorSiteI
import Derived.Test.YtpncedpfoakfkaaGreatDoorRTakeC0
import Derived.Test.YtpncedpfoakfkaaGreatDoorRTakeA
namespace Go.Proofs.YtpncedpfoakfkaaGreatDoor
open Go.RowKit

noncomputable def takeL2 : Code := ((Tryz.f12.body.bind (findLoop 16)).getD .skip)

set_option maxRecDepth 1000000 in
set_option maxHeartbeats 16000000 in
theorem takeL2_any {b : Nat} {G : Nat → Prop} {S : SiteS} {y1 y2 y3 y4 y5 y6 y7 y8 y9 y10 y11 y12 y13 y14 y15 y16 y17 y18 y19 y20 y21 y22 y23 y24 y25 y26 y27 y28 y29 y30 y31 y32 y33 y34 y35 y36 y37 y38 y39 y40 y41 y42 y43 y44 y45 y46 y47 y48 y49 y50 y51 y52 y53 y54 y55 y56 y57 y58 y59 y60 y61 y62 y63 y64 y65 y66 y67 y68 y69 y70 y71 y72 y73 y74 y75 y76 y77 y78 y79 y80 y81 y82 y83 y84 y85 y86 y87 y88 y89 y90 y91 y92 y93 y94 y95 y96 y97 y98 y99 y100 y101 y102 y103 y104 y105 y106 y107 y108 y109 y110 y111 y112 y113 y114 y115 y116 y117 y118 y119 y120 y121 y122 y123 y124 y125 y126 y127 y128 y129 y130 y131 y132 y133 y134 y135 y136 y137 y138 y139 y140 y141 y142 y143 y144 y145 y146 y147 y148 y149 y150 y151 y152 y153 y154 y155 y156 y157 y158 y159 y160 y161 y162 y163 y164 y165 y166 y167 y168 y169 y170 y171 y172 y173 y174 y175 y176 y177 y178 y179 y180 y181 y182 y183 y184 y185 y186 y187 y188 y189 y190 y191 y192 y193 y194 y195 y196 : Value} (w : World) (M0 : RGoM w b G S S w) (R : Act → World → Prop)
    (hR : ∀ (u8 u9 u10 u11 u111 u112 u113 u114 u115 u116 u117 u118 u119 u120 u121 u122 u123 u124 u125 u126 u127 u128 u129 u130 u131 u132 u133 u134 u135 u136 u137 u138 u139 u140 u141 u142 u143 u144 u145 u146 u147 u148 u149 u150 u151 u152 u153 u154 u155 u156 u157 u158 u159 u160 u161 u162 u163 u164 u165 u166 u167 u168 u169 u170 u171 u172 u173 u174 u175 u176 u177 u178 u179 u180 u181 u182 u183 u184 u185 u186 u187 u188 u189 u190 u191 u192 u193 u194 u195 u196 : Value) (S' : SiteS) (w' : World), Goes S S' → RPo w b G S' w' → R ⟨List.toArray ((.pointer (some ⟨b, 0, none⟩)) :: y1 :: y2 :: y3 :: y4 :: y5 :: y6 :: y7 :: u8 :: u9 :: u10 :: u11 :: y12 :: y13 :: y14 :: y15 :: y16 :: y17 :: y18 :: y19 :: y20 :: y21 :: y22 :: y23 :: y24 :: y25 :: y26 :: y27 :: y28 :: y29 :: y30 :: y31 :: y32 :: y33 :: y34 :: y35 :: y36 :: y37 :: y38 :: y39 :: y40 :: y41 :: y42 :: y43 :: y44 :: y45 :: y46 :: y47 :: y48 :: y49 :: y50 :: y51 :: y52 :: y53 :: y54 :: y55 :: y56 :: y57 :: y58 :: y59 :: y60 :: y61 :: y62 :: y63 :: y64 :: y65 :: y66 :: y67 :: y68 :: y69 :: y70 :: y71 :: y72 :: y73 :: y74 :: y75 :: y76 :: y77 :: y78 :: y79 :: y80 :: y81 :: y82 :: y83 :: y84 :: y85 :: y86 :: y87 :: y88 :: y89 :: y90 :: y91 :: y92 :: y93 :: y94 :: y95 :: y96 :: y97 :: y98 :: y99 :: y100 :: y101 :: y102 :: y103 :: y104 :: y105 :: y106 :: y107 :: y108 :: y109 :: y110 :: u111 :: u112 :: u113 :: u114 :: u115 :: u116 :: u117 :: u118 :: u119 :: u120 :: u121 :: u122 :: u123 :: u124 :: u125 :: u126 :: u127 :: u128 :: u129 :: u130 :: u131 :: u132 :: u133 :: u134 :: u135 :: u136 :: u137 :: u138 :: u139 :: u140 :: u141 :: u142 :: u143 :: u144 :: u145 :: u146 :: u147 :: u148 :: u149 :: u150 :: u151 :: u152 :: u153 :: u154 :: u155 :: u156 :: u157 :: u158 :: u159 :: u160 :: u161 :: u162 :: u163 :: u164 :: u165 :: u166 :: u167 :: u168 :: u169 :: u170 :: u171 :: u172 :: u173 :: u174 :: u175 :: u176 :: u177 :: u178 :: u179 :: u180 :: u181 :: u182 :: u183 :: u184 :: u185 :: u186 :: u187 :: u188 :: u189 :: u190 :: u191 :: u192 :: u193 :: u194 :: u195 :: u196 :: []), []⟩ w') :
    Code.wp Tryz.prog takeL2 (fun e a w => e = .exit 2 ∧ R a w) ⟨List.toArray ((.pointer (some ⟨b, 0, none⟩)) :: y1 :: y2 :: y3 :: y4 :: y5 :: y6 :: y7 :: y8 :: y9 :: y10 :: y11 :: y12 :: y13 :: y14 :: y15 :: y16 :: y17 :: y18 :: y19 :: y20 :: y21 :: y22 :: y23 :: y24 :: y25 :: y26 :: y27 :: y28 :: y29 :: y30 :: y31 :: y32 :: y33 :: y34 :: y35 :: y36 :: y37 :: y38 :: y39 :: y40 :: y41 :: y42 :: y43 :: y44 :: y45 :: y46 :: y47 :: y48 :: y49 :: y50 :: y51 :: y52 :: y53 :: y54 :: y55 :: y56 :: y57 :: y58 :: y59 :: y60 :: y61 :: y62 :: y63 :: y64 :: y65 :: y66 :: y67 :: y68 :: y69 :: y70 :: y71 :: y72 :: y73 :: y74 :: y75 :: y76 :: y77 :: y78 :: y79 :: y80 :: y81 :: y82 :: y83 :: y84 :: y85 :: y86 :: y87 :: y88 :: y89 :: y90 :: y91 :: y92 :: y93 :: y94 :: y95 :: y96 :: y97 :: y98 :: y99 :: y100 :: y101 :: y102 :: y103 :: y104 :: y105 :: y106 :: y107 :: y108 :: y109 :: y110 :: y111 :: y112 :: y113 :: y114 :: y115 :: y116 :: y117 :: y118 :: y119 :: y120 :: y121 :: y122 :: y123 :: y124 :: y125 :: y126 :: y127 :: y128 :: y129 :: y130 :: y131 :: y132 :: y133 :: y134 :: y135 :: y136 :: y137 :: y138 :: y139 :: y140 :: y141 :: y142 :: y143 :: y144 :: y145 :: y146 :: y147 :: y148 :: y149 :: y150 :: y151 :: y152 :: y153 :: y154 :: y155 :: y156 :: y157 :: y158 :: y159 :: y160 :: y161 :: y162 :: y163 :: y164 :: y165 :: y166 :: y167 :: y168 :: y169 :: y170 :: y171 :: y172 :: y173 :: y174 :: y175 :: y176 :: y177 :: y178 :: y179 :: y180 :: y181 :: y182 :: y183 :: y184 :: y185 :: y186 :: y187 :: y188 :: y189 :: y190 :: y191 :: y192 :: y193 :: y194 :: y195 :: y196 :: []), []⟩ w := by
  have HR : Hid _ := hR
  clear hR
  conv => arg 2; whnf
  go_loopw [8] (fun _ wr => ∃ (S1 : SiteS), Hid (RGoM w b G S S1 wr)) (fun _ wr => logLeft wr b)
  case atStart => exact ⟨S, M0⟩
  case round =>
    clear M0
    obtain ⟨S1, HM⟩ := hrel
    obtain ⟨G', PG, hGG⟩ := HM.out.mem
    have LE : Hid (logLeft wr b = 200 - S1.log.length) := PG.left
    obtain ⟨lv, wv, sv, log, waits, PM, hl, hw, hG⟩ := PG
    obtain ⟨la, lc, rfl, hLT⟩ := txsIn_own PM.rlog
    obtain ⟨va, vc, rfl, hVT⟩ := txsIn_own PM.rwait
    have HPM : Hid (SMem wr b (.slice la log.length lc) (.slice va waits.length vc) sv S1 log waits ∧ log.map (·.t) = S1.log ∧ waits.map (·.t) = S1.waits ∧ (∀ k, G' k ↔ (footS b (.slice la log.length lc) (.slice va waits.length vc) sv k ∨ ∃ m ∈ log ++ waits, m.blk k)) ∧ ∀ k, G' k → G k ∨ w.heap.size ≤ k) := ⟨PM, hl, hw, hG, hGG⟩
    have HVT : Hid (TxsIn wr va vc waits) := hVT
    have hll : log.length = S1.log.length := by rw [← hl]; simp
    have hww : waits.length ≤ 1000 := by have := HM.out.wn; rw [← hw] at this; simpa using this
    have HWW : Hid (waits.length ≤ 1000) := hww
    have s7 := PM.box.cell 7 _ rfl
    have s8 := PM.box.cell 8 _ rfl
    have hvl := hVT.len
    have hvc := hVT.cap
    have hl1 := hLT.len
    have hl2 := hLT.cap
    clear PM hl hw hG hGG hVT hLT
    by_cases hf : 200 ≤ log.length
    · have HF : Hid (200 ≤ S1.log.length) := by show _ ≤ _; omega
      have h2 : ¬ (log.length : Int) < 200 := by omega
      clear hf hll
      go_wp2_with fail
      exact HR.out _ _ _ _ _ _ _ _ _ _ _ _ _ _ _ _ _ _ _ _ _ _ _ _ _ _ _ _ _ _ _ _ _ _ _ _ _ _ _ _ _ _ _ _ _ _ _ _ _ _ _ _ _ _ _ _ _ _ _ _ _ _ _ _ _ _ _ _ _ _ _ _ _ _ _ _ _ _ _ _ _ _ _ _ _ _ _ _ _ _ S1 wr (HM.out.go S1 (.full HF.out)) HM.out.done
    · have HF : Hid (S1.log.length < 200) := by show _ < _; omega
      have h2 : (log.length : Int) < 200 := by omega
      clear hf hll
      go_wp2_with fail
      refine wp_out (takeL4_any wr HPM.out.1 HPM.out.2.2.1 HM.out.inv HWW.out _ ?_)
      intro u9 u10 u122 u123 u124 u125 u126 u127 u128 u129 u130 u131 u132 u133 u134 u135 u136 u137 u138 u139 u140 u141 u142 u143 u144 u145 u146 u147 u148 u149 u150 u151 u152 u153 u154 u155 u156 u157 u158 u159 u160 u161 u162 u163 u164 u165 z w2 hB hb2
      have HM2 : Hid (RGoM w b G S S1 w2) := HM.out.later hb2
      have PM2 : Hid (SMem w2 b (.slice la log.length lc) (.slice va waits.length vc) sv S1 log waits) := HPM.out.1.later hb2
      have HV2 : Hid (TxsIn w2 va vc waits) := HVT.out.later hb2
      rcases best_end hB HPM.out.2.2.1 (fun x hx => (okT_parts (HM.out.inv.wt x hx).1).1) with ⟨rfl, hx⟩ | ⟨i, ⟨⟨xs, xq, xw, xc, e0, e1, e2, e3, xws⟩, xa, xcap⟩, hzi, hi, hx⟩
      · have HX : Hid (nextS S1 = none) := hx
        clear hx hB s7 s8 hb2
        go_wp2_with fail
        exact ⟨trivial, HR.out _ _ _ _ _ _ _ _ _ _ _ _ _ _ _ _ _ _ _ _ _ _ _ _ _ _ _ _ _ _ _ _ _ _ _ _ _ _ _ _ _ _ _ _ _ _ _ _ _ _ _ _ _ _ _ _ _ _ _ _ _ _ _ _ _ _ _ _ _ _ _ _ _ _ _ _ _ _ _ _ _ _ _ _ _ _ _ _ _ _ S1 w2 (HM.out.go S1 (.none HX.out)) HM2.out.done⟩
      · have HX : Hid (nextS S1 = some ⟨xs, xq, xw, xc, e0, e1, e2, e3, xws⟩ ∧ waits[i]? = some ⟨⟨xs, xq, xw, xc, e0, e1, e2, e3, xws⟩, xa, xcap⟩) := ⟨hx, hi⟩
        have hlt : i < waits.length := (List.getElem?_eq_some_iff.1 hi).1
        have HZI : Hid (z = i ∧ i < waits.length) := ⟨hzi, hlt⟩
        have z0 : 0 ≤ z := by omega
        have z1 : z.toNat = i := by omega
        have z2 : z < (waits.length : Int) := by omega
        have z3 : ¬ z < 0 := by omega
        obtain ⟨wb, off, hwa, hcc⟩ : ∃ wb off, va = some ⟨wb, off, none⟩ ∧ ∀ i m r u, waits[i]? = some m → (txC m)[r]? = some u → w2.cell? ⟨wb, off + (i * 9 + r), none⟩ = some u := by
          rcases HV2.out.held with e | e
          · rw [e] at hlt; simp at hlt
          · exact e
        subst hwa
        have cc := fun r u (hu : (txC ⟨⟨xs, xq, xw, xc, e0, e1, e2, e3, xws⟩, xa, xcap⟩)[r]? = some u) => (show w2.cell? ⟨wb, off + i * 9 + r, none⟩ = some u by rw [Nat.add_assoc]; exact hcc i _ r u hi hu)
        have x0 := cc 0 _ rfl
        have x1 := cc 1 _ rfl
        have x2 := cc 2 _ rfl
        have x3 := cc 3 _ rfl
        have x4 := cc 4 _ rfl
        have x5 := cc 5 _ rfl
        have x6 := cc 6 _ rfl
        have x7 := cc 7 _ rfl
        have x8 := cc 8 _ rfl
        rw [Nat.add_zero] at x0
        have s28 := PM2.out.box.cell 8 _ rfl
        clear cc hcc hi hx hB s7 s8 hzi
        go_wp2_with fail
        have hb3 := boxed (Below.refl w2.heap.size w2) (.cells #[.int .i64 xs, .int .i64 xq, .int .i64 xw, .int .i64 xc, .int .i64 e0, .int .i64 e1, .int .i64 e2, .int .i64 e3, .slice xa xws.length xcap] 44)
        have PM3 : Hid (SMem (w2.alloc (.cells #[.int .i64 xs, .int .i64 xq, .int .i64 xw, .int .i64 xc, .int .i64 e0, .int .i64 e1, .int .i64 e2, .int .i64 e3, .slice xa xws.length xcap] 44)) b (.slice la log.length lc) (.slice (some ⟨wb, off, none⟩) waits.length vc) sv S1 log waits) := PM2.out.later hb3
        have RX := RowL.new (w := w2) (T := 44) [.int .i64 xs, .int .i64 xq, .int .i64 xw, .int .i64 xc, .int .i64 e0, .int .i64 e1, .int .i64 e2, .int .i64 e3, .slice xa xws.length xcap] rfl
        change RowL (w2.alloc (.cells #[.int .i64 xs, .int .i64 xq, .int .i64 xw, .int .i64 xc, .int .i64 e0, .int .i64 e1, .int .i64 e2, .int .i64 e3, .slice xa xws.length xcap] 44)) w2.heap.size [.int .i64 xs, .int .i64 xq, .int .i64 xw, .int .i64 xc, .int .i64 e0, .int .i64 e1, .int .i64 e2, .int .i64 e3, .slice xa xws.length xcap] at RX
        have HM3 : Hid (RGoM w b G S S1 (w2.alloc (.cells #[.int .i64 xs, .int .i64 xq, .int .i64 xw, .int .i64 xc, .int .i64 e0, .int .i64 e1, .int .i64 e2, .int .i64 e3, .slice xa xws.length xcap] 44))) := HM2.out.later hb3
        have HV3 : Hid (TxsIn (w2.alloc (.cells #[.int .i64 xs, .int .i64 xq, .int .i64 xw, .int .i64 xc, .int .i64 e0, .int .i64 e1, .int .i64 e2, .int .i64 e3, .slice xa xws.length xcap] 44)) (some ⟨wb, off, none⟩) vc waits) := HV2.out.later hb3
        obtain ⟨W3, hW3⟩ : ∃ W3, w2.alloc (.cells #[.int .i64 xs, .int .i64 xq, .int .i64 xw, .int .i64 xc, .int .i64 e0, .int .i64 e1, .int .i64 e2, .int .i64 e3, .slice xa xws.length xcap] 44) = W3 := ⟨_, rfl⟩
        have hnb : w2.heap.size ≠ b := by have := PM2.out.box.lt; omega
        rw [hW3] at hb3 PM3 RX HM3 HV3 ⊢
        clear hW3 x0 x1 x2 x3 x4 x5 x6 x7 x8 s28
        refine wp_next (takeR26_any W3 HV3 HWW HZI (PM3.out.box.cell 8 _ rfl) (PM3.out.box.free 8 (by simp [siteC])) _ ?_)
        intro u175 u176 u177 u178 u179 u180 u181 u182 u183 u184 u185 u186 u187 u188 u189 u190 u191 u192 u193 w7 g2 c2 n2 hb7 hg1 hg2 hn2 own7
        obtain ⟨P7, T7, F7⟩ := PM3.out.reset hb7 hg1 own7 hn2.symm (fun m hm => .inl (by
          rcases List.mem_append.1 hm with h1 | h1
          · exact List.mem_of_mem_take h1
          · exact List.mem_of_mem_drop h1)) (dropW S1.waits ⟨xs, xq, xw, xc, e0, e1, e2, e3, xws⟩)
        have AP := rapply_round HM3.out PM3.out HPM.out.2.1 HPM.out.2.2.1 HPM.out.2.2.2.1 HPM.out.2.2.2.2 HX.out.2 HF.out HX.out.1 T7 F7 P7
        have RX7 : RowL (w7.setCell ⟨b, 8, none⟩ (.slice (some ⟨g2, 0, none⟩) n2 c2)) w2.heap.size [.int .i64 xs, .int .i64 xq, .int .i64 xw, .int .i64 xc, .int .i64 e0, .int .i64 e1, .int .i64 e2, .int .i64 e3, .slice xa xws.length xcap] := (RX.later hb7).kept (Below.heap_setCell _ _ _ _ hnb) (by simp [World.setCell])
        obtain ⟨W8, hW8⟩ : ∃ W8, w7.setCell ⟨b, 8, none⟩ (.slice (some ⟨g2, 0, none⟩) n2 c2) = W8 := ⟨_, rfl⟩
        rw [hW8] at AP RX7 ⊢
        have x0 := RX7.cell 0 _ rfl
        have x1 := RX7.cell 1 _ rfl
        have x2 := RX7.cell 2 _ rfl
        have x3 := RX7.cell 3 _ rfl
        have x4 := RX7.cell 4 _ rfl
        have x5 := RX7.cell 5 _ rfl
        have x6 := RX7.cell 6 _ rfl
        have x7 := RX7.cell 7 _ rfl
        have x8 := RX7.cell 8 _ rfl
        clear P7 T7 F7 RX RX7 hb7 hg1 hg2 own7 hW8 hn2
        go_wp2_with fail
        refine AP.mono ?_
        rintro e w9 ⟨rfl, hM9, _⟩
        have HM9 : Hid (RGoM w b G S (goneS S1 ⟨xs, xq, xw, xc, e0, e1, e2, e3, xws⟩) w9) := hM9
        clear x0 x1 x2 x3 x4 x5 x6 x7 x8 AP hM9
        go_wp2_with fail
        go_roundw
        case rel => exact ⟨_, HM9⟩
        case measure =>
          obtain ⟨G5, p5, _⟩ := HM9.out.mem
          rw [p5.left, LE.out]
          have := HF.out
          simp [goneS, applyS]
          omega

end Go.Proofs.YtpncedpfoakfkaaGreatDoor
