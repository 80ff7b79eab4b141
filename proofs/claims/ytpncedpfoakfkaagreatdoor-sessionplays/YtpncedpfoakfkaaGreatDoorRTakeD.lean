/-
  A Take that goes well, at a site of the document (copseref.Site.Take): from where it is known that there is room, as the model runs it, whatever the rest of the frame is.
-/
import Derived.Test.YtpncedpfoakfkaaGreatDoorSiteI
import Derived.Test.YtpncedpfoakfkaaGreatDoorRTakeB
import Derived.Test.YtpncedpfoakfkaaGreatDoorRTakeC
namespace Go.Proofs.YtpncedpfoakfkaaGreatDoor
open Go.RowKit

noncomputable def takeE12 : Code := ((Tryz.f12.body.bind (findFrom 12)).getD .skip)

set_option maxRecDepth 1000000 in
set_option maxHeartbeats 16000000 in
theorem takeE12_any {b : Nat} {G : Nat → Prop} {S : SiteS} {la va a : Option Addr} {lc vc cap : Nat} {sv : Value} {log waits : List TxM} {site seq wall count d0 d1 d2 d3 : Int} {ws : List Wr} {nw : Bool} {y1 y2 y4 y5 y6 y8 y9 y10 y11 y12 y13 y14 y15 y16 y17 y18 y19 y20 y21 y22 y23 y24 y25 y26 y27 y28 y29 y30 y31 y32 y33 y34 y35 y36 y37 y38 y39 y40 y41 y42 y43 y44 y45 y46 y47 y48 y49 y50 y51 y52 y53 y54 y55 y56 y57 y58 y59 y60 y61 y62 y63 y64 y65 y66 y67 y68 y69 y70 y71 y72 y73 y74 y75 y76 y77 y78 y79 y80 y81 y82 y83 y84 y85 y86 y87 y88 y89 y90 y91 y92 y93 y94 y95 y96 y97 y98 y99 y100 y101 y102 y103 y104 y105 y106 y107 y108 y109 y110 y111 y112 y113 y114 y115 y116 y117 y118 y119 y120 y121 y122 y123 y124 y125 y126 y127 y128 y129 y130 y131 y132 y133 y134 y135 y136 y137 y138 y139 y140 y141 y142 y143 y144 y145 y146 y147 y148 y149 y150 y151 y152 y153 y154 y155 y156 y157 y158 y159 y160 y161 y162 y163 y164 y165 y166 y167 y168 y169 y170 y171 y172 y173 y174 y175 y176 y177 y178 y179 y180 y181 y182 y183 y184 y185 y186 y187 y188 y189 y190 y191 y192 y193 y194 y195 y196 : Value} (w w4 : World) (hPM : SMem w4 b (.slice la log.length lc) (.slice va waits.length vc) sv S log waits)
    (hl : log.map (·.t) = S.log) (hw : waits.map (·.t) = S.waits) (hG : ∀ k, G k ↔ (footS b (.slice la log.length lc) (.slice va waits.length vc) sv k ∨ ∃ m ∈ log ++ waits, m.blk k)) (hGL : ∀ k, G k → k < w.heap.size) (hRB : RowL w4 w.heap.size [.int .i64 site, .int .i64 seq, .int .i64 wall, .int .i64 count, .int .i64 d0, .int .i64 d1, .int .i64 d2, .int .i64 d3, .slice a ws.length cap]) (hW4 : WrIn w4 a cap ws) (sw : 1 ≤ ws.length ∧ ws.length ≤ 5)
    (hn : waits.length ≤ 900) (hI : InvS { S with waits := S.waits ++ [⟨site, seq, wall, count, d0, d1, d2, d3, ws⟩] }) (hbw4 : Below w.heap.size w w4) (hf : log.length < 200) (h40 : waits.length < 40 ∨ nw = true) :
    Code.wp Tryz.prog takeE12 (fun e a w' => e = .ret ∧ a.defers = [] ∧ a.tmps[4]? = some (.int .i64 0) ∧ ∃ S', Goes { S with waits := S.waits ++ [⟨site, seq, wall, count, d0, d1, d2, d3, ws⟩] } S' ∧ RPo w b G S' w') ⟨List.toArray ((.pointer (some ⟨b, 0, none⟩)) :: y1 :: y2 :: (.pointer (some ⟨w.heap.size, 0, none⟩)) :: y4 :: y5 :: y6 :: (.bool nw) :: y8 :: y9 :: y10 :: y11 :: y12 :: y13 :: y14 :: y15 :: y16 :: y17 :: y18 :: y19 :: y20 :: y21 :: y22 :: y23 :: y24 :: y25 :: y26 :: y27 :: y28 :: y29 :: y30 :: y31 :: y32 :: y33 :: y34 :: y35 :: y36 :: y37 :: y38 :: y39 :: y40 :: y41 :: y42 :: y43 :: y44 :: y45 :: y46 :: y47 :: y48 :: y49 :: y50 :: y51 :: y52 :: y53 :: y54 :: y55 :: y56 :: y57 :: y58 :: y59 :: y60 :: y61 :: y62 :: y63 :: y64 :: y65 :: y66 :: y67 :: y68 :: y69 :: y70 :: y71 :: y72 :: y73 :: y74 :: y75 :: y76 :: y77 :: y78 :: y79 :: y80 :: y81 :: y82 :: y83 :: y84 :: y85 :: y86 :: y87 :: y88 :: y89 :: y90 :: y91 :: y92 :: y93 :: y94 :: y95 :: y96 :: y97 :: y98 :: y99 :: y100 :: y101 :: y102 :: y103 :: y104 :: y105 :: y106 :: y107 :: y108 :: y109 :: y110 :: y111 :: y112 :: y113 :: y114 :: y115 :: y116 :: y117 :: y118 :: y119 :: y120 :: y121 :: y122 :: y123 :: y124 :: y125 :: y126 :: y127 :: y128 :: y129 :: y130 :: y131 :: y132 :: y133 :: y134 :: y135 :: y136 :: y137 :: y138 :: y139 :: y140 :: y141 :: y142 :: y143 :: y144 :: y145 :: y146 :: y147 :: y148 :: y149 :: y150 :: y151 :: y152 :: y153 :: y154 :: y155 :: y156 :: y157 :: y158 :: y159 :: y160 :: y161 :: y162 :: y163 :: y164 :: y165 :: y166 :: y167 :: y168 :: y169 :: y170 :: y171 :: y172 :: y173 :: y174 :: y175 :: y176 :: y177 :: y178 :: y179 :: y180 :: y181 :: y182 :: y183 :: y184 :: y185 :: y186 :: y187 :: y188 :: y189 :: y190 :: y191 :: y192 :: y193 :: y194 :: y195 :: y196 :: []), []⟩ w4 := by
  have PM4 : Hid (SMem w4 b (.slice la log.length lc) (.slice va waits.length vc) sv S log waits) := hPM
  have HPM : Hid (log.map (·.t) = S.log ∧ waits.map (·.t) = S.waits ∧ ∀ k, G k ↔ (footS b (.slice la log.length lc) (.slice va waits.length vc) sv k ∨ ∃ m ∈ log ++ waits, m.blk k)) := ⟨hl, hw, hG⟩
  have HGL : Hid (∀ k, G k → k < w.heap.size) := hGL
  have RB4 : Hid (RowL w4 w.heap.size [.int .i64 site, .int .i64 seq, .int .i64 wall, .int .i64 count, .int .i64 d0, .int .i64 d1, .int .i64 d2, .int .i64 d3, .slice a ws.length cap]) := hRB
  have HW4 : Hid (WrIn w4 a cap ws) := hW4
  have HL5 : Hid (1 ≤ ws.length ∧ ws.length ≤ 5) := sw
  have HLN : Hid (waits.length ≤ 1000) := by show _ ≤ _; omega
  have HN9 : Hid (waits.length ≤ 900) := hn
  have HI : Hid (InvS { S with waits := S.waits ++ [⟨site, seq, wall, count, d0, d1, d2, d3, ws⟩] }) := hI
  obtain ⟨la', lc', el, hLT⟩ := txsIn_own hPM.rlog
  obtain ⟨va', vc', ev, hVT⟩ := txsIn_own hPM.rwait
  injection el with el1 el2 el3
  injection ev with ev1 ev2 ev3
  subst el1 el3 ev1 ev3
  have hvl := hVT.len
  have hvc := hVT.cap
  have hll := hLT.len
  have hlc := hLT.cap
  have s7 := hPM.box.cell 7 _ rfl
  have s8 := hPM.box.cell 8 _ rfl
  have h2 : ¬ (200 : Int) ≤ (log.length : Int) := by omega
  clear hPM hl hw hG hGL hRB hW4 sw hn hI hLT hVT el2 ev2 hf
  conv => arg 2; whnf
  by_cases g4 : waits.length < 40
  · have g40 : ¬ (40 : Int) ≤ (waits.length : Int) := by omega
    clear h40 g4
    obtain ⟨ab, off, haa, hcc⟩ : ∃ ab off, a = some ⟨ab, off, none⟩ ∧ WrCells w4 ab off ws := by
      rcases HW4.out.held with h0 | h0
      · exfalso
        have := HL5.out
        rw [h0] at this
        simp at this
      · exact h0
    have t8 := RB4.out.cell 8 _ rfl
    have f8 := RB4.out.free 8 (by simp)
    have HN4 : Hid (∀ j u, (wrsC ws)[j]? = some u → (w4.alloc (.cells #[] 83)).cell? ((⟨ab, off, none⟩ : Addr).add j) = some u) := news_wr (hcc.later (boxed (Below.refl _ w4) _))
    have own0 := own_none w4 83 rfl w4.heap.size (Nat.le_refl _)
    obtain ⟨i0, hi, hz0, hz1, hz2⟩ := info_parts wrInfo
    have lt8 := RB4.out.lt
    clear hcc
    rw [haa] at t8
    go_wp2_with (at_builtin; refine wpList_append_lies _ rfl (.tmp 94) (.tmp 96) 42 rfl w4.heap.size 83 i0 (.agg #[.int .i64 0, .string ⟨#[]⟩, .bool false]) 3 32 Tryz.underlying42 hi hz0 hz1 hz2 rfl (by decide) (.slice (some ⟨w4.heap.size, 0, none⟩) 0 0) 0 [] rfl own0 ⟨ab, off, none⟩ ws.length cap (wrsC ws) rfl (wrsC_length ws) HN4.out (wrsC_one ws) (by have := HL5.out; omega) (by have := HL5.out; simp only [maxLen]; omega) (by have := HL5.out; omega) (by simp) _ rfl ?_; intro g cg wE ownE grE egE ltE; have RBE := (RB4.out.boxed (.cells #[] 83)).grown grE (fun e => by simp [Value.ownBlock] at e <;> omega); have f8E := RBE.free 8 (by simp); have t8E := RBE.cell 8 _ rfl)
    have HGE : Hid (w4.heap.size ≤ g ∧ g < wE.heap.size) := ⟨by rcases egE with h | h <;> simp [Value.ownBlock] at h <;> omega, ltE⟩
    have hbE : Below w.heap.size w wE := (boxed hbw4 (.cells #[] 83)).grown grE (by have := hbw4.size; simp; omega) (fun j hj => by have := hbw4.size; simp [Value.ownBlock] at hj; omega)
    have WGE : WrIn wE (some ⟨g, 0, none⟩) cg ws := by
      rw [Nat.zero_add, List.nil_append] at ownE
      obtain ⟨a9, c9, e9, hW9⟩ := wrIn_own ownE
      injection e9 with e1 e2 e3
      subst e1 e3
      exact hW9
    have hb5 := hbE.setCell (p := ⟨w.heap.size, 8, none⟩) (Nat.le_refl _) (.slice (some ⟨g, 0, none⟩) ws.length cg)
    have RB5 : RowL (wE.setCell ⟨w.heap.size, 8, none⟩ (.slice (some ⟨g, 0, none⟩) ws.length cg)) w.heap.size [.int .i64 site, .int .i64 seq, .int .i64 wall, .int .i64 count, .int .i64 d0, .int .i64 d1, .int .i64 d2, .int .i64 d3, .slice (some ⟨g, 0, none⟩) ws.length cg] := RBE.set 8 _ (by simp)
    have HKB : Hid (∀ k, k ≠ w.heap.size → k < w4.heap.size → (wE.setCell ⟨w.heap.size, 8, none⟩ (.slice (some ⟨g, 0, none⟩) ws.length cg)).heap[k]? = w4.heap[k]?) := fun k hk hl => (Below.heap_setCell _ _ _ _ hk).trans ((grE.block k (by simp; omega) (fun e => by simp [Value.ownBlock] at e; omega)).trans (Below.heap_alloc _ _ _ hl))
    have WG5 : WrIn (wE.setCell ⟨w.heap.size, 8, none⟩ (.slice (some ⟨g, 0, none⟩) ws.length cg)) (some ⟨g, 0, none⟩) cg ws := WrIn.kept (m := ⟨⟨site, seq, wall, count, d0, d1, d2, d3, ws⟩, some ⟨g, 0, none⟩, cg⟩) (w := wE) WGE (fun k e => Below.heap_setCell _ _ _ _ (by obtain ⟨_, o, e⟩ := e; injection e with e; injection e with e; have := HGE.out; simp only; omega))
    obtain ⟨W5, hW5⟩ : ∃ W5, wE.setCell ⟨w.heap.size, 8, none⟩ (.slice (some ⟨g, 0, none⟩) ws.length cg) = W5 := ⟨_, rfl⟩
    rw [hW5] at hb5 RB5 HKB WG5 ⊢
    have hs5 : w4.heap.size ≤ W5.heap.size := by rw [← hW5]; have := grE.size; simp [World.setCell] at this ⊢; omega
    have PM5 : Hid (SMem W5 b (.slice la log.length lc) (.slice va waits.length vc) sv S log waits) := PM4.out.keptB (fun k hk => HKB.out k (by have := HGL.out k ((HPM.out.2.2 k).2 hk); omega) (by have := HGL.out k ((HPM.out.2.2 k).2 hk); have := hbw4.size; omega)) hs5
    have HV5 : Hid (TxsIn W5 va vc waits) := by
      obtain ⟨va', vc', ev, hv⟩ := txsIn_own PM5.out.rwait
      injection ev with e1 e2 e3
      rw [e1, e3]
      exact hv
    have HW5 : Hid (WrIn W5 (some ⟨g, 0, none⟩) cg ws ∧ w.heap.size < g ∧ g < W5.heap.size) := ⟨WG5, by have := HGE.out; omega, by rw [← hW5]; have := HGE.out; simp [World.setCell]; omega⟩
    clear hW5 ownE grE egE ltE RBE f8E t8E own0 t8 f8 hbE WGE WG5 s7 s8 HN4 hs5 HKB hi hz0 hz1 hz2
    refine wp_next (takeR15_any W5 HV5 HLN RB5 (PM5.out.box.cell 8 _ rfl) (PM5.out.box.free 8 (by simp [siteC])) _ ?_)
    intro u99 u100 u101 u102 u103 u104 u105 u106 u107 u108 u109 u110 w7 g2 c2 hb7 hg1 hg2 own7
    rw [← txsC_append] at own7
    have HBK : Hid (∀ k, TxM.blk ⟨⟨site, seq, wall, count, d0, d1, d2, d3, ws⟩, some ⟨g, 0, none⟩, cg⟩ k → k = g) := fun k e => by obtain ⟨_, o, e⟩ := e; injection e with e; injection e with e; exact e.symm
    obtain ⟨P7, T7, F7⟩ := PM5.out.reset hb7 hg1 own7 (by simp) (fun m hm => by
      rcases List.mem_append.1 hm with h1 | h1
      · exact .inl h1
      · rw [List.mem_singleton.1 h1]
        refine .inr ⟨HW5.out.1, fun k e hf => ?_⟩
        have e1 := HBK.out k e
        have := HGL.out k ((HPM.out.2.2 k).2 (.inl hf))
        have := HW5.out
        omega) (S.waits ++ [⟨site, seq, wall, count, d0, d1, d2, d3, ws⟩])
    have t8 := (Touch.ofBelow (F := G) hb5).more T7 (fun k hk => .inl ((HPM.out.2.2 k).2 (.inl hk)))
    have g8 : ∀ k, (footS b (.slice la log.length lc) (.slice (some ⟨g2, 0, none⟩) (waits.length + 1) c2) sv k ∨ ∃ m ∈ log ++ (waits ++ [⟨⟨site, seq, wall, count, d0, d1, d2, d3, ws⟩, some ⟨g, 0, none⟩, cg⟩]), m.blk k) → G k ∨ w.heap.size ≤ k := fun k hk => by
      rcases hk with h1 | ⟨x, hx, h1⟩
      · rcases F7 k h1 with h2 | h2
        · exact .inl ((HPM.out.2.2 k).2 (.inl h2))
        · exact .inr (by have := hb5.size; omega)
      · rcases List.mem_append.1 hx with h2 | h2
        · exact .inl ((HPM.out.2.2 k).2 (.inr ⟨x, List.mem_append.2 (.inl h2), h1⟩))
        · rcases List.mem_append.1 h2 with h3 | h3
          · exact .inl ((HPM.out.2.2 k).2 (.inr ⟨x, List.mem_append.2 (.inr h3), h1⟩))
          · rw [List.mem_singleton.1 h3] at h1
            have e1 := HBK.out k h1
            have := HW5.out
            exact .inr (by omega)
    obtain ⟨W8, hW8⟩ : ∃ W8, w7.setCell ⟨b, 8, none⟩ (.slice (some ⟨g2, 0, none⟩) (waits.length + 1) c2) = W8 := ⟨_, rfl⟩
    rw [hW8] at P7 t8 ⊢
    have M0 : RGoM W8 b (fun k => footS b (.slice la log.length lc) (.slice (some ⟨g2, 0, none⟩) (waits.length + 1) c2) sv k ∨ ∃ m ∈ log ++ (waits ++ [⟨⟨site, seq, wall, count, d0, d1, d2, d3, ws⟩, some ⟨g, 0, none⟩, cg⟩]), m.blk k) { S with waits := S.waits ++ [⟨site, seq, wall, count, d0, d1, d2, d3, ws⟩] } { S with waits := S.waits ++ [⟨site, seq, wall, count, d0, d1, d2, d3, ws⟩] } W8 :=
      ⟨⟨_, ⟨_, _, _, log, waits ++ [⟨⟨site, seq, wall, count, d0, d1, d2, d3, ws⟩, some ⟨g, 0, none⟩, cg⟩], P7, HPM.out.1, by rw [List.map_append, HPM.out.2.1]; rfl, fun k => Iff.rfl⟩, fun k hk => .inl hk⟩, ⟨rfl, rfl, rfl, Nat.le_refl _, fun _ _ _ => rfl⟩, HI.out, by show (S.waits ++ [_]).length ≤ 1000; rw [← HPM.out.2.1]; have := HN9.out; simp; omega, fun X hX => hX⟩
    have HFI : Hid (∀ S' w9, RPo W8 b (fun k => footS b (.slice la log.length lc) (.slice (some ⟨g2, 0, none⟩) (waits.length + 1) c2) sv k ∨ ∃ m ∈ log ++ (waits ++ [⟨⟨site, seq, wall, count, d0, d1, d2, d3, ws⟩, some ⟨g, 0, none⟩, cg⟩]), m.blk k) S' w9 → RPo w b G S' w9) := fun S' w9 hp => RPo.trans g8 t8 hp
    clear hW8 P7 T7 F7 t8 g8 hb7 hg1 hg2 own7 hb5 RB5 PM5 HV5 HW5 HBK PM4 RB4
    go_wp2_with fail
    refine wp_out (takeL2_any W8 M0 _ ?_)
    intro u8 u9 u10 u11 u111 u112 u113 u114 u115 u116 u117 u118 u119 u120 u121 u122 u123 u124 u125 u126 u127 u128 u129 u130 u131 u132 u133 u134 u135 u136 u137 u138 u139 u140 u141 u142 u143 u144 u145 u146 u147 u148 u149 u150 u151 u152 u153 u154 u155 u156 u157 u158 u159 u160 u161 u162 u163 u164 u165 u166 u167 u168 u169 u170 u171 u172 u173 u174 u175 u176 u177 u178 u179 u180 u181 u182 u183 u184 u185 u186 u187 u188 u189 u190 u191 u192 u193 u194 u195 u196 S' w9 hGo hPo
    have FIN : Hid (∃ S', Goes { S with waits := S.waits ++ [⟨site, seq, wall, count, d0, d1, d2, d3, ws⟩] } S' ∧ RPo w b G S' w9) := ⟨S', hGo, HFI.out S' w9 hPo⟩
    clear hGo hPo M0 HFI
    go_wp2_with fail
    exact FIN.out
  · have g40 : (40 : Int) ≤ (waits.length : Int) := by omega
    have hnw : nw = true := h40.resolve_left g4
    subst hnw
    clear h40 g4
    obtain ⟨ab, off, haa, hcc⟩ : ∃ ab off, a = some ⟨ab, off, none⟩ ∧ WrCells w4 ab off ws := by
      rcases HW4.out.held with h0 | h0
      · exfalso
        have := HL5.out
        rw [h0] at this
        simp at this
      · exact h0
    have t8 := RB4.out.cell 8 _ rfl
    have f8 := RB4.out.free 8 (by simp)
    have HN4 : Hid (∀ j u, (wrsC ws)[j]? = some u → (w4.alloc (.cells #[] 83)).cell? ((⟨ab, off, none⟩ : Addr).add j) = some u) := news_wr (hcc.later (boxed (Below.refl _ w4) _))
    have own0 := own_none w4 83 rfl w4.heap.size (Nat.le_refl _)
    obtain ⟨i0, hi, hz0, hz1, hz2⟩ := info_parts wrInfo
    have lt8 := RB4.out.lt
    clear hcc
    rw [haa] at t8
    go_wp2_with (at_builtin; refine wpList_append_lies _ rfl (.tmp 94) (.tmp 96) 42 rfl w4.heap.size 83 i0 (.agg #[.int .i64 0, .string ⟨#[]⟩, .bool false]) 3 32 Tryz.underlying42 hi hz0 hz1 hz2 rfl (by decide) (.slice (some ⟨w4.heap.size, 0, none⟩) 0 0) 0 [] rfl own0 ⟨ab, off, none⟩ ws.length cap (wrsC ws) rfl (wrsC_length ws) HN4.out (wrsC_one ws) (by have := HL5.out; omega) (by have := HL5.out; simp only [maxLen]; omega) (by have := HL5.out; omega) (by simp) _ rfl ?_; intro g cg wE ownE grE egE ltE; have RBE := (RB4.out.boxed (.cells #[] 83)).grown grE (fun e => by simp [Value.ownBlock] at e <;> omega); have f8E := RBE.free 8 (by simp); have t8E := RBE.cell 8 _ rfl)
    have HGE : Hid (w4.heap.size ≤ g ∧ g < wE.heap.size) := ⟨by rcases egE with h | h <;> simp [Value.ownBlock] at h <;> omega, ltE⟩
    have hbE : Below w.heap.size w wE := (boxed hbw4 (.cells #[] 83)).grown grE (by have := hbw4.size; simp; omega) (fun j hj => by have := hbw4.size; simp [Value.ownBlock] at hj; omega)
    have WGE : WrIn wE (some ⟨g, 0, none⟩) cg ws := by
      rw [Nat.zero_add, List.nil_append] at ownE
      obtain ⟨a9, c9, e9, hW9⟩ := wrIn_own ownE
      injection e9 with e1 e2 e3
      subst e1 e3
      exact hW9
    have hb5 := hbE.setCell (p := ⟨w.heap.size, 8, none⟩) (Nat.le_refl _) (.slice (some ⟨g, 0, none⟩) ws.length cg)
    have RB5 : RowL (wE.setCell ⟨w.heap.size, 8, none⟩ (.slice (some ⟨g, 0, none⟩) ws.length cg)) w.heap.size [.int .i64 site, .int .i64 seq, .int .i64 wall, .int .i64 count, .int .i64 d0, .int .i64 d1, .int .i64 d2, .int .i64 d3, .slice (some ⟨g, 0, none⟩) ws.length cg] := RBE.set 8 _ (by simp)
    have HKB : Hid (∀ k, k ≠ w.heap.size → k < w4.heap.size → (wE.setCell ⟨w.heap.size, 8, none⟩ (.slice (some ⟨g, 0, none⟩) ws.length cg)).heap[k]? = w4.heap[k]?) := fun k hk hl => (Below.heap_setCell _ _ _ _ hk).trans ((grE.block k (by simp; omega) (fun e => by simp [Value.ownBlock] at e; omega)).trans (Below.heap_alloc _ _ _ hl))
    have WG5 : WrIn (wE.setCell ⟨w.heap.size, 8, none⟩ (.slice (some ⟨g, 0, none⟩) ws.length cg)) (some ⟨g, 0, none⟩) cg ws := WrIn.kept (m := ⟨⟨site, seq, wall, count, d0, d1, d2, d3, ws⟩, some ⟨g, 0, none⟩, cg⟩) (w := wE) WGE (fun k e => Below.heap_setCell _ _ _ _ (by obtain ⟨_, o, e⟩ := e; injection e with e; injection e with e; have := HGE.out; simp only; omega))
    obtain ⟨W5, hW5⟩ : ∃ W5, wE.setCell ⟨w.heap.size, 8, none⟩ (.slice (some ⟨g, 0, none⟩) ws.length cg) = W5 := ⟨_, rfl⟩
    rw [hW5] at hb5 RB5 HKB WG5 ⊢
    have hs5 : w4.heap.size ≤ W5.heap.size := by rw [← hW5]; have := grE.size; simp [World.setCell] at this ⊢; omega
    have PM5 : Hid (SMem W5 b (.slice la log.length lc) (.slice va waits.length vc) sv S log waits) := PM4.out.keptB (fun k hk => HKB.out k (by have := HGL.out k ((HPM.out.2.2 k).2 hk); omega) (by have := HGL.out k ((HPM.out.2.2 k).2 hk); have := hbw4.size; omega)) hs5
    have HV5 : Hid (TxsIn W5 va vc waits) := by
      obtain ⟨va', vc', ev, hv⟩ := txsIn_own PM5.out.rwait
      injection ev with e1 e2 e3
      rw [e1, e3]
      exact hv
    have HW5 : Hid (WrIn W5 (some ⟨g, 0, none⟩) cg ws ∧ w.heap.size < g ∧ g < W5.heap.size) := ⟨WG5, by have := HGE.out; omega, by rw [← hW5]; have := HGE.out; simp [World.setCell]; omega⟩
    clear hW5 ownE grE egE ltE RBE f8E t8E own0 t8 f8 hbE WGE WG5 s7 s8 HN4 hs5 HKB hi hz0 hz1 hz2
    refine wp_next (takeR15_any W5 HV5 HLN RB5 (PM5.out.box.cell 8 _ rfl) (PM5.out.box.free 8 (by simp [siteC])) _ ?_)
    intro u99 u100 u101 u102 u103 u104 u105 u106 u107 u108 u109 u110 w7 g2 c2 hb7 hg1 hg2 own7
    rw [← txsC_append] at own7
    have HBK : Hid (∀ k, TxM.blk ⟨⟨site, seq, wall, count, d0, d1, d2, d3, ws⟩, some ⟨g, 0, none⟩, cg⟩ k → k = g) := fun k e => by obtain ⟨_, o, e⟩ := e; injection e with e; injection e with e; exact e.symm
    obtain ⟨P7, T7, F7⟩ := PM5.out.reset hb7 hg1 own7 (by simp) (fun m hm => by
      rcases List.mem_append.1 hm with h1 | h1
      · exact .inl h1
      · rw [List.mem_singleton.1 h1]
        refine .inr ⟨HW5.out.1, fun k e hf => ?_⟩
        have e1 := HBK.out k e
        have := HGL.out k ((HPM.out.2.2 k).2 (.inl hf))
        have := HW5.out
        omega) (S.waits ++ [⟨site, seq, wall, count, d0, d1, d2, d3, ws⟩])
    have t8 := (Touch.ofBelow (F := G) hb5).more T7 (fun k hk => .inl ((HPM.out.2.2 k).2 (.inl hk)))
    have g8 : ∀ k, (footS b (.slice la log.length lc) (.slice (some ⟨g2, 0, none⟩) (waits.length + 1) c2) sv k ∨ ∃ m ∈ log ++ (waits ++ [⟨⟨site, seq, wall, count, d0, d1, d2, d3, ws⟩, some ⟨g, 0, none⟩, cg⟩]), m.blk k) → G k ∨ w.heap.size ≤ k := fun k hk => by
      rcases hk with h1 | ⟨x, hx, h1⟩
      · rcases F7 k h1 with h2 | h2
        · exact .inl ((HPM.out.2.2 k).2 (.inl h2))
        · exact .inr (by have := hb5.size; omega)
      · rcases List.mem_append.1 hx with h2 | h2
        · exact .inl ((HPM.out.2.2 k).2 (.inr ⟨x, List.mem_append.2 (.inl h2), h1⟩))
        · rcases List.mem_append.1 h2 with h3 | h3
          · exact .inl ((HPM.out.2.2 k).2 (.inr ⟨x, List.mem_append.2 (.inr h3), h1⟩))
          · rw [List.mem_singleton.1 h3] at h1
            have e1 := HBK.out k h1
            have := HW5.out
            exact .inr (by omega)
    obtain ⟨W8, hW8⟩ : ∃ W8, w7.setCell ⟨b, 8, none⟩ (.slice (some ⟨g2, 0, none⟩) (waits.length + 1) c2) = W8 := ⟨_, rfl⟩
    rw [hW8] at P7 t8 ⊢
    have M0 : RGoM W8 b (fun k => footS b (.slice la log.length lc) (.slice (some ⟨g2, 0, none⟩) (waits.length + 1) c2) sv k ∨ ∃ m ∈ log ++ (waits ++ [⟨⟨site, seq, wall, count, d0, d1, d2, d3, ws⟩, some ⟨g, 0, none⟩, cg⟩]), m.blk k) { S with waits := S.waits ++ [⟨site, seq, wall, count, d0, d1, d2, d3, ws⟩] } { S with waits := S.waits ++ [⟨site, seq, wall, count, d0, d1, d2, d3, ws⟩] } W8 :=
      ⟨⟨_, ⟨_, _, _, log, waits ++ [⟨⟨site, seq, wall, count, d0, d1, d2, d3, ws⟩, some ⟨g, 0, none⟩, cg⟩], P7, HPM.out.1, by rw [List.map_append, HPM.out.2.1]; rfl, fun k => Iff.rfl⟩, fun k hk => .inl hk⟩, ⟨rfl, rfl, rfl, Nat.le_refl _, fun _ _ _ => rfl⟩, HI.out, by show (S.waits ++ [_]).length ≤ 1000; rw [← HPM.out.2.1]; have := HN9.out; simp; omega, fun X hX => hX⟩
    have HFI : Hid (∀ S' w9, RPo W8 b (fun k => footS b (.slice la log.length lc) (.slice (some ⟨g2, 0, none⟩) (waits.length + 1) c2) sv k ∨ ∃ m ∈ log ++ (waits ++ [⟨⟨site, seq, wall, count, d0, d1, d2, d3, ws⟩, some ⟨g, 0, none⟩, cg⟩]), m.blk k) S' w9 → RPo w b G S' w9) := fun S' w9 hp => RPo.trans g8 t8 hp
    clear hW8 P7 T7 F7 t8 g8 hb7 hg1 hg2 own7 hb5 RB5 PM5 HV5 HW5 HBK PM4 RB4
    go_wp2_with fail
    refine wp_out (takeL2_any W8 M0 _ ?_)
    intro u8 u9 u10 u11 u111 u112 u113 u114 u115 u116 u117 u118 u119 u120 u121 u122 u123 u124 u125 u126 u127 u128 u129 u130 u131 u132 u133 u134 u135 u136 u137 u138 u139 u140 u141 u142 u143 u144 u145 u146 u147 u148 u149 u150 u151 u152 u153 u154 u155 u156 u157 u158 u159 u160 u161 u162 u163 u164 u165 u166 u167 u168 u169 u170 u171 u172 u173 u174 u175 u176 u177 u178 u179 u180 u181 u182 u183 u184 u185 u186 u187 u188 u189 u190 u191 u192 u193 u194 u195 u196 S' w9 hGo hPo
    have FIN : Hid (∃ S', Goes { S with waits := S.waits ++ [⟨site, seq, wall, count, d0, d1, d2, d3, ws⟩] } S' ∧ RPo w b G S' w9) := ⟨S', hGo, HFI.out S' w9 hPo⟩
    clear hGo hPo M0 HFI
    go_wp2_with fail
    exact FIN.out

end Go.Proofs.YtpncedpfoakfkaaGreatDoor
