/-
  The switch of a round of 'copselaw.SitePlays': what another site has is known, as the model runs it, whatever the rest of the frame is.
-/
import Derived.Test.YtplbdmcfghhbdaaGreatDoorSiteL
namespace Go.Proofs.YtplbdmcfghhbdaaGreatDoor
open Go.RowKit

set_option maxRecDepth 1000000 in
set_option maxHeartbeats 16000000 in
theorem playsSw_2y {bp br k xb : Nat} {S : SiteS} {n b0 b1 b2 b3 site seq wall count d0 d1 d2 d3 : Int} {ws : List Wr} {ta : Option Addr} {tcap : Nat} {y0 y1 y2 y3 y4 y5 y6 y8 y10 y12 y13 y14 y15 y16 y17 y18 y19 y20 y21 y22 y23 y24 y25 y26 y27 y28 y29 y30 y31 y32 y33 y34 y35 y36 y37 y38 y39 y40 y41 y42 y43 y44 y45 y46 y47 y48 y49 y50 y51 y52 y53 y54 y55 y56 y57 y58 y59 y60 y61 y62 y63 y64 y66 y67 y68 y69 y70 y71 y72 y73 y74 y75 y76 y77 y78 y79 y80 y81 y82 y83 y84 y85 y86 y87 y88 y89 y90 y91 y92 y93 y94 y95 y96 y97 y98 y99 y100 y101 y102 y103 y104 y105 y106 y107 y108 y109 y110 y111 y112 y113 y114 y115 y116 y117 y118 y119 y120 y121 y122 y123 y124 y125 y126 y127 y128 y129 y130 y131 y132 y133 y134 y135 y136 y137 y138 y139 y140 y141 y142 y143 y144 y145 y146 y147 y148 y149 y150 y151 y152 y153 y154 y155 y156 y157 y158 y159 y160 y161 y162 y163 y164 y165 y166 y167 y168 y169 y170 y171 y172 y173 y174 y175 y176 y177 y178 y179 y180 y181 y182 y183 y184 y185 y186 y187 y188 y189 y190 y191 y192 y193 y194 y195 y196 y197 y198 y199 y200 y201 y202 y203 y204 y205 y206 y207 y208 y209 y210 y211 y212 y213 y214 y215 y216 y217 y218 y219 y220 y221 y222 y223 y224 y225 y226 y227 y228 y229 y230 y231 y232 y233 y234 y235 y236 y237 y238 y239 y240 y241 y242 y243 y244 y245 y246 y247 y248 y249 y250 y251 y252 y253 y254 y255 y256 y257 : Value} (w w2 : World) (T2 : TwoS w2 bp br S S (fun j => j < w.heap.size ∨ j = xb) NoB) (RX2 : RowL w2 xb [.int .i64 2, .int .i64 n, .int .i64 b0, .int .i64 b1, .int .i64 b2, .int .i64 b3, .int .i64 site, .int .i64 seq, .int .i64 wall, .int .i64 count, .int .i64 d0, .int .i64 d1, .int .i64 d2, .int .i64 d3, .slice ta ws.length tcap]) (hb2 : Below w.heap.size w w2) (HI : Hid (InvS S ∧ S.waits.length ≤ k)) (HK70 : Hid (k ≤ 70))
    (HWk : Hid (WrIn w ta tcap ws)) (HAk : Hid (∀ k off, ws ≠ [] → ta = some ⟨k, off, none⟩ → k < w.heap.size)) (HG : Hid (w.cell? ⟨0, 0, none⟩ = some (.iface 186 (.agg #[.pointer (some ⟨1, 25, none⟩)])))) (h0 : 0 ≤ n) (h4 : n < 4) (R : Act → World → Prop)
    (hR : ∀ (u12 u13 u14 u15 u16 u66 u67 u68 u69 u70 u71 u72 u73 u74 u75 u76 u77 u78 u79 u80 u81 u82 u83 u84 u85 u86 u87 u88 u89 u90 u91 u92 u93 u94 u95 u96 u97 u98 u99 u100 u101 u102 u103 u104 u105 u106 u107 u108 u109 u110 u111 u112 u113 u114 u115 u116 u117 u118 u119 u120 u121 u122 u123 u124 u125 u126 u127 u128 u129 u130 u131 u132 u133 u134 u135 u136 u137 u138 u139 u140 u141 u142 u143 u144 u145 u146 u147 u148 u149 u150 u151 u152 u153 u154 u155 u156 u157 u158 u159 u160 u161 u162 u163 u164 u165 : Value) (wc : World), MidS bp br k xb [.int .i64 2, .int .i64 n, .int .i64 b0, .int .i64 b1, .int .i64 b2, .int .i64 b3, .int .i64 site, .int .i64 seq, .int .i64 wall, .int .i64 count, .int .i64 d0, .int .i64 d1, .int .i64 d2, .int .i64 d3, .slice ta ws.length tcap] w wc → R ⟨List.toArray (y0 :: y1 :: y2 :: y3 :: y4 :: y5 :: y6 :: (.pointer (some ⟨bp, 0, none⟩)) :: y8 :: (.pointer (some ⟨br, 0, none⟩)) :: y10 :: (.pointer (some ⟨xb, 0, none⟩)) :: u12 :: u13 :: u14 :: u15 :: u16 :: y17 :: y18 :: y19 :: y20 :: y21 :: y22 :: y23 :: y24 :: y25 :: y26 :: y27 :: y28 :: y29 :: y30 :: y31 :: y32 :: y33 :: y34 :: y35 :: y36 :: y37 :: y38 :: y39 :: y40 :: y41 :: y42 :: y43 :: y44 :: y45 :: y46 :: y47 :: y48 :: y49 :: y50 :: y51 :: y52 :: y53 :: y54 :: y55 :: y56 :: y57 :: y58 :: y59 :: y60 :: y61 :: y62 :: y63 :: y64 :: (.int .i64 2) :: u66 :: u67 :: u68 :: u69 :: u70 :: u71 :: u72 :: u73 :: u74 :: u75 :: u76 :: u77 :: u78 :: u79 :: u80 :: u81 :: u82 :: u83 :: u84 :: u85 :: u86 :: u87 :: u88 :: u89 :: u90 :: u91 :: u92 :: u93 :: u94 :: u95 :: u96 :: u97 :: u98 :: u99 :: u100 :: u101 :: u102 :: u103 :: u104 :: u105 :: u106 :: u107 :: u108 :: u109 :: u110 :: u111 :: u112 :: u113 :: u114 :: u115 :: u116 :: u117 :: u118 :: u119 :: u120 :: u121 :: u122 :: u123 :: u124 :: u125 :: u126 :: u127 :: u128 :: u129 :: u130 :: u131 :: u132 :: u133 :: u134 :: u135 :: u136 :: u137 :: u138 :: u139 :: u140 :: u141 :: u142 :: u143 :: u144 :: u145 :: u146 :: u147 :: u148 :: u149 :: u150 :: u151 :: u152 :: u153 :: u154 :: u155 :: u156 :: u157 :: u158 :: u159 :: u160 :: u161 :: u162 :: u163 :: u164 :: u165 :: y166 :: y167 :: y168 :: y169 :: y170 :: y171 :: y172 :: y173 :: y174 :: y175 :: y176 :: y177 :: y178 :: y179 :: y180 :: y181 :: y182 :: y183 :: y184 :: y185 :: y186 :: y187 :: y188 :: y189 :: y190 :: y191 :: y192 :: y193 :: y194 :: y195 :: y196 :: y197 :: y198 :: y199 :: y200 :: y201 :: y202 :: y203 :: y204 :: y205 :: y206 :: y207 :: y208 :: y209 :: y210 :: y211 :: y212 :: y213 :: y214 :: y215 :: y216 :: y217 :: y218 :: y219 :: y220 :: y221 :: y222 :: y223 :: y224 :: y225 :: y226 :: y227 :: y228 :: y229 :: y230 :: y231 :: y232 :: y233 :: y234 :: y235 :: y236 :: y237 :: y238 :: y239 :: y240 :: y241 :: y242 :: y243 :: y244 :: y245 :: y246 :: y247 :: y248 :: y249 :: y250 :: y251 :: y252 :: y253 :: y254 :: y255 :: y256 :: y257 :: []), []⟩ wc) :
    Code.wp Tryz.prog playsSw (Exit.then R (fun _ _ _ => False)) ⟨List.toArray (y0 :: y1 :: y2 :: y3 :: y4 :: y5 :: y6 :: (.pointer (some ⟨bp, 0, none⟩)) :: y8 :: (.pointer (some ⟨br, 0, none⟩)) :: y10 :: (.pointer (some ⟨xb, 0, none⟩)) :: y12 :: y13 :: y14 :: y15 :: y16 :: y17 :: y18 :: y19 :: y20 :: y21 :: y22 :: y23 :: y24 :: y25 :: y26 :: y27 :: y28 :: y29 :: y30 :: y31 :: y32 :: y33 :: y34 :: y35 :: y36 :: y37 :: y38 :: y39 :: y40 :: y41 :: y42 :: y43 :: y44 :: y45 :: y46 :: y47 :: y48 :: y49 :: y50 :: y51 :: y52 :: y53 :: y54 :: y55 :: y56 :: y57 :: y58 :: y59 :: y60 :: y61 :: y62 :: y63 :: y64 :: (.int .i64 2) :: y66 :: y67 :: y68 :: y69 :: y70 :: y71 :: y72 :: y73 :: y74 :: y75 :: y76 :: y77 :: y78 :: y79 :: y80 :: y81 :: y82 :: y83 :: y84 :: y85 :: y86 :: y87 :: y88 :: y89 :: y90 :: y91 :: y92 :: y93 :: y94 :: y95 :: y96 :: y97 :: y98 :: y99 :: y100 :: y101 :: y102 :: y103 :: y104 :: y105 :: y106 :: y107 :: y108 :: y109 :: y110 :: y111 :: y112 :: y113 :: y114 :: y115 :: y116 :: y117 :: y118 :: y119 :: y120 :: y121 :: y122 :: y123 :: y124 :: y125 :: y126 :: y127 :: y128 :: y129 :: y130 :: y131 :: y132 :: y133 :: y134 :: y135 :: y136 :: y137 :: y138 :: y139 :: y140 :: y141 :: y142 :: y143 :: y144 :: y145 :: y146 :: y147 :: y148 :: y149 :: y150 :: y151 :: y152 :: y153 :: y154 :: y155 :: y156 :: y157 :: y158 :: y159 :: y160 :: y161 :: y162 :: y163 :: y164 :: y165 :: y166 :: y167 :: y168 :: y169 :: y170 :: y171 :: y172 :: y173 :: y174 :: y175 :: y176 :: y177 :: y178 :: y179 :: y180 :: y181 :: y182 :: y183 :: y184 :: y185 :: y186 :: y187 :: y188 :: y189 :: y190 :: y191 :: y192 :: y193 :: y194 :: y195 :: y196 :: y197 :: y198 :: y199 :: y200 :: y201 :: y202 :: y203 :: y204 :: y205 :: y206 :: y207 :: y208 :: y209 :: y210 :: y211 :: y212 :: y213 :: y214 :: y215 :: y216 :: y217 :: y218 :: y219 :: y220 :: y221 :: y222 :: y223 :: y224 :: y225 :: y226 :: y227 :: y228 :: y229 :: y230 :: y231 :: y232 :: y233 :: y234 :: y235 :: y236 :: y237 :: y238 :: y239 :: y240 :: y241 :: y242 :: y243 :: y244 :: y245 :: y246 :: y247 :: y248 :: y249 :: y250 :: y251 :: y252 :: y253 :: y254 :: y255 :: y256 :: y257 :: []), []⟩ w2 := by
  have HR : Hid (∀ (u12 u13 u14 u15 u16 u66 u67 u68 u69 u70 u71 u72 u73 u74 u75 u76 u77 u78 u79 u80 u81 u82 u83 u84 u85 u86 u87 u88 u89 u90 u91 u92 u93 u94 u95 u96 u97 u98 u99 u100 u101 u102 u103 u104 u105 u106 u107 u108 u109 u110 u111 u112 u113 u114 u115 u116 u117 u118 u119 u120 u121 u122 u123 u124 u125 u126 u127 u128 u129 u130 u131 u132 u133 u134 u135 u136 u137 u138 u139 u140 u141 u142 u143 u144 u145 u146 u147 u148 u149 u150 u151 u152 u153 u154 u155 u156 u157 u158 u159 u160 u161 u162 u163 u164 u165 : Value) (wc : World), MidS bp br k xb [.int .i64 2, .int .i64 n, .int .i64 b0, .int .i64 b1, .int .i64 b2, .int .i64 b3, .int .i64 site, .int .i64 seq, .int .i64 wall, .int .i64 count, .int .i64 d0, .int .i64 d1, .int .i64 d2, .int .i64 d3, .slice ta ws.length tcap] w wc → R ⟨List.toArray (y0 :: y1 :: y2 :: y3 :: y4 :: y5 :: y6 :: (.pointer (some ⟨bp, 0, none⟩)) :: y8 :: (.pointer (some ⟨br, 0, none⟩)) :: y10 :: (.pointer (some ⟨xb, 0, none⟩)) :: u12 :: u13 :: u14 :: u15 :: u16 :: y17 :: y18 :: y19 :: y20 :: y21 :: y22 :: y23 :: y24 :: y25 :: y26 :: y27 :: y28 :: y29 :: y30 :: y31 :: y32 :: y33 :: y34 :: y35 :: y36 :: y37 :: y38 :: y39 :: y40 :: y41 :: y42 :: y43 :: y44 :: y45 :: y46 :: y47 :: y48 :: y49 :: y50 :: y51 :: y52 :: y53 :: y54 :: y55 :: y56 :: y57 :: y58 :: y59 :: y60 :: y61 :: y62 :: y63 :: y64 :: (.int .i64 2) :: u66 :: u67 :: u68 :: u69 :: u70 :: u71 :: u72 :: u73 :: u74 :: u75 :: u76 :: u77 :: u78 :: u79 :: u80 :: u81 :: u82 :: u83 :: u84 :: u85 :: u86 :: u87 :: u88 :: u89 :: u90 :: u91 :: u92 :: u93 :: u94 :: u95 :: u96 :: u97 :: u98 :: u99 :: u100 :: u101 :: u102 :: u103 :: u104 :: u105 :: u106 :: u107 :: u108 :: u109 :: u110 :: u111 :: u112 :: u113 :: u114 :: u115 :: u116 :: u117 :: u118 :: u119 :: u120 :: u121 :: u122 :: u123 :: u124 :: u125 :: u126 :: u127 :: u128 :: u129 :: u130 :: u131 :: u132 :: u133 :: u134 :: u135 :: u136 :: u137 :: u138 :: u139 :: u140 :: u141 :: u142 :: u143 :: u144 :: u145 :: u146 :: u147 :: u148 :: u149 :: u150 :: u151 :: u152 :: u153 :: u154 :: u155 :: u156 :: u157 :: u158 :: u159 :: u160 :: u161 :: u162 :: u163 :: u164 :: u165 :: y166 :: y167 :: y168 :: y169 :: y170 :: y171 :: y172 :: y173 :: y174 :: y175 :: y176 :: y177 :: y178 :: y179 :: y180 :: y181 :: y182 :: y183 :: y184 :: y185 :: y186 :: y187 :: y188 :: y189 :: y190 :: y191 :: y192 :: y193 :: y194 :: y195 :: y196 :: y197 :: y198 :: y199 :: y200 :: y201 :: y202 :: y203 :: y204 :: y205 :: y206 :: y207 :: y208 :: y209 :: y210 :: y211 :: y212 :: y213 :: y214 :: y215 :: y216 :: y217 :: y218 :: y219 :: y220 :: y221 :: y222 :: y223 :: y224 :: y225 :: y226 :: y227 :: y228 :: y229 :: y230 :: y231 :: y232 :: y233 :: y234 :: y235 :: y236 :: y237 :: y238 :: y239 :: y240 :: y241 :: y242 :: y243 :: y244 :: y245 :: y246 :: y247 :: y248 :: y249 :: y250 :: y251 :: y252 :: y253 :: y254 :: y255 :: y256 :: y257 :: []), []⟩ wc) := hR
  clear hR
  have BR : Hid (∀ (n : Int) (w : World), w.cell? ⟨0, 0, none⟩ = some (.iface 186 (.agg #[.pointer (some ⟨1, 25, none⟩)])) → Calls Tryz.prog 6 #[errV n, .int .i64 n] w fun e w' => e = .returned (.bool true) ∧ Below w.heap.size w w') := fun n w h => sameErr_errV' n w h
  have : True := by have := HI; have := HK70; have := HWk; have := HAk; have := HG; have := BR; trivial
  clear this
  conv => arg 2; whnf
  obtain ⟨lv, va, vc, sa, sc, RB2, _, _⟩ := T2.box
  have hk4 : n.toNat < 4 := by omega
  have T0 := T2.later ((Below.refl _ w2).drew)
  have MH : MidH xb br [.int .i64 2, .int .i64 n, .int .i64 b0, .int .i64 b1, .int .i64 b2, .int .i64 b3, .int .i64 site, .int .i64 seq, .int .i64 wall, .int .i64 count, .int .i64 d0, .int .i64 d1, .int .i64 d2, .int .i64 d3, .slice ta ws.length tcap] (siteC S lv (.slice va S.waits.length vc) (.slice sa S.l.length sc)) w2.drew := ⟨RX2.drew, RB2.drew⟩
  have hbD := hb2.drew
  have c1 := RX2.cell 1 _ rfl
  go_wp2_with fail
  clear c1
  have c1 := MH.x.cell 1 _ rfl
  have c2 := MH.x.cell 2 _ rfl
  have c3 := MH.x.cell 3 _ rfl
  have c4 := MH.x.cell 4 _ rfl
  have c5 := MH.x.cell 5 _ rfl
  have o0 := oth_at0 MH.r hk4
  have o1 := oth_at1 MH.r hk4
  have o2 := oth_at2 MH.r hk4
  have o3 := oth_at3 MH.r hk4
  go_region_law (refine step_call rfl 13 #[.agg #[.int .i64 (S.oth (n.toNat * 4)), .int .i64 (S.oth (n.toNat * 4 + 1)), .int .i64 (S.oth (n.toNat * 4 + 2)), .int .i64 (S.oth (n.toNat * 4 + 3))], .agg #[.int .i64 b0, .int .i64 b1, .int .i64 b2, .int .i64 b3]] (by go_simp) (refMax_any _ _ _ _ b0 b1 b2 b3 _) ?_
                 rintro e wa ⟨rfl, hba⟩
                 refine ⟨_, rfl, ?_⟩
                 have TA := T0.later hba
                 have MA := MH.later hba
                 have hbA := behind hbD hba
                 have e1 := MA.x.cell 1 _ rfl
                 have p0 := oth_at0 MA.r hk4
                 have p1 := oth_at1 MA.r hk4
                 have p2 := oth_at2 MA.r hk4
                 have p3 := oth_at3 MA.r hk4
                 have f0 := MA.r.free (10 + n.toNat * 4) (by simp [siteC]; omega)
                 have f1 := MA.r.free (10 + n.toNat * 4 + 1) (by simp [siteC]; omega)
                 have f2 := MA.r.free (10 + n.toNat * 4 + 2) (by simp [siteC]; omega)
                 have f3 := MA.r.free (10 + n.toNat * 4 + 3) (by simp [siteC]; omega))
  all_goals
    obtain ⟨TB, KB⟩ := TA.rknow hk4 b0 b1 b2 b3
    have RB := MA.x.keeps KB (.inr rfl)
    have hbB := hbA.trans (KB.below (fun j hj => .inl hj))
    obtain ⟨WB, hWB⟩ : ∃ WB, (((wa.setCell ⟨br, 10 + n.toNat * 4, none⟩ (.int .i64 (maxZ (S.oth (n.toNat * 4)) b0))).setCell ⟨br, 10 + n.toNat * 4 + 1, none⟩ (.int .i64 (maxZ (S.oth (n.toNat * 4 + 1)) b1))).setCell ⟨br, 10 + n.toNat * 4 + 2, none⟩ (.int .i64 (maxZ (S.oth (n.toNat * 4 + 2)) b2))).setCell ⟨br, 10 + n.toNat * 4 + 3, none⟩ (.int .i64 (maxZ (S.oth (n.toNat * 4 + 3)) b3)) = WB := ⟨_, rfl⟩
    rw [hWB] at TB RB hbB ⊢
    clear c1 c2 c3 c4 c5 o0 o1 o2 o3 e1 p0 p1 p2 p3 f0 f1 f2 f3 KB hWB TA MA hbA hba
    have c1 := RB.cell 1 _ rfl
    have c2 := RB.cell 2 _ rfl
    have c3 := RB.cell 3 _ rfl
    have c4 := RB.cell 4 _ rfl
    have c5 := RB.cell 5 _ rfl
    have KN := two_knows h0 h4 b0 b1 b2 b3 TB
    go_wp2_with fail
    refine KN.mono ?_
    rintro e wd ⟨rfl, TD, KD⟩
    have RD := RB.keeps KD (.inr rfl)
    have hbE := hbB.trans (KD.below (fun j hj => .inl hj))
    have BB := BR.out 0 _ (cell_later hbE HG.out)
    clear c1 c2 c3 c4 c5 KN
    go_wp2_with fail
    refine BB.mono ?_
    rintro e wf ⟨rfl, hbf⟩
    have RC := RD.later hbf
    have MID : MidS bp br k xb [.int .i64 2, .int .i64 n, .int .i64 b0, .int .i64 b1, .int .i64 b2, .int .i64 b3, .int .i64 site, .int .i64 seq, .int .i64 wall, .int .i64 count, .int .i64 d0, .int .i64 d1, .int .i64 d2, .int .i64 d3, .slice ta ws.length tcap] w wf := ⟨_, TD.later hbf, RC, ⟨HI.out.1.knows _, by have := HI.out.2; show S.waits.length ≤ k + 1; omega⟩, behind hbE hbf⟩
    clear T0 MH hbD TB RB hbB TD KD RD hbE BB RB2
    go_wp2_with fail
    exact HR.out _ _ _ _ _ _ _ _ _ _ _ _ _ _ _ _ _ _ _ _ _ _ _ _ _ _ _ _ _ _ _ _ _ _ _ _ _ _ _ _ _ _ _ _ _ _ _ _ _ _ _ _ _ _ _ _ _ _ _ _ _ _ _ _ _ _ _ _ _ _ _ _ _ _ _ _ _ _ _ _ _ _ _ _ _ _ _ _ _ _ _ _ _ _ _ _ _ _ _ _ _ _ _ _ _ _ MID

end Go.Proofs.YtplbdmcfghhbdaaGreatDoor
