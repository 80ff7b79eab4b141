/-
  The last statement of a round of 'copselaw.SessionPlays': what the session has seen, and sees, is the same, as the model runs it, whatever the rest of the frame is.
-/
import Derived.Test.YtpncedpfoakfkaaGreatDoorSiteJ
namespace Go.Proofs.YtpncedpfoakfkaaGreatDoor
open Go.RowKit

noncomputable def sesR47 : Code := ((Tryz.f4.body.bind (findRegion 47)).getD .skip)
set_option maxRecDepth 1000000 in
set_option maxHeartbeats 16000000 in
theorem sesR47_any {bp br : Nat → Nat} {bs cs : Nat} {S : Nat → SiteS} {s : SesS} {X : Nat → Prop} {y0 y1 y2 y5 y6 y7 y8 y9 y10 y11 y12 y13 y14 y15 y16 y17 y18 y19 y20 y21 y22 y23 y24 y25 y26 y27 y28 y29 y30 y31 y32 y33 y34 y35 y36 y37 y38 y39 y40 y41 y42 y43 y44 y45 y46 y47 y48 y49 y50 y51 y52 y53 y54 y55 y56 y57 y58 y59 y60 y61 y62 y63 y64 y65 y66 y67 y68 y69 y70 y71 y72 y73 y74 y75 y76 y77 y78 y79 y80 y81 y82 y83 y84 y85 y86 y87 y88 y89 y90 y91 y92 y93 y94 y95 y96 y97 y98 y99 y100 y101 y102 y103 y104 y105 y106 y107 y108 y109 y110 y111 y112 y113 y114 y115 y116 y117 y118 y119 y120 y121 y122 y123 y124 y125 y126 y127 y128 y129 y130 y131 y132 y133 y134 y135 y136 y137 y138 y139 y140 y141 y142 y143 y144 y145 y146 y147 y148 y149 y150 y151 y152 y153 y154 y155 y156 y157 y158 y159 y160 y161 y162 y163 y164 y165 y166 y167 y168 y169 y170 y171 y172 y173 y174 y175 y176 y177 y178 y179 y180 y181 y182 y183 y184 y185 y186 y187 y188 y189 y190 y191 y192 y193 y194 y195 y196 y197 y198 y199 y200 y201 y202 y203 y204 y205 y206 y207 y208 y209 y210 y211 y212 y213 y214 y215 y216 y217 y218 y219 y220 y221 y222 : Value} (w2 : World) (T2 : Six w2 bp br bs cs S S s s X 6 NoY) (R : Act → World → Prop)
    (hR : ∀ (u198 u199 u200 u201 u202 u203 u204 u205 u206 u207 u208 u209 u210 u211 u212 u213 u214 u215 u216 u217 u218 u219 u220 u221 : Value) (wc : World), Below w2.heap.size w2 wc → R ⟨List.toArray (y0 :: y1 :: y2 :: (.pointer (some ⟨bs, 0, none⟩)) :: (.pointer (some ⟨cs, 0, none⟩)) :: y5 :: y6 :: y7 :: y8 :: y9 :: y10 :: y11 :: y12 :: y13 :: y14 :: y15 :: y16 :: y17 :: y18 :: y19 :: y20 :: y21 :: y22 :: y23 :: y24 :: y25 :: y26 :: y27 :: y28 :: y29 :: y30 :: y31 :: y32 :: y33 :: y34 :: y35 :: y36 :: y37 :: y38 :: y39 :: y40 :: y41 :: y42 :: y43 :: y44 :: y45 :: y46 :: y47 :: y48 :: y49 :: y50 :: y51 :: y52 :: y53 :: y54 :: y55 :: y56 :: y57 :: y58 :: y59 :: y60 :: y61 :: y62 :: y63 :: y64 :: y65 :: y66 :: y67 :: y68 :: y69 :: y70 :: y71 :: y72 :: y73 :: y74 :: y75 :: y76 :: y77 :: y78 :: y79 :: y80 :: y81 :: y82 :: y83 :: y84 :: y85 :: y86 :: y87 :: y88 :: y89 :: y90 :: y91 :: y92 :: y93 :: y94 :: y95 :: y96 :: y97 :: y98 :: y99 :: y100 :: y101 :: y102 :: y103 :: y104 :: y105 :: y106 :: y107 :: y108 :: y109 :: y110 :: y111 :: y112 :: y113 :: y114 :: y115 :: y116 :: y117 :: y118 :: y119 :: y120 :: y121 :: y122 :: y123 :: y124 :: y125 :: y126 :: y127 :: y128 :: y129 :: y130 :: y131 :: y132 :: y133 :: y134 :: y135 :: y136 :: y137 :: y138 :: y139 :: y140 :: y141 :: y142 :: y143 :: y144 :: y145 :: y146 :: y147 :: y148 :: y149 :: y150 :: y151 :: y152 :: y153 :: y154 :: y155 :: y156 :: y157 :: y158 :: y159 :: y160 :: y161 :: y162 :: y163 :: y164 :: y165 :: y166 :: y167 :: y168 :: y169 :: y170 :: y171 :: y172 :: y173 :: y174 :: y175 :: y176 :: y177 :: y178 :: y179 :: y180 :: y181 :: y182 :: y183 :: y184 :: y185 :: y186 :: y187 :: y188 :: y189 :: y190 :: y191 :: y192 :: y193 :: y194 :: y195 :: y196 :: y197 :: u198 :: u199 :: u200 :: u201 :: u202 :: u203 :: u204 :: u205 :: u206 :: u207 :: u208 :: u209 :: u210 :: u211 :: u212 :: u213 :: u214 :: u215 :: u216 :: u217 :: u218 :: u219 :: u220 :: u221 :: (.bool false) :: []), []⟩ wc) :
    Code.wp Tryz.prog sesR47 (Exit.then R (fun _ _ _ => False)) ⟨List.toArray (y0 :: y1 :: y2 :: (.pointer (some ⟨bs, 0, none⟩)) :: (.pointer (some ⟨cs, 0, none⟩)) :: y5 :: y6 :: y7 :: y8 :: y9 :: y10 :: y11 :: y12 :: y13 :: y14 :: y15 :: y16 :: y17 :: y18 :: y19 :: y20 :: y21 :: y22 :: y23 :: y24 :: y25 :: y26 :: y27 :: y28 :: y29 :: y30 :: y31 :: y32 :: y33 :: y34 :: y35 :: y36 :: y37 :: y38 :: y39 :: y40 :: y41 :: y42 :: y43 :: y44 :: y45 :: y46 :: y47 :: y48 :: y49 :: y50 :: y51 :: y52 :: y53 :: y54 :: y55 :: y56 :: y57 :: y58 :: y59 :: y60 :: y61 :: y62 :: y63 :: y64 :: y65 :: y66 :: y67 :: y68 :: y69 :: y70 :: y71 :: y72 :: y73 :: y74 :: y75 :: y76 :: y77 :: y78 :: y79 :: y80 :: y81 :: y82 :: y83 :: y84 :: y85 :: y86 :: y87 :: y88 :: y89 :: y90 :: y91 :: y92 :: y93 :: y94 :: y95 :: y96 :: y97 :: y98 :: y99 :: y100 :: y101 :: y102 :: y103 :: y104 :: y105 :: y106 :: y107 :: y108 :: y109 :: y110 :: y111 :: y112 :: y113 :: y114 :: y115 :: y116 :: y117 :: y118 :: y119 :: y120 :: y121 :: y122 :: y123 :: y124 :: y125 :: y126 :: y127 :: y128 :: y129 :: y130 :: y131 :: y132 :: y133 :: y134 :: y135 :: y136 :: y137 :: y138 :: y139 :: y140 :: y141 :: y142 :: y143 :: y144 :: y145 :: y146 :: y147 :: y148 :: y149 :: y150 :: y151 :: y152 :: y153 :: y154 :: y155 :: y156 :: y157 :: y158 :: y159 :: y160 :: y161 :: y162 :: y163 :: y164 :: y165 :: y166 :: y167 :: y168 :: y169 :: y170 :: y171 :: y172 :: y173 :: y174 :: y175 :: y176 :: y177 :: y178 :: y179 :: y180 :: y181 :: y182 :: y183 :: y184 :: y185 :: y186 :: y187 :: y188 :: y189 :: y190 :: y191 :: y192 :: y193 :: y194 :: y195 :: y196 :: y197 :: y198 :: y199 :: y200 :: y201 :: y202 :: y203 :: y204 :: y205 :: y206 :: y207 :: y208 :: y209 :: y210 :: y211 :: y212 :: y213 :: y214 :: y215 :: y216 :: y217 :: y218 :: y219 :: y220 :: y221 :: y222 :: []), []⟩ w2 := by
  have HR : Hid _ := hR
  clear hR
  obtain ⟨wv, H0⟩ := T2.box
  have B0 : Below w2.heap.size w2 w2.drew := (Below.refl _ w2).drew
  have H0' := H0.later B0
  have nv1 := neVec s.p0 s.p1 s.p2 s.p3
  have nv2 := neVec s.s0 s.s1 s.s2 s.s3
  have Y0 := fun (w' : World) (h : RowL w' cs (rsesC s wv)) => h.cell 0 _ rfl
  have Y1 := fun (w' : World) (h : RowL w' cs (rsesC s wv)) => h.cell 1 _ rfl
  have Y2 := fun (w' : World) (h : RowL w' cs (rsesC s wv)) => h.cell 2 _ rfl
  have Y3 := fun (w' : World) (h : RowL w' cs (rsesC s wv)) => h.cell 3 _ rfl
  have Y4 := fun (w' : World) (h : RowL w' cs (rsesC s wv)) => h.cell 4 _ rfl
  have Y5 := fun (w' : World) (h : RowL w' cs (rsesC s wv)) => h.cell 5 _ rfl
  have Y6 := fun (w' : World) (h : RowL w' cs (rsesC s wv)) => h.cell 6 _ rfl
  have Y7 := fun (w' : World) (h : RowL w' cs (rsesC s wv)) => h.cell 7 _ rfl
  have Y8 := fun (w' : World) (h : RowL w' cs (rsesC s wv)) => h.cell 8 _ rfl
  conv => arg 2; whnf
  go_region_held3 (fun w' => RowL w' cs (rsesC s wv)) (with_reducible assumption)
    (first
      | (go_at_call 42; (with_reducible refine (six_past (T2.later B0)).mono ?_); rintro e w11 ⟨rfl, hb1⟩; have B1 := behind B0 hb1; have H1 := H0.later B1)
      | (go_at_call 43; (with_reducible refine (six_snap (T2.later B1)).mono ?_); rintro e w12 ⟨rfl, hb2⟩; have B2 := behind B1 hb2; have H2 := H0.later B2)
      | (go_at_call 44; (with_reducible refine (six_open (T2.later B2)).mono ?_); rintro e w13 ⟨rfl, hb3⟩; have B3 := behind B2 hb3; have H3 := H0.later B3))
  all_goals
    refine HR.out _ _ _ _ _ _ _ _ _ _ _ _ _ _ _ _ _ _ _ _ _ _ _ _ _ ?_
    exact B3

end Go.Proofs.YtpncedpfoakfkaaGreatDoor
