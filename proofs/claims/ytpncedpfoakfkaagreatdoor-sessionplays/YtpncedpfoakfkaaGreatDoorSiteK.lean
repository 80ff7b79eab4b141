/-
  The switch of a round of 'copselaw.SessionPlays': Write, as the model runs it, whatever the rest of the frame is.
  The switch of a round of 'copselaw.SessionPlays': Commit, as the model runs it, whatever the rest of the frame is.
  The switch of a round of 'copselaw.SessionPlays', whatever is done, as the model runs it, whatever the rest of the frame is.
-/
import Derived.Test.YtpncedpfoakfkaaGreatDoorSiteJ
import Derived.Test.YtpncedpfoakfkaaGreatDoorSsR37
import Derived.Test.YtpncedpfoakfkaaGreatDoorSsR38
import Derived.Deep.Cut
import Derived.Test.YtpncedpfoakfkaaGreatDoorSsSw5
namespace Go.Proofs.YtpncedpfoakfkaaGreatDoor
open Go.RowKit

set_option maxRecDepth 1000000 in
set_option maxHeartbeats 16000000 in
theorem sesSw_2 {bp br : Nat → Nat} {bs cs b5 b6 xb k : Nat} {S : Nat → SiteS} {s : SesS} {az tsi key now xk site seq wall count d0 d1 d2 d3 : Int} {xd : ByteArray} {xg : Bool} {ws : List Wr} {ta : Option Addr} {tcap : Nat} {y0 y1 y2 y7 y8 y9 y11 y13 y14 y15 y16 y17 y18 y19 y20 y21 y22 y23 y24 y25 y26 y27 y28 y29 y30 y31 y32 y33 y34 y35 y36 y37 y38 y39 y40 y41 y42 y43 y44 y45 y46 y47 y48 y49 y50 y51 y52 y53 y54 y55 y56 y57 y58 y59 y60 y61 y62 y63 y64 y65 y66 y67 y68 y69 y70 y71 y72 y73 y74 y75 y76 y77 y78 y79 y80 y81 y82 y83 y85 y86 y87 y88 y89 y90 y91 y92 y93 y94 y95 y96 y97 y98 y99 y100 y101 y102 y103 y104 y105 y106 y107 y108 y109 y110 y111 y112 y113 y114 y115 y116 y117 y118 y119 y120 y121 y122 y123 y124 y125 y126 y127 y128 y129 y130 y131 y132 y133 y134 y135 y136 y137 y138 y139 y140 y141 y142 y143 y144 y145 y146 y147 y148 y149 y150 y151 y152 y153 y154 y155 y156 y157 y158 y159 y160 y161 y162 y163 y164 y165 y166 y167 y168 y169 y170 y171 y172 y173 y174 y175 y176 y177 y178 y179 y180 y181 y182 y183 y184 y185 y186 y187 y188 y189 y190 y191 y192 y193 y194 y195 y196 y197 y198 y199 y200 y201 y202 y203 y204 y205 y206 y207 y208 y209 y210 y211 y212 y213 y214 y215 y216 y217 y218 y219 y220 y221 y222 : Value} (w w2 : World) (T2 : Six w2 bp br bs cs S S s s (SX w.heap.size b5 b6 xb) 6 NoY) (H2 : SH b5 b6 xb bp br [.int .i64 2, .int .i64 tsi, .int .i64 key, .int .i64 now, .int .i64 xk, .string xd, .bool xg, .int .i64 site, .int .i64 seq, .int .i64 wall, .int .i64 count, .int .i64 d0, .int .i64 d1, .int .i64 d2, .int .i64 d3, .slice ta ws.length tcap] w2) (hb2 : Below w.heap.size w w2) (HI : Hid (SInv k S s ∧ k ≤ 80)) (h0 : 0 ≤ az) (h2 : az < 2)
    (HWk : Hid (WrIn w ta tcap ws)) (HKW : Hid ((Lit.int .i64 key).wf = true)) (HG : Hid (w.cell? ⟨0, 0, none⟩ = some (.iface 186 (.agg #[.pointer (some ⟨1, 25, none⟩)])))) (R : Act → World → Prop)
    (hR : ∀ (u13 u14 u15 u16 u17 u18 u19 u20 u85 u86 u87 u88 u89 u90 u91 u92 u93 u94 u95 u96 u97 u98 u99 u100 u101 u102 u103 u104 u105 u106 u107 u108 u109 u110 u111 u112 u113 u114 u115 u116 u117 u118 u119 u120 u121 u122 u123 u124 u125 u126 u127 u128 u129 u130 u131 u132 u133 u134 u135 u136 u137 u138 u139 u140 u141 u142 u143 u144 u145 u146 u147 u148 u149 u150 u151 u152 u153 u154 u155 u156 u157 u158 u159 u160 u161 u162 u163 u164 u165 u166 u167 u168 u169 u170 u171 u172 u173 u174 u175 u176 u177 u178 u179 u180 u181 u182 u183 u184 u185 u186 u187 u188 u189 u190 u191 u192 u193 u194 u195 u196 u197 : Value) (wc : World), SesMid bp br bs cs b5 b6 xb k w wc → R ⟨List.toArray (y0 :: y1 :: y2 :: (.pointer (some ⟨bs, 0, none⟩)) :: (.pointer (some ⟨cs, 0, none⟩)) :: (.pointer (some ⟨b5, 0, none⟩)) :: (.pointer (some ⟨b6, 0, none⟩)) :: y7 :: y8 :: y9 :: (.int .i64 az) :: y11 :: (.pointer (some ⟨xb, 0, none⟩)) :: u13 :: u14 :: u15 :: u16 :: u17 :: u18 :: u19 :: u20 :: y21 :: y22 :: y23 :: y24 :: y25 :: y26 :: y27 :: y28 :: y29 :: y30 :: y31 :: y32 :: y33 :: y34 :: y35 :: y36 :: y37 :: y38 :: y39 :: y40 :: y41 :: y42 :: y43 :: y44 :: y45 :: y46 :: y47 :: y48 :: y49 :: y50 :: y51 :: y52 :: y53 :: y54 :: y55 :: y56 :: y57 :: y58 :: y59 :: y60 :: y61 :: y62 :: y63 :: y64 :: y65 :: y66 :: y67 :: y68 :: y69 :: y70 :: y71 :: y72 :: y73 :: y74 :: y75 :: y76 :: y77 :: y78 :: y79 :: y80 :: y81 :: y82 :: y83 :: (.int .i64 2) :: u85 :: u86 :: u87 :: u88 :: u89 :: u90 :: u91 :: u92 :: u93 :: u94 :: u95 :: u96 :: u97 :: u98 :: u99 :: u100 :: u101 :: u102 :: u103 :: u104 :: u105 :: u106 :: u107 :: u108 :: u109 :: u110 :: u111 :: u112 :: u113 :: u114 :: u115 :: u116 :: u117 :: u118 :: u119 :: u120 :: u121 :: u122 :: u123 :: u124 :: u125 :: u126 :: u127 :: u128 :: u129 :: u130 :: u131 :: u132 :: u133 :: u134 :: u135 :: u136 :: u137 :: u138 :: u139 :: u140 :: u141 :: u142 :: u143 :: u144 :: u145 :: u146 :: u147 :: u148 :: u149 :: u150 :: u151 :: u152 :: u153 :: u154 :: u155 :: u156 :: u157 :: u158 :: u159 :: u160 :: u161 :: u162 :: u163 :: u164 :: u165 :: u166 :: u167 :: u168 :: u169 :: u170 :: u171 :: u172 :: u173 :: u174 :: u175 :: u176 :: u177 :: u178 :: u179 :: u180 :: u181 :: u182 :: u183 :: u184 :: u185 :: u186 :: u187 :: u188 :: u189 :: u190 :: u191 :: u192 :: u193 :: u194 :: u195 :: u196 :: u197 :: y198 :: y199 :: y200 :: y201 :: y202 :: y203 :: y204 :: y205 :: y206 :: y207 :: y208 :: y209 :: y210 :: y211 :: y212 :: y213 :: y214 :: y215 :: y216 :: y217 :: y218 :: y219 :: y220 :: y221 :: y222 :: []), []⟩ wc) :
    Code.wp Tryz.prog sesSw (Exit.then R (fun _ _ _ => False)) ⟨List.toArray (y0 :: y1 :: y2 :: (.pointer (some ⟨bs, 0, none⟩)) :: (.pointer (some ⟨cs, 0, none⟩)) :: (.pointer (some ⟨b5, 0, none⟩)) :: (.pointer (some ⟨b6, 0, none⟩)) :: y7 :: y8 :: y9 :: (.int .i64 az) :: y11 :: (.pointer (some ⟨xb, 0, none⟩)) :: y13 :: y14 :: y15 :: y16 :: y17 :: y18 :: y19 :: y20 :: y21 :: y22 :: y23 :: y24 :: y25 :: y26 :: y27 :: y28 :: y29 :: y30 :: y31 :: y32 :: y33 :: y34 :: y35 :: y36 :: y37 :: y38 :: y39 :: y40 :: y41 :: y42 :: y43 :: y44 :: y45 :: y46 :: y47 :: y48 :: y49 :: y50 :: y51 :: y52 :: y53 :: y54 :: y55 :: y56 :: y57 :: y58 :: y59 :: y60 :: y61 :: y62 :: y63 :: y64 :: y65 :: y66 :: y67 :: y68 :: y69 :: y70 :: y71 :: y72 :: y73 :: y74 :: y75 :: y76 :: y77 :: y78 :: y79 :: y80 :: y81 :: y82 :: y83 :: (.int .i64 2) :: y85 :: y86 :: y87 :: y88 :: y89 :: y90 :: y91 :: y92 :: y93 :: y94 :: y95 :: y96 :: y97 :: y98 :: y99 :: y100 :: y101 :: y102 :: y103 :: y104 :: y105 :: y106 :: y107 :: y108 :: y109 :: y110 :: y111 :: y112 :: y113 :: y114 :: y115 :: y116 :: y117 :: y118 :: y119 :: y120 :: y121 :: y122 :: y123 :: y124 :: y125 :: y126 :: y127 :: y128 :: y129 :: y130 :: y131 :: y132 :: y133 :: y134 :: y135 :: y136 :: y137 :: y138 :: y139 :: y140 :: y141 :: y142 :: y143 :: y144 :: y145 :: y146 :: y147 :: y148 :: y149 :: y150 :: y151 :: y152 :: y153 :: y154 :: y155 :: y156 :: y157 :: y158 :: y159 :: y160 :: y161 :: y162 :: y163 :: y164 :: y165 :: y166 :: y167 :: y168 :: y169 :: y170 :: y171 :: y172 :: y173 :: y174 :: y175 :: y176 :: y177 :: y178 :: y179 :: y180 :: y181 :: y182 :: y183 :: y184 :: y185 :: y186 :: y187 :: y188 :: y189 :: y190 :: y191 :: y192 :: y193 :: y194 :: y195 :: y196 :: y197 :: y198 :: y199 :: y200 :: y201 :: y202 :: y203 :: y204 :: y205 :: y206 :: y207 :: y208 :: y209 :: y210 :: y211 :: y212 :: y213 :: y214 :: y215 :: y216 :: y217 :: y218 :: y219 :: y220 :: y221 :: y222 :: []), []⟩ w2 := by
  have HR : Hid _ := hR
  clear hR
  have BR : Hid (∀ (n : Int) (w : World), w.cell? ⟨0, 0, none⟩ = some (.iface 186 (.agg #[.pointer (some ⟨1, 25, none⟩)])) → Calls Tryz.prog 6 #[errV n, .int .i64 n] w fun e w' => e = .returned (.bool true) ∧ Below w.heap.size w w') := fun n w h => sameErr_errV' n w h
  have : True := by have := HI; have := h0; have := h2; have := HWk; have := HKW; have := HG; have := BR; trivial
  clear this
  conv => arg 2; whnf
  have hi : az.toNat < 2 := by omega
  have T0 := T2.later ((Below.refl _ w2).drew)
  have H0 := H2.later ((Below.refl _ w2).drew)
  have hbD := hb2.drew
  obtain ⟨be, hbe⟩ : ∃ be, wriE s ⟨xk, xd, xg⟩ = be := ⟨_, rfl⟩
  obtain ⟨s', hs'⟩ : ∃ s', wriS s ⟨xk, xd, xg⟩ = s' := ⟨_, rfl⟩
  have HI1 : Hid (SInv (k + 1) S s') := by show SInv _ _ _; rw [← hs']; exact (HI.out.1.mono (Nat.le_succ k)).ses (by rw [wri_p0]; exact HI.out.1.p0) (by have := wri_ws (s := s) (x := ⟨xk, xd, xg⟩); have := HI.out.1.ln; omega)
  have HLN : Hid (s.ws.length ≤ 1000) := by show _ ≤ _; have := HI.out.1.ln; have := HI.out.2; omega
  have CP : Hid (∀ (w' : World) (sr : SesS), Six w' bp br bs cs S S s sr (SX w.heap.size b5 b6 xb) 6 NoY → Calls Tryz.prog 36 #[.pointer (some ⟨bs, 0, none⟩), .agg #[.int .i64 xk, .string xd, .bool xg]] w' fun e w'' => e = .returned (errV be) ∧ Six w'' bp br bs cs S S s' sr (SX w.heap.size b5 b6 xb) 6 NoY ∧ Keeps (SX w.heap.size b5 b6 xb) w' w'') := fun w' sr h => by
    have := six_write ⟨xk, xd, xg⟩ h
    rw [hbe, hs'] at this
    exact this
  have CR : Hid (∀ (w' : World) (sp : SesS), Six w' bp br bs cs S S sp s (SX w.heap.size b5 b6 xb) 6 NoY → Calls Tryz.prog 37 #[.pointer (some ⟨cs, 0, none⟩), .agg #[.int .i64 xk, .string xd, .bool xg]] w' fun e w'' => e = .returned (.int .i64 be) ∧ Six w'' bp br bs cs S S sp s' (SX w.heap.size b5 b6 xb) 6 NoY ∧ Keeps (SX w.heap.size b5 b6 xb) w' w'') := fun w' sp h => by
    have := six_rwrite ⟨xk, xd, xg⟩ h HLN.out
    rw [hbe, hs'] at this
    exact this
  clear hbe hs' hi
  have Y5 := fun (w' : World) (h : SH b5 b6 xb bp br [.int .i64 2, .int .i64 tsi, .int .i64 key, .int .i64 now, .int .i64 xk, .string xd, .bool xg, .int .i64 site, .int .i64 seq, .int .i64 wall, .int .i64 count, .int .i64 d0, .int .i64 d1, .int .i64 d2, .int .i64 d3, .slice ta ws.length tcap] w') => h.r5.cell _ _ (ptrs_at h0 h2 bp)
  have Y6 := fun (w' : World) (h : SH b5 b6 xb bp br [.int .i64 2, .int .i64 tsi, .int .i64 key, .int .i64 now, .int .i64 xk, .string xd, .bool xg, .int .i64 site, .int .i64 seq, .int .i64 wall, .int .i64 count, .int .i64 d0, .int .i64 d1, .int .i64 d2, .int .i64 d3, .slice ta ws.length tcap] w') => h.r6.cell _ _ (ptrs_at h0 h2 br)
  have X4 := fun (w' : World) (h : SH b5 b6 xb bp br [.int .i64 2, .int .i64 tsi, .int .i64 key, .int .i64 now, .int .i64 xk, .string xd, .bool xg, .int .i64 site, .int .i64 seq, .int .i64 wall, .int .i64 count, .int .i64 d0, .int .i64 d1, .int .i64 d2, .int .i64 d3, .slice ta ws.length tcap] w') => h.x.cell 4 _ rfl
  have X5 := fun (w' : World) (h : SH b5 b6 xb bp br [.int .i64 2, .int .i64 tsi, .int .i64 key, .int .i64 now, .int .i64 xk, .string xd, .bool xg, .int .i64 site, .int .i64 seq, .int .i64 wall, .int .i64 count, .int .i64 d0, .int .i64 d1, .int .i64 d2, .int .i64 d3, .slice ta ws.length tcap] w') => h.x.cell 5 _ rfl
  have X6 := fun (w' : World) (h : SH b5 b6 xb bp br [.int .i64 2, .int .i64 tsi, .int .i64 key, .int .i64 now, .int .i64 xk, .string xd, .bool xg, .int .i64 site, .int .i64 seq, .int .i64 wall, .int .i64 count, .int .i64 d0, .int .i64 d1, .int .i64 d2, .int .i64 d3, .slice ta ws.length tcap] w') => h.x.cell 6 _ rfl
  go_wp2_with fail
  go_region_held3 (fun w' => SH b5 b6 xb bp br [.int .i64 2, .int .i64 tsi, .int .i64 key, .int .i64 now, .int .i64 xk, .string xd, .bool xg, .int .i64 site, .int .i64 seq, .int .i64 wall, .int .i64 count, .int .i64 d0, .int .i64 d1, .int .i64 d2, .int .i64 d3, .slice ta ws.length tcap] w') (with_reducible assumption)
    (first
      | (go_at_call 36; (with_reducible refine (CP.out _ _ T0).mono ?_); rintro e wA ⟨rfl, TA, KA⟩; have HA := H0.keeps KA (fun j h => .inr h); have hbA := hbD.trans (KA.below (fun k hk => .inl hk)))
      | (go_at_call 37; (with_reducible refine (CR.out _ _ TA).mono ?_); rintro e wB ⟨rfl, TB, KB⟩; have HB := HA.keeps KB (fun j h => .inr h); have hbB := hbA.trans (KB.below (fun k hk => .inl hk)))
      | (go_at_call 37; (with_reducible refine (CR.out _ _ T0).mono ?_); rintro e wA ⟨rfl, TA, KA⟩; have HA := H0.keeps KA (fun j h => .inr h); have hbA := hbD.trans (KA.below (fun k hk => .inl hk)))
      | (go_at_call 36; (with_reducible refine (CP.out _ _ TA).mono ?_); rintro e wB ⟨rfl, TB, KB⟩; have HB := HA.keeps KB (fun j h => .inr h); have hbB := hbA.trans (KB.below (fun k hk => .inl hk)))
      | (go_at_call 6; (with_reducible refine (BR.out _ _ (cell_later hbB HG.out)).mono ?_); rintro e wc ⟨rfl, hbc⟩; have TC := TB.later hbc; have HC := HB.later hbc; have hbC := behind hbB hbc))
  all_goals
    have MID : SesMid bp br bs cs b5 b6 xb k w wc := ⟨_, _, TC, HC.r5, HC.r6, HI1, hbC⟩
    clear Y5 Y6 X4 X5 X6 T0 H0 hbD TA KA HA hbA TB KB HB hbB hbc TC HC hbC
    go_wp2_with fail
    exact HR.out _ _ _ _ _ _ _ _ _ _ _ _ _ _ _ _ _ _ _ _ _ _ _ _ _ _ _ _ _ _ _ _ _ _ _ _ _ _ _ _ _ _ _ _ _ _ _ _ _ _ _ _ _ _ _ _ _ _ _ _ _ _ _ _ _ _ _ _ _ _ _ _ _ _ _ _ _ _ _ _ _ _ _ _ _ _ _ _ _ _ _ _ _ _ _ _ _ _ _ _ _ _ _ _ _ _ _ _ _ _ _ _ _ _ _ _ _ _ _ _ _ _ MID

end Go.Proofs.YtpncedpfoakfkaaGreatDoor

namespace Go.Proofs.YtpncedpfoakfkaaGreatDoor
open Go.RowKit

set_option maxRecDepth 1000000 in
set_option maxHeartbeats 16000000 in
theorem sesSw_3 {bp br : Nat → Nat} {bs cs b5 b6 xb k : Nat} {S : Nat → SiteS} {s : SesS} {az tsi key now xk site seq wall count d0 d1 d2 d3 : Int} {xd : ByteArray} {xg : Bool} {ws : List Wr} {ta : Option Addr} {tcap : Nat} {y0 y1 y2 y7 y8 y9 y11 y13 y14 y15 y16 y17 y18 y19 y20 y21 y22 y23 y24 y25 y26 y27 y28 y29 y30 y31 y32 y33 y34 y35 y36 y37 y38 y39 y40 y41 y42 y43 y44 y45 y46 y47 y48 y49 y50 y51 y52 y53 y54 y55 y56 y57 y58 y59 y60 y61 y62 y63 y64 y65 y66 y67 y68 y69 y70 y71 y72 y73 y74 y75 y76 y77 y78 y79 y80 y81 y82 y83 y85 y86 y87 y88 y89 y90 y91 y92 y93 y94 y95 y96 y97 y98 y99 y100 y101 y102 y103 y104 y105 y106 y107 y108 y109 y110 y111 y112 y113 y114 y115 y116 y117 y118 y119 y120 y121 y122 y123 y124 y125 y126 y127 y128 y129 y130 y131 y132 y133 y134 y135 y136 y137 y138 y139 y140 y141 y142 y143 y144 y145 y146 y147 y148 y149 y150 y151 y152 y153 y154 y155 y156 y157 y158 y159 y160 y161 y162 y163 y164 y165 y166 y167 y168 y169 y170 y171 y172 y173 y174 y175 y176 y177 y178 y179 y180 y181 y182 y183 y184 y185 y186 y187 y188 y189 y190 y191 y192 y193 y194 y195 y196 y197 y198 y199 y200 y201 y202 y203 y204 y205 y206 y207 y208 y209 y210 y211 y212 y213 y214 y215 y216 y217 y218 y219 y220 y221 y222 : Value} (w w2 : World) (T2 : Six w2 bp br bs cs S S s s (SX w.heap.size b5 b6 xb) 6 NoY) (H2 : SH b5 b6 xb bp br [.int .i64 3, .int .i64 tsi, .int .i64 key, .int .i64 now, .int .i64 xk, .string xd, .bool xg, .int .i64 site, .int .i64 seq, .int .i64 wall, .int .i64 count, .int .i64 d0, .int .i64 d1, .int .i64 d2, .int .i64 d3, .slice ta ws.length tcap] w2) (hb2 : Below w.heap.size w w2) (HI : Hid (SInv k S s ∧ k ≤ 80)) (h0 : 0 ≤ az) (h2 : az < 2)
    (HWk : Hid (WrIn w ta tcap ws)) (HKW : Hid ((Lit.int .i64 key).wf = true)) (HG : Hid (w.cell? ⟨0, 0, none⟩ = some (.iface 186 (.agg #[.pointer (some ⟨1, 25, none⟩)])))) (R : Act → World → Prop)
    (hR : ∀ (u13 u14 u15 u16 u17 u18 u19 u20 u85 u86 u87 u88 u89 u90 u91 u92 u93 u94 u95 u96 u97 u98 u99 u100 u101 u102 u103 u104 u105 u106 u107 u108 u109 u110 u111 u112 u113 u114 u115 u116 u117 u118 u119 u120 u121 u122 u123 u124 u125 u126 u127 u128 u129 u130 u131 u132 u133 u134 u135 u136 u137 u138 u139 u140 u141 u142 u143 u144 u145 u146 u147 u148 u149 u150 u151 u152 u153 u154 u155 u156 u157 u158 u159 u160 u161 u162 u163 u164 u165 u166 u167 u168 u169 u170 u171 u172 u173 u174 u175 u176 u177 u178 u179 u180 u181 u182 u183 u184 u185 u186 u187 u188 u189 u190 u191 u192 u193 u194 u195 u196 u197 : Value) (wc : World), SesMid bp br bs cs b5 b6 xb k w wc → R ⟨List.toArray (y0 :: y1 :: y2 :: (.pointer (some ⟨bs, 0, none⟩)) :: (.pointer (some ⟨cs, 0, none⟩)) :: (.pointer (some ⟨b5, 0, none⟩)) :: (.pointer (some ⟨b6, 0, none⟩)) :: y7 :: y8 :: y9 :: (.int .i64 az) :: y11 :: (.pointer (some ⟨xb, 0, none⟩)) :: u13 :: u14 :: u15 :: u16 :: u17 :: u18 :: u19 :: u20 :: y21 :: y22 :: y23 :: y24 :: y25 :: y26 :: y27 :: y28 :: y29 :: y30 :: y31 :: y32 :: y33 :: y34 :: y35 :: y36 :: y37 :: y38 :: y39 :: y40 :: y41 :: y42 :: y43 :: y44 :: y45 :: y46 :: y47 :: y48 :: y49 :: y50 :: y51 :: y52 :: y53 :: y54 :: y55 :: y56 :: y57 :: y58 :: y59 :: y60 :: y61 :: y62 :: y63 :: y64 :: y65 :: y66 :: y67 :: y68 :: y69 :: y70 :: y71 :: y72 :: y73 :: y74 :: y75 :: y76 :: y77 :: y78 :: y79 :: y80 :: y81 :: y82 :: y83 :: (.int .i64 3) :: u85 :: u86 :: u87 :: u88 :: u89 :: u90 :: u91 :: u92 :: u93 :: u94 :: u95 :: u96 :: u97 :: u98 :: u99 :: u100 :: u101 :: u102 :: u103 :: u104 :: u105 :: u106 :: u107 :: u108 :: u109 :: u110 :: u111 :: u112 :: u113 :: u114 :: u115 :: u116 :: u117 :: u118 :: u119 :: u120 :: u121 :: u122 :: u123 :: u124 :: u125 :: u126 :: u127 :: u128 :: u129 :: u130 :: u131 :: u132 :: u133 :: u134 :: u135 :: u136 :: u137 :: u138 :: u139 :: u140 :: u141 :: u142 :: u143 :: u144 :: u145 :: u146 :: u147 :: u148 :: u149 :: u150 :: u151 :: u152 :: u153 :: u154 :: u155 :: u156 :: u157 :: u158 :: u159 :: u160 :: u161 :: u162 :: u163 :: u164 :: u165 :: u166 :: u167 :: u168 :: u169 :: u170 :: u171 :: u172 :: u173 :: u174 :: u175 :: u176 :: u177 :: u178 :: u179 :: u180 :: u181 :: u182 :: u183 :: u184 :: u185 :: u186 :: u187 :: u188 :: u189 :: u190 :: u191 :: u192 :: u193 :: u194 :: u195 :: u196 :: u197 :: y198 :: y199 :: y200 :: y201 :: y202 :: y203 :: y204 :: y205 :: y206 :: y207 :: y208 :: y209 :: y210 :: y211 :: y212 :: y213 :: y214 :: y215 :: y216 :: y217 :: y218 :: y219 :: y220 :: y221 :: y222 :: []), []⟩ wc) :
    Code.wp Tryz.prog sesSw (Exit.then R (fun _ _ _ => False)) ⟨List.toArray (y0 :: y1 :: y2 :: (.pointer (some ⟨bs, 0, none⟩)) :: (.pointer (some ⟨cs, 0, none⟩)) :: (.pointer (some ⟨b5, 0, none⟩)) :: (.pointer (some ⟨b6, 0, none⟩)) :: y7 :: y8 :: y9 :: (.int .i64 az) :: y11 :: (.pointer (some ⟨xb, 0, none⟩)) :: y13 :: y14 :: y15 :: y16 :: y17 :: y18 :: y19 :: y20 :: y21 :: y22 :: y23 :: y24 :: y25 :: y26 :: y27 :: y28 :: y29 :: y30 :: y31 :: y32 :: y33 :: y34 :: y35 :: y36 :: y37 :: y38 :: y39 :: y40 :: y41 :: y42 :: y43 :: y44 :: y45 :: y46 :: y47 :: y48 :: y49 :: y50 :: y51 :: y52 :: y53 :: y54 :: y55 :: y56 :: y57 :: y58 :: y59 :: y60 :: y61 :: y62 :: y63 :: y64 :: y65 :: y66 :: y67 :: y68 :: y69 :: y70 :: y71 :: y72 :: y73 :: y74 :: y75 :: y76 :: y77 :: y78 :: y79 :: y80 :: y81 :: y82 :: y83 :: (.int .i64 3) :: y85 :: y86 :: y87 :: y88 :: y89 :: y90 :: y91 :: y92 :: y93 :: y94 :: y95 :: y96 :: y97 :: y98 :: y99 :: y100 :: y101 :: y102 :: y103 :: y104 :: y105 :: y106 :: y107 :: y108 :: y109 :: y110 :: y111 :: y112 :: y113 :: y114 :: y115 :: y116 :: y117 :: y118 :: y119 :: y120 :: y121 :: y122 :: y123 :: y124 :: y125 :: y126 :: y127 :: y128 :: y129 :: y130 :: y131 :: y132 :: y133 :: y134 :: y135 :: y136 :: y137 :: y138 :: y139 :: y140 :: y141 :: y142 :: y143 :: y144 :: y145 :: y146 :: y147 :: y148 :: y149 :: y150 :: y151 :: y152 :: y153 :: y154 :: y155 :: y156 :: y157 :: y158 :: y159 :: y160 :: y161 :: y162 :: y163 :: y164 :: y165 :: y166 :: y167 :: y168 :: y169 :: y170 :: y171 :: y172 :: y173 :: y174 :: y175 :: y176 :: y177 :: y178 :: y179 :: y180 :: y181 :: y182 :: y183 :: y184 :: y185 :: y186 :: y187 :: y188 :: y189 :: y190 :: y191 :: y192 :: y193 :: y194 :: y195 :: y196 :: y197 :: y198 :: y199 :: y200 :: y201 :: y202 :: y203 :: y204 :: y205 :: y206 :: y207 :: y208 :: y209 :: y210 :: y211 :: y212 :: y213 :: y214 :: y215 :: y216 :: y217 :: y218 :: y219 :: y220 :: y221 :: y222 :: []), []⟩ w2 := by
  have HR : Hid _ := hR
  clear hR
  have BR : Hid (∀ (n : Int) (w : World), w.cell? ⟨0, 0, none⟩ = some (.iface 186 (.agg #[.pointer (some ⟨1, 25, none⟩)])) → Calls Tryz.prog 6 #[errV n, .int .i64 n] w fun e w' => e = .returned (.bool true) ∧ Below w.heap.size w w') := fun n w h => sameErr_errV' n w h
  have : True := by have := HI; have := h0; have := h2; have := HWk; have := HKW; have := HG; have := BR; trivial
  clear this
  conv => arg 2; whnf
  have hi : az.toNat < 2 := by omega
  obtain ⟨⟨m0, m1, m2, m3, m4, m5, m6, m7, mws⟩, hct⟩ : ∃ t, scomT (S az.toNat) s now = t := ⟨_, rfl⟩
  obtain ⟨ce, hce⟩ : ∃ ce, scomE (S az.toNat) s now = ce := ⟨_, rfl⟩
  obtain ⟨s', hs'⟩ : ∃ s', scomSes (S az.toNat) s now = s' := ⟨_, rfl⟩
  obtain ⟨S', hS'⟩ : ∃ S', scomS (S az.toNat) s now = S' := ⟨_, rfl⟩
  have HI1 : Hid (SInv (k + 1) (setS S az.toNat S') s') := by
    show SInv _ _ _
    rw [← hs', ← hS']
    exact ((HI.out.1.mono (Nat.le_succ k)).site ((HI.out.1.i0 _ hi).scom) (by rw [scom_waits]; have := HI.out.1.wt _ hi; omega)).ses (scom_p0 HI.out.1.p0) (by have := scom_ws (S := S az.toNat) (s := s) (now := now); have := HI.out.1.ln; omega)
  have CR : Hid (∀ (w' : World) (X : Nat → Prop), Six w' bp br bs cs S S s s X 6 NoY → Calls Tryz.prog 38 #[.pointer (some ⟨cs, 0, none⟩), .pointer (some ⟨br az.toNat, 0, none⟩), .int .i64 now] w' fun e w'' => ∃ (ma : Option Addr) (mc : Nat), e = .returned (.tuple #[.agg #[.int .i64 m0, .int .i64 m1, .int .i64 m2, .int .i64 m3, .int .i64 m4, .int .i64 m5, .int .i64 m6, .int .i64 m7, .slice ma mws.length mc], .int .i64 ce]) ∧ Hid (WrIn w'' ma mc mws ∧ ∀ k, (⟨⟨m0, m1, m2, m3, m4, m5, m6, m7, mws⟩, ma, mc⟩ : TxM).blk k → w'.heap.size ≤ k) ∧ Six w'' bp br bs cs S (setS S az.toNat S') s s' X (2 + az.toNat) (⟨⟨m0, m1, m2, m3, m4, m5, m6, m7, mws⟩, ma, mc⟩ : TxM).blk ∧ Keeps X w' w'') := fun w' X h => by
    refine (six_rcommit now hi h (HI.out.1.i0 _ hi) HI.out.1.p0).mono ?_
    rintro e w'' ⟨⟨mt, ma, mc⟩, rfl, hmt, hh, hnw⟩
    rw [hct] at hmt
    simp only at hmt
    subst hmt
    have hq := hh.out
    rw [hs', hS'] at hq
    rw [hce]
    exact ⟨ma, mc, rfl, ⟨hq.1, hnw⟩, hq.2.1, hq.2.2⟩
  have CP : Hid (∀ (w' : World) (X Y : Nat → Prop), Six w' bp br bs cs S (setS S az.toNat S') s s' X (2 + az.toNat) Y → Calls Tryz.prog 39 #[.pointer (some ⟨bs, 0, none⟩), .pointer (some ⟨bp az.toNat, 0, none⟩), .int .i64 now] w' fun e w'' => ∃ (pa : Option Addr) (pc : Nat), e = .returned (.tuple #[.agg #[.int .i64 m0, .int .i64 m1, .int .i64 m2, .int .i64 m3, .int .i64 m4, .int .i64 m5, .int .i64 m6, .int .i64 m7, .slice pa mws.length pc], errV ce]) ∧ Hid (WrIn w'' pa pc mws ∧ ∀ k, (⟨⟨m0, m1, m2, m3, m4, m5, m6, m7, mws⟩, pa, pc⟩ : TxM).blk k → w'.heap.size ≤ k) ∧ Six w'' bp br bs cs (setS S az.toNat S') (setS S az.toNat S') s' s' X 6 NoY ∧ Keeps (fun k => X k ∨ Y k) w' w'') := fun w' X Y h => by
    refine (six_commit now hi (by omega) (by omega) h (HI.out.1.i0 _ hi)).mono ?_
    rintro e w'' ⟨⟨mt, pa, pc⟩, rfl, hmt, hh, hnw⟩
    rw [hct] at hmt
    simp only at hmt
    subst hmt
    have hq := hh.out
    rw [hs', hS'] at hq
    rw [hce]
    exact ⟨pa, pc, rfl, ⟨hq.1, hnw⟩, hq.2.1, hq.2.2⟩
  clear hct hce hs' hS'
  go_upto_region 37 with fail
  refine wp_next (sesR37_any w w2 T2 H2 hb2 h0 h2 CR _ ?_)
  intro u144 u145 u146 u147 u148 u149 u150 u151 u152 u153 mb ma mc w3 RM3 HW3 T3 H3 hb3 _
  clear CR
  go_step
  go_step
  go_upto_region 38 with fail
  refine wp_next (sesR38_any w w3 RM3 HW3 T3 H3 hb3 h0 h2 CP _ ?_)
  intro u154 u155 u156 u157 u158 u159 u160 u161 u162 u163 pb pa pc WE RPE RME HWE TF HE hbE
  clear CP RM3 HW3 T3 H3 hb3
  go_step
  go_step
  have BB := BR.out ce _ (cell_later hbE HG.out)
  go_wp2_with fail
  refine BB.mono ?_
  rintro e w7 ⟨rfl, hb7⟩
  have RP7 := RPE.later hb7
  have RM7 := RME.later hb7
  have p0 := RP7.cell 0 _ rfl
  have p1 := RP7.cell 1 _ rfl
  have p2 := RP7.cell 2 _ rfl
  have p3 := RP7.cell 3 _ rfl
  have p4 := RP7.cell 4 _ rfl
  have p5 := RP7.cell 5 _ rfl
  have p6 := RP7.cell 6 _ rfl
  have p7 := RP7.cell 7 _ rfl
  have p8 := RP7.cell 8 _ rfl
  have q0 := RM7.cell 0 _ rfl
  have q1 := RM7.cell 1 _ rfl
  have q2 := RM7.cell 2 _ rfl
  have q3 := RM7.cell 3 _ rfl
  have q4 := RM7.cell 4 _ rfl
  have q5 := RM7.cell 5 _ rfl
  have q6 := RM7.cell 6 _ rfl
  have q7 := RM7.cell 7 _ rfl
  have q8 := RM7.cell 8 _ rfl
  have SM := same_any m0 m1 m2 m3 m4 m5 m6 m7 pa ma pc mc mws w7 (HWE.out.1.later hb7) (HWE.out.2.later hb7)
  have T7 := TF.later hb7
  have H7 := HE.later hb7
  have hb8 := behind hbE hb7
  clear BB RPE RME TF HE hbE HWE hb7
  go_wp2_with fail
  refine SM.mono ?_
  rintro e w9 ⟨rfl, hb9⟩
  have MID : SesMid bp br bs cs b5 b6 xb k w w9 := ⟨_, _, T7.later hb9, (H7.later hb9).r5, (H7.later hb9).r6, HI1, behind hb8 hb9⟩
  clear p0 p1 p2 p3 p4 p5 p6 p7 p8 q0 q1 q2 q3 q4 q5 q6 q7 q8 RP7 RM7 T7 H7 hb8 SM
  go_wp2_with fail
  exact HR.out _ _ _ _ _ _ _ _ _ _ _ _ _ _ _ _ _ _ _ _ _ _ _ _ _ _ _ _ _ _ _ _ _ _ _ _ _ _ _ _ _ _ _ _ _ _ _ _ _ _ _ _ _ _ _ _ _ _ _ _ _ _ _ _ _ _ _ _ _ _ _ _ _ _ _ _ _ _ _ _ _ _ _ _ _ _ _ _ _ _ _ _ _ _ _ _ _ _ _ _ _ _ _ _ _ _ _ _ _ _ _ _ _ _ _ _ _ _ _ _ _ _ MID

end Go.Proofs.YtpncedpfoakfkaaGreatDoor

namespace Go.Proofs.YtpncedpfoakfkaaGreatDoor
open Go.RowKit

set_option maxRecDepth 1000000 in
theorem sesSw_any {bp br : Nat → Nat} {bs cs b5 b6 xb k : Nat} {S : Nat → SiteS} {s : SesS} {az tsi key now xk site seq wall count d0 d1 d2 d3 what : Int} {xd : ByteArray} {xg : Bool} {ws : List Wr} {ta : Option Addr} {tcap : Nat} {y0 y1 y2 y7 y8 y9 y11 y13 y14 y15 y16 y17 y18 y19 y20 y21 y22 y23 y24 y25 y26 y27 y28 y29 y30 y31 y32 y33 y34 y35 y36 y37 y38 y39 y40 y41 y42 y43 y44 y45 y46 y47 y48 y49 y50 y51 y52 y53 y54 y55 y56 y57 y58 y59 y60 y61 y62 y63 y64 y65 y66 y67 y68 y69 y70 y71 y72 y73 y74 y75 y76 y77 y78 y79 y80 y81 y82 y83 y85 y86 y87 y88 y89 y90 y91 y92 y93 y94 y95 y96 y97 y98 y99 y100 y101 y102 y103 y104 y105 y106 y107 y108 y109 y110 y111 y112 y113 y114 y115 y116 y117 y118 y119 y120 y121 y122 y123 y124 y125 y126 y127 y128 y129 y130 y131 y132 y133 y134 y135 y136 y137 y138 y139 y140 y141 y142 y143 y144 y145 y146 y147 y148 y149 y150 y151 y152 y153 y154 y155 y156 y157 y158 y159 y160 y161 y162 y163 y164 y165 y166 y167 y168 y169 y170 y171 y172 y173 y174 y175 y176 y177 y178 y179 y180 y181 y182 y183 y184 y185 y186 y187 y188 y189 y190 y191 y192 y193 y194 y195 y196 y197 y198 y199 y200 y201 y202 y203 y204 y205 y206 y207 y208 y209 y210 y211 y212 y213 y214 y215 y216 y217 y218 y219 y220 y221 y222 : Value} (w w2 : World) (T2 : Six w2 bp br bs cs S S s s (SX w.heap.size b5 b6 xb) 6 NoY) (H2 : SH b5 b6 xb bp br [.int .i64 what, .int .i64 tsi, .int .i64 key, .int .i64 now, .int .i64 xk, .string xd, .bool xg, .int .i64 site, .int .i64 seq, .int .i64 wall, .int .i64 count, .int .i64 d0, .int .i64 d1, .int .i64 d2, .int .i64 d3, .slice ta ws.length tcap] w2) (hb2 : Below w.heap.size w w2) (HI : Hid (SInv k S s ∧ k ≤ 80)) (h0 : 0 ≤ az) (h2 : az < 2)
    (HWk : Hid (WrIn w ta tcap ws)) (HKW : Hid ((Lit.int .i64 key).wf = true)) (HG : Hid (w.cell? ⟨0, 0, none⟩ = some (.iface 186 (.agg #[.pointer (some ⟨1, 25, none⟩)])))) (R : Act → World → Prop)
    (hR : ∀ (u13 u14 u15 u16 u17 u18 u19 u20 u85 u86 u87 u88 u89 u90 u91 u92 u93 u94 u95 u96 u97 u98 u99 u100 u101 u102 u103 u104 u105 u106 u107 u108 u109 u110 u111 u112 u113 u114 u115 u116 u117 u118 u119 u120 u121 u122 u123 u124 u125 u126 u127 u128 u129 u130 u131 u132 u133 u134 u135 u136 u137 u138 u139 u140 u141 u142 u143 u144 u145 u146 u147 u148 u149 u150 u151 u152 u153 u154 u155 u156 u157 u158 u159 u160 u161 u162 u163 u164 u165 u166 u167 u168 u169 u170 u171 u172 u173 u174 u175 u176 u177 u178 u179 u180 u181 u182 u183 u184 u185 u186 u187 u188 u189 u190 u191 u192 u193 u194 u195 u196 u197 : Value) (wc : World), SesMid bp br bs cs b5 b6 xb k w wc → R ⟨List.toArray (y0 :: y1 :: y2 :: (.pointer (some ⟨bs, 0, none⟩)) :: (.pointer (some ⟨cs, 0, none⟩)) :: (.pointer (some ⟨b5, 0, none⟩)) :: (.pointer (some ⟨b6, 0, none⟩)) :: y7 :: y8 :: y9 :: (.int .i64 az) :: y11 :: (.pointer (some ⟨xb, 0, none⟩)) :: u13 :: u14 :: u15 :: u16 :: u17 :: u18 :: u19 :: u20 :: y21 :: y22 :: y23 :: y24 :: y25 :: y26 :: y27 :: y28 :: y29 :: y30 :: y31 :: y32 :: y33 :: y34 :: y35 :: y36 :: y37 :: y38 :: y39 :: y40 :: y41 :: y42 :: y43 :: y44 :: y45 :: y46 :: y47 :: y48 :: y49 :: y50 :: y51 :: y52 :: y53 :: y54 :: y55 :: y56 :: y57 :: y58 :: y59 :: y60 :: y61 :: y62 :: y63 :: y64 :: y65 :: y66 :: y67 :: y68 :: y69 :: y70 :: y71 :: y72 :: y73 :: y74 :: y75 :: y76 :: y77 :: y78 :: y79 :: y80 :: y81 :: y82 :: y83 :: (.int .i64 what) :: u85 :: u86 :: u87 :: u88 :: u89 :: u90 :: u91 :: u92 :: u93 :: u94 :: u95 :: u96 :: u97 :: u98 :: u99 :: u100 :: u101 :: u102 :: u103 :: u104 :: u105 :: u106 :: u107 :: u108 :: u109 :: u110 :: u111 :: u112 :: u113 :: u114 :: u115 :: u116 :: u117 :: u118 :: u119 :: u120 :: u121 :: u122 :: u123 :: u124 :: u125 :: u126 :: u127 :: u128 :: u129 :: u130 :: u131 :: u132 :: u133 :: u134 :: u135 :: u136 :: u137 :: u138 :: u139 :: u140 :: u141 :: u142 :: u143 :: u144 :: u145 :: u146 :: u147 :: u148 :: u149 :: u150 :: u151 :: u152 :: u153 :: u154 :: u155 :: u156 :: u157 :: u158 :: u159 :: u160 :: u161 :: u162 :: u163 :: u164 :: u165 :: u166 :: u167 :: u168 :: u169 :: u170 :: u171 :: u172 :: u173 :: u174 :: u175 :: u176 :: u177 :: u178 :: u179 :: u180 :: u181 :: u182 :: u183 :: u184 :: u185 :: u186 :: u187 :: u188 :: u189 :: u190 :: u191 :: u192 :: u193 :: u194 :: u195 :: u196 :: u197 :: y198 :: y199 :: y200 :: y201 :: y202 :: y203 :: y204 :: y205 :: y206 :: y207 :: y208 :: y209 :: y210 :: y211 :: y212 :: y213 :: y214 :: y215 :: y216 :: y217 :: y218 :: y219 :: y220 :: y221 :: y222 :: []), []⟩ wc) :
    Code.wp Tryz.prog sesSw (Exit.then R (fun _ _ _ => False)) ⟨List.toArray (y0 :: y1 :: y2 :: (.pointer (some ⟨bs, 0, none⟩)) :: (.pointer (some ⟨cs, 0, none⟩)) :: (.pointer (some ⟨b5, 0, none⟩)) :: (.pointer (some ⟨b6, 0, none⟩)) :: y7 :: y8 :: y9 :: (.int .i64 az) :: y11 :: (.pointer (some ⟨xb, 0, none⟩)) :: y13 :: y14 :: y15 :: y16 :: y17 :: y18 :: y19 :: y20 :: y21 :: y22 :: y23 :: y24 :: y25 :: y26 :: y27 :: y28 :: y29 :: y30 :: y31 :: y32 :: y33 :: y34 :: y35 :: y36 :: y37 :: y38 :: y39 :: y40 :: y41 :: y42 :: y43 :: y44 :: y45 :: y46 :: y47 :: y48 :: y49 :: y50 :: y51 :: y52 :: y53 :: y54 :: y55 :: y56 :: y57 :: y58 :: y59 :: y60 :: y61 :: y62 :: y63 :: y64 :: y65 :: y66 :: y67 :: y68 :: y69 :: y70 :: y71 :: y72 :: y73 :: y74 :: y75 :: y76 :: y77 :: y78 :: y79 :: y80 :: y81 :: y82 :: y83 :: (.int .i64 what) :: y85 :: y86 :: y87 :: y88 :: y89 :: y90 :: y91 :: y92 :: y93 :: y94 :: y95 :: y96 :: y97 :: y98 :: y99 :: y100 :: y101 :: y102 :: y103 :: y104 :: y105 :: y106 :: y107 :: y108 :: y109 :: y110 :: y111 :: y112 :: y113 :: y114 :: y115 :: y116 :: y117 :: y118 :: y119 :: y120 :: y121 :: y122 :: y123 :: y124 :: y125 :: y126 :: y127 :: y128 :: y129 :: y130 :: y131 :: y132 :: y133 :: y134 :: y135 :: y136 :: y137 :: y138 :: y139 :: y140 :: y141 :: y142 :: y143 :: y144 :: y145 :: y146 :: y147 :: y148 :: y149 :: y150 :: y151 :: y152 :: y153 :: y154 :: y155 :: y156 :: y157 :: y158 :: y159 :: y160 :: y161 :: y162 :: y163 :: y164 :: y165 :: y166 :: y167 :: y168 :: y169 :: y170 :: y171 :: y172 :: y173 :: y174 :: y175 :: y176 :: y177 :: y178 :: y179 :: y180 :: y181 :: y182 :: y183 :: y184 :: y185 :: y186 :: y187 :: y188 :: y189 :: y190 :: y191 :: y192 :: y193 :: y194 :: y195 :: y196 :: y197 :: y198 :: y199 :: y200 :: y201 :: y202 :: y203 :: y204 :: y205 :: y206 :: y207 :: y208 :: y209 :: y210 :: y211 :: y212 :: y213 :: y214 :: y215 :: y216 :: y217 :: y218 :: y219 :: y220 :: y221 :: y222 :: []), []⟩ w2 := by
  by_cases hw0 : what = 0
  · subst hw0
    exact sesSw_0 w w2 T2 H2 hb2 HI h0 h2 HWk HKW HG R hR
  by_cases hw1 : what = 1
  · subst hw1
    exact sesSw_1 w w2 T2 H2 hb2 HI h0 h2 HWk HKW HG R hR
  by_cases hw2 : what = 2
  · subst hw2
    exact sesSw_2 w w2 T2 H2 hb2 HI h0 h2 HWk HKW HG R hR
  by_cases hw3 : what = 3
  · subst hw3
    exact sesSw_3 w w2 T2 H2 hb2 HI h0 h2 HWk HKW HG R hR
  by_cases hw4 : what = 4
  · subst hw4
    exact sesSw_4 w w2 T2 H2 hb2 HI h0 h2 HWk HKW HG R hR
  by_cases hw5 : what = 5
  · subst hw5
    exact sesSw_5 w w2 T2 H2 hb2 HI h0 h2 HWk HKW HG R hR
  exact sesSw_x w w2 T2 H2 hb2 HI h0 h2 HWk HKW HG hw0 hw1 hw2 hw3 hw4 hw5 R hR

end Go.Proofs.YtpncedpfoakfkaaGreatDoor
