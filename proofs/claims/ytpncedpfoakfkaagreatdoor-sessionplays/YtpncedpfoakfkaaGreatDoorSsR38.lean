/-
  A Commit of the program's session, in a round of 'copselaw.SessionPlays', as the model runs it, whatever the rest of the frame is.
-/
import Derived.Test.YtpncedpfoakfkaaGreatDoorSiteJ
namespace Go.Proofs.YtpncedpfoakfkaaGreatDoor
open Go.RowKit

noncomputable def sesR38 : Code := ((Tryz.f4.body.bind (findRegion 38)).getD .skip)
set_option maxRecDepth 1000000 in
set_option maxHeartbeats 16000000 in
theorem sesR38_any {bp br : Nat → Nat} {bs cs b5 b6 xb : Nat} {S : Nat → SiteS} {S' : SiteS} {s s' : SesS} {az tsi key now xk site seq wall count d0 d1 d2 d3 m0 m1 m2 m3 m4 m5 m6 m7 ce : Int} {xd : ByteArray} {xg : Bool} {ws mws : List Wr} {ta : Option Addr} {tcap : Nat} {mb : Nat} {ma : Option Addr} {mc : Nat} {y0 y1 y2 y4 y6 y7 y8 y9 y11 y13 y14 y15 y16 y17 y18 y19 y20 y21 y22 y23 y24 y25 y26 y27 y28 y29 y30 y31 y32 y33 y34 y35 y36 y37 y38 y39 y40 y41 y42 y43 y44 y45 y46 y47 y48 y49 y50 y51 y52 y53 y54 y55 y56 y57 y58 y59 y60 y61 y62 y63 y64 y65 y66 y67 y68 y69 y70 y71 y72 y73 y74 y75 y76 y77 y78 y79 y80 y81 y82 y83 y84 y85 y86 y87 y88 y89 y90 y91 y92 y93 y94 y95 y96 y97 y98 y99 y100 y101 y102 y103 y104 y105 y106 y107 y108 y109 y110 y111 y112 y113 y114 y115 y116 y117 y118 y119 y120 y121 y122 y123 y124 y125 y126 y127 y128 y129 y130 y131 y132 y133 y134 y135 y136 y137 y138 y139 y140 y141 y142 y143 y144 y145 y146 y147 y148 y149 y150 y151 y152 y153 y154 y155 y156 y157 y158 y159 y160 y161 y162 y163 y164 y165 y166 y167 y168 y169 y170 y171 y172 y173 y174 y175 y176 y177 y178 y179 y180 y181 y182 y183 y184 y185 y186 y187 y188 y189 y190 y191 y192 y193 y194 y195 y196 y197 y198 y199 y200 y201 y202 y203 y204 y205 y206 y207 y208 y209 y210 y211 y212 y213 y214 y215 y216 y217 y218 y219 y220 y221 y222 : Value} (w w2 : World) (RMC : RowL w2 mb [.int .i64 m0, .int .i64 m1, .int .i64 m2, .int .i64 m3, .int .i64 m4, .int .i64 m5, .int .i64 m6, .int .i64 m7, .slice ma mws.length mc]) (HWC : Hid (WrIn w2 ma mc mws)) (T2 : Six w2 bp br bs cs S (setS S az.toNat S') s s' (fun k => (SX w.heap.size b5 b6 xb) k ∨ k = mb) (2 + az.toNat) (⟨⟨m0, m1, m2, m3, m4, m5, m6, m7, mws⟩, ma, mc⟩ : TxM).blk) (H2 : SH b5 b6 xb bp br [.int .i64 3, .int .i64 tsi, .int .i64 key, .int .i64 now, .int .i64 xk, .string xd, .bool xg, .int .i64 site, .int .i64 seq, .int .i64 wall, .int .i64 count, .int .i64 d0, .int .i64 d1, .int .i64 d2, .int .i64 d3, .slice ta ws.length tcap] w2) (hb2 : Below w.heap.size w w2) (h0 : 0 ≤ az) (h2 : az < 2) (CP : Hid (∀ (w' : World) (X Y : Nat → Prop), Six w' bp br bs cs S (setS S az.toNat S') s s' X (2 + az.toNat) Y → Calls Tryz.prog 39 #[.pointer (some ⟨bs, 0, none⟩), .pointer (some ⟨bp az.toNat, 0, none⟩), .int .i64 now] w' fun e w'' => ∃ (pa : Option Addr) (pc : Nat), e = .returned (.tuple #[.agg #[.int .i64 m0, .int .i64 m1, .int .i64 m2, .int .i64 m3, .int .i64 m4, .int .i64 m5, .int .i64 m6, .int .i64 m7, .slice pa mws.length pc], errV ce]) ∧ Hid (WrIn w'' pa pc mws ∧ ∀ k, (⟨⟨m0, m1, m2, m3, m4, m5, m6, m7, mws⟩, pa, pc⟩ : TxM).blk k → w'.heap.size ≤ k) ∧ Six w'' bp br bs cs (setS S az.toNat S') (setS S az.toNat S') s' s' X 6 NoY ∧ Keeps (fun k => X k ∨ Y k) w' w'')) (R : Act → World → Prop)
    (hR : ∀ (u154 u155 u156 u157 u158 u159 u160 u161 u162 u163 : Value) (pb : Nat) (pa : Option Addr) (pc : Nat) (wc : World), RowL wc pb [.int .i64 m0, .int .i64 m1, .int .i64 m2, .int .i64 m3, .int .i64 m4, .int .i64 m5, .int .i64 m6, .int .i64 m7, .slice pa mws.length pc] → RowL wc mb [.int .i64 m0, .int .i64 m1, .int .i64 m2, .int .i64 m3, .int .i64 m4, .int .i64 m5, .int .i64 m6, .int .i64 m7, .slice ma mws.length mc] → Hid (WrIn wc pa pc mws ∧ WrIn wc ma mc mws) → Six wc bp br bs cs (setS S az.toNat S') (setS S az.toNat S') s' s' (SX w.heap.size b5 b6 xb) 6 NoY → SH b5 b6 xb bp br [.int .i64 3, .int .i64 tsi, .int .i64 key, .int .i64 now, .int .i64 xk, .string xd, .bool xg, .int .i64 site, .int .i64 seq, .int .i64 wall, .int .i64 count, .int .i64 d0, .int .i64 d1, .int .i64 d2, .int .i64 d3, .slice ta ws.length tcap] wc → Below w.heap.size w wc → R ⟨List.toArray (y0 :: y1 :: y2 :: (.pointer (some ⟨bs, 0, none⟩)) :: y4 :: (.pointer (some ⟨b5, 0, none⟩)) :: y6 :: y7 :: y8 :: y9 :: (.int .i64 az) :: y11 :: (.pointer (some ⟨xb, 0, none⟩)) :: y13 :: y14 :: y15 :: y16 :: y17 :: y18 :: (.pointer (some ⟨pb, 0, none⟩)) :: (errV ce) :: y21 :: y22 :: y23 :: y24 :: y25 :: y26 :: y27 :: y28 :: y29 :: y30 :: y31 :: y32 :: y33 :: y34 :: y35 :: y36 :: y37 :: y38 :: y39 :: y40 :: y41 :: y42 :: y43 :: y44 :: y45 :: y46 :: y47 :: y48 :: y49 :: y50 :: y51 :: y52 :: y53 :: y54 :: y55 :: y56 :: y57 :: y58 :: y59 :: y60 :: y61 :: y62 :: y63 :: y64 :: y65 :: y66 :: y67 :: y68 :: y69 :: y70 :: y71 :: y72 :: y73 :: y74 :: y75 :: y76 :: y77 :: y78 :: y79 :: y80 :: y81 :: y82 :: y83 :: y84 :: y85 :: y86 :: y87 :: y88 :: y89 :: y90 :: y91 :: y92 :: y93 :: y94 :: y95 :: y96 :: y97 :: y98 :: y99 :: y100 :: y101 :: y102 :: y103 :: y104 :: y105 :: y106 :: y107 :: y108 :: y109 :: y110 :: y111 :: y112 :: y113 :: y114 :: y115 :: y116 :: y117 :: y118 :: y119 :: y120 :: y121 :: y122 :: y123 :: y124 :: y125 :: y126 :: y127 :: y128 :: y129 :: y130 :: y131 :: y132 :: y133 :: y134 :: y135 :: y136 :: y137 :: y138 :: y139 :: y140 :: y141 :: y142 :: y143 :: y144 :: y145 :: y146 :: y147 :: y148 :: y149 :: y150 :: y151 :: y152 :: y153 :: u154 :: u155 :: u156 :: u157 :: u158 :: u159 :: u160 :: u161 :: u162 :: u163 :: y164 :: y165 :: y166 :: y167 :: y168 :: y169 :: y170 :: y171 :: y172 :: y173 :: y174 :: y175 :: y176 :: y177 :: y178 :: y179 :: y180 :: y181 :: y182 :: y183 :: y184 :: y185 :: y186 :: y187 :: y188 :: y189 :: y190 :: y191 :: y192 :: y193 :: y194 :: y195 :: y196 :: y197 :: y198 :: y199 :: y200 :: y201 :: y202 :: y203 :: y204 :: y205 :: y206 :: y207 :: y208 :: y209 :: y210 :: y211 :: y212 :: y213 :: y214 :: y215 :: y216 :: y217 :: y218 :: y219 :: y220 :: y221 :: y222 :: []), []⟩ wc) :
    Code.wp Tryz.prog sesR38 (Exit.then R (fun _ _ _ => False)) ⟨List.toArray (y0 :: y1 :: y2 :: (.pointer (some ⟨bs, 0, none⟩)) :: y4 :: (.pointer (some ⟨b5, 0, none⟩)) :: y6 :: y7 :: y8 :: y9 :: (.int .i64 az) :: y11 :: (.pointer (some ⟨xb, 0, none⟩)) :: y13 :: y14 :: y15 :: y16 :: y17 :: y18 :: y19 :: y20 :: y21 :: y22 :: y23 :: y24 :: y25 :: y26 :: y27 :: y28 :: y29 :: y30 :: y31 :: y32 :: y33 :: y34 :: y35 :: y36 :: y37 :: y38 :: y39 :: y40 :: y41 :: y42 :: y43 :: y44 :: y45 :: y46 :: y47 :: y48 :: y49 :: y50 :: y51 :: y52 :: y53 :: y54 :: y55 :: y56 :: y57 :: y58 :: y59 :: y60 :: y61 :: y62 :: y63 :: y64 :: y65 :: y66 :: y67 :: y68 :: y69 :: y70 :: y71 :: y72 :: y73 :: y74 :: y75 :: y76 :: y77 :: y78 :: y79 :: y80 :: y81 :: y82 :: y83 :: y84 :: y85 :: y86 :: y87 :: y88 :: y89 :: y90 :: y91 :: y92 :: y93 :: y94 :: y95 :: y96 :: y97 :: y98 :: y99 :: y100 :: y101 :: y102 :: y103 :: y104 :: y105 :: y106 :: y107 :: y108 :: y109 :: y110 :: y111 :: y112 :: y113 :: y114 :: y115 :: y116 :: y117 :: y118 :: y119 :: y120 :: y121 :: y122 :: y123 :: y124 :: y125 :: y126 :: y127 :: y128 :: y129 :: y130 :: y131 :: y132 :: y133 :: y134 :: y135 :: y136 :: y137 :: y138 :: y139 :: y140 :: y141 :: y142 :: y143 :: y144 :: y145 :: y146 :: y147 :: y148 :: y149 :: y150 :: y151 :: y152 :: y153 :: y154 :: y155 :: y156 :: y157 :: y158 :: y159 :: y160 :: y161 :: y162 :: y163 :: y164 :: y165 :: y166 :: y167 :: y168 :: y169 :: y170 :: y171 :: y172 :: y173 :: y174 :: y175 :: y176 :: y177 :: y178 :: y179 :: y180 :: y181 :: y182 :: y183 :: y184 :: y185 :: y186 :: y187 :: y188 :: y189 :: y190 :: y191 :: y192 :: y193 :: y194 :: y195 :: y196 :: y197 :: y198 :: y199 :: y200 :: y201 :: y202 :: y203 :: y204 :: y205 :: y206 :: y207 :: y208 :: y209 :: y210 :: y211 :: y212 :: y213 :: y214 :: y215 :: y216 :: y217 :: y218 :: y219 :: y220 :: y221 :: y222 :: []), []⟩ w2 := by
  have HR : Hid _ := hR
  clear hR
  have D0 := T2.later ((Below.refl _ w2).drew)
  have D0' := D0.new (.cells #[.int .i64 0, .int .i64 0, .int .i64 0, .int .i64 0, .int .i64 0, .int .i64 0, .int .i64 0, .int .i64 0, .slice none 0 0] 44)
  have k5 := H2.r5.cell _ _ (ptrs_at h0 h2 bp)
  have kx := H2.x.cell 3 _ rfl
  have hl6 := H2.r6.lt
  have hlx := H2.x.lt
  have hl5 := H2.r5.lt
  have hlm := RMC.lt
  conv => arg 2; whnf
  go_region_law (first
    | (refine step_call rfl 39 #[.pointer (some ⟨bs, 0, none⟩), .pointer (some ⟨bp az.toNat, 0, none⟩), .int .i64 now] (by go_simp) (CP.out w2.drew _ _ D0) ?_
       rintro e w5 ⟨pa, pc, rfl, HW5, T5, K5⟩
       refine ⟨_, rfl, ?_⟩
       have H5 := (H2.later ((Below.refl _ w2).drew)).keeps K5 (fun j h => .inl (.inl (.inr h)))
       have RM5 := (RMC.drew).keeps K5 (.inl (.inr rfl))
       have WM5 := WrIn.kept (m := ⟨⟨m0, m1, m2, m3, m4, m5, m6, m7, mws⟩, ma, mc⟩) HWC.out (fun k hk => K5.block k (.inr hk))
       have hb5 := (hb2.drew).trans (K5.below (fun k hk => .inl (.inl (.inl hk)))))
    | (refine step_call rfl 39 #[.pointer (some ⟨bs, 0, none⟩), .pointer (some ⟨bp az.toNat, 0, none⟩), .int .i64 now] (by go_simp) (CP.out (w2.drew.alloc (.cells #[.int .i64 0, .int .i64 0, .int .i64 0, .int .i64 0, .int .i64 0, .int .i64 0, .int .i64 0, .int .i64 0, .slice none 0 0] 44)) _ _ D0') ?_
       rintro e w5 ⟨pa, pc, rfl, HW5, T5, K5⟩
       refine ⟨_, rfl, ?_⟩
       have bz := boxed ((Below.refl _ w2).drew) (.cells #[.int .i64 0, .int .i64 0, .int .i64 0, .int .i64 0, .int .i64 0, .int .i64 0, .int .i64 0, .int .i64 0, .slice none 0 0] 44)
       have H5 := (H2.later bz).keeps K5 (fun j h => .inl (.inl (.inl (.inr h))))
       have RM5 := (RMC.later bz).keeps K5 (.inl (.inl (.inr rfl)))
       have WM5 := WrIn.kept (m := ⟨⟨m0, m1, m2, m3, m4, m5, m6, m7, mws⟩, ma, mc⟩) (HWC.out.later bz) (fun k hk => K5.block k (.inr hk))
       have hb5 := (boxed (hb2.drew) (.cells #[.int .i64 0, .int .i64 0, .int .i64 0, .int .i64 0, .int .i64 0, .int .i64 0, .int .i64 0, .int .i64 0, .slice none 0 0] 44)).trans (K5.below (fun k hk => .inl (.inl (.inl (.inl hk)))))
       have RZ := RowL.new (w := w2.drew) (T := 44) (n := w2.heap.size) [.int .i64 0, .int .i64 0, .int .i64 0, .int .i64 0, .int .i64 0, .int .i64 0, .int .i64 0, .int .i64 0, .slice none 0 0] rfl
       have RX5 := RZ.keeps K5 (.inl (.inr rfl))
       have v0 := RX5.cell 0 _ rfl
       have v1 := RX5.cell 1 _ rfl
       have v2 := RX5.cell 2 _ rfl
       have v3 := RX5.cell 3 _ rfl
       have v4 := RX5.cell 4 _ rfl
       have v5 := RX5.cell 5 _ rfl
       have v6 := RX5.cell 6 _ rfl
       have v7 := RX5.cell 7 _ rfl
       have v8 := RX5.cell 8 _ rfl
       have f0 := RX5.free 0 (by simp)
       have f1 := RX5.free 1 (by simp)
       have f2 := RX5.free 2 (by simp)
       have f3 := RX5.free 3 (by simp)
       have f4 := RX5.free 4 (by simp)
       have f5 := RX5.free 5 (by simp)
       have f6 := RX5.free 6 (by simp)
       have f7 := RX5.free 7 (by simp)
       have f8 := RX5.free 8 (by simp)))
  all_goals
    first
      | (have hck := RX5.lt
         go_simp
         refine HR.out _ _ _ _ _ _ _ _ _ _ _ pa pc _ ?_ ?_ ?_ ?_ ?_ ?_
         · exact tx_set RX5 rfl m0 m1 m2 m3 m4 m5 m6 m7 (.slice pa mws.length pc)
         · exact tx_keep RM5 (by omega : mb ≠ w2.heap.size) m0 m1 m2 m3 m4 m5 m6 m7 (.slice pa mws.length pc)
         · exact ⟨WrIn.kept (m := ⟨⟨m0, m1, m2, m3, m4, m5, m6, m7, mws⟩, pa, pc⟩) HW5.out.1 (fun k hk => setTx_block (fun e => by have := HW5.out.2 k hk; simp at this; omega) m0 m1 m2 m3 m4 m5 m6 m7 (.slice pa mws.length pc)), WrIn.kept (m := ⟨⟨m0, m1, m2, m3, m4, m5, m6, m7, mws⟩, ma, mc⟩) WM5 (fun k hk => setTx_block (fun e => by have := WrIn.blk_lt (m := ⟨⟨m0, m1, m2, m3, m4, m5, m6, m7, mws⟩, ma, mc⟩) HWC.out k hk; omega) m0 m1 m2 m3 m4 m5 m6 m7 (.slice pa mws.length pc))⟩
         · exact (T5.touch (touch_tx' (F := fun k => ((SX w.heap.size b5 b6 xb) k ∨ k = mb) ∨ k = w2.heap.size) (Touch.ofBelow (Below.refl _ w5)) (.inr rfl) m0 m1 m2 m3 m4 m5 m6 m7 (.slice pa mws.length pc))).less (fun k hk => .inl (.inl hk))
         · exact H5.kept (fun j hj => setTx_block (by rcases hj with e | e | e <;> (subst e; omega)) m0 m1 m2 m3 m4 m5 m6 m7 (.slice pa mws.length pc)) (touch_tx' (F := fun k => ((SX w.heap.size b5 b6 xb) k ∨ k = mb) ∨ k = w2.heap.size) (Touch.ofBelow (Below.refl _ w5)) (.inr rfl) m0 m1 m2 m3 m4 m5 m6 m7 (.slice pa mws.length pc)).size
         · exact tx_far' hb5 (Nat.le_refl _) hb2.size m0 m1 m2 m3 m4 m5 m6 m7 (.slice pa mws.length pc))
      | (go_simp
         refine HR.out _ _ _ _ _ _ _ _ _ _ _ pa pc _ ?_ ?_ ?_ ?_ ?_ ?_
         · exact RowL.new (w := w5) (T := 44) [.int .i64 m0, .int .i64 m1, .int .i64 m2, .int .i64 m3, .int .i64 m4, .int .i64 m5, .int .i64 m6, .int .i64 m7, .slice pa mws.length pc] rfl
         · exact RM5.boxed _
         · exact ⟨HW5.out.1.later (boxed (Below.refl _ w5) _), WM5.later (boxed (Below.refl _ w5) _)⟩
         · exact (T5.later (boxed (Below.refl _ w5) _)).less (fun k hk => .inl hk)
         · exact H5.later (boxed (Below.refl _ w5) _)
         · exact boxed hb5 _)

end Go.Proofs.YtpncedpfoakfkaaGreatDoor
