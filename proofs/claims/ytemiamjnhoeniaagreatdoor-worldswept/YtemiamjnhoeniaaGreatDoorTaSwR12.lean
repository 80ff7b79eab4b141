/-
  A step of both tales, and how much was committed in each (copsekeep.WorldSwept): '!a.does(l[i], true) || !b.does(l[i], false) || len(a.txs) != len(b.txs)', as the model runs it, whatever the rest of the frame is.
-/
import Derived.Test.YtemiamjnhoeniaaGreatDoorSiteK
import Derived.Test.YtemiamjnhoeniaaGreatDoorSiteC
namespace Go.Proofs.YtemiamjnhoeniaaGreatDoor
open Go.RowKit

noncomputable def swR12 : Code := ((Tryz.f6.body.bind (findRegion 12)).getD .skip)
set_option maxRecDepth 1000000 in
set_option maxHeartbeats 64000000 in
theorem swR12_any {z : Int} {i n cap ab ao ba bb : Nat} {what ak an : Int} {ad : ByteArray} {ag : Bool} {A B : TaleS} {Ga Gb : Nat → Prop} {y0 y1 y3 y4 y5 y6 y10 y11 y12 y13 y14 y15 y16 y17 y18 y19 y20 y21 y22 y23 y24 y25 y26 y27 y28 y29 y30 y31 y32 y33 y34 y35 y36 y37 y38 y39 y40 y41 y42 y43 y44 y45 y46 y47 y48 y49 y50 y51 y52 y53 y54 y55 y56 y57 y58 y59 y60 y61 y62 y63 y64 y65 y66 y67 y68 y69 y70 y71 y72 y73 y74 y75 y76 y77 y78 y79 y80 y81 y82 y83 y84 y85 y86 y88 y89 y90 y91 y92 y93 y94 y95 y96 y97 y98 y99 y100 y101 y102 y103 y104 y105 y106 y107 y108 y109 y110 y111 y112 y113 y114 y115 y116 y117 y118 y119 y120 y121 y122 y123 y124 y125 y126 y127 y128 y129 y130 y131 y132 y133 y134 y135 y136 y137 y138 y139 y140 y141 y142 y143 y144 y145 y146 y147 y148 y149 y150 y151 y152 y153 y154 y155 y156 y157 y158 y159 y160 y161 y162 y163 y164 y165 y166 y167 y168 y169 y170 y171 y172 y173 y174 y175 y176 y177 y178 y179 y180 y181 y182 y183 y184 y185 y186 y187 y188 y189 y190 y191 y192 y193 y194 y195 y196 y197 y198 y199 y200 y201 y202 y203 y204 y205 y206 y207 y208 y209 y210 y211 y212 y213 y214 y215 y216 y217 y218 y219 y220 y221 y222 y87 : Value} (w wr : World) (HZ : Hid (z = i ∧ i < n))
    (HAB : Hid (TA wr bb Gb B ∧ (∀ k, Ga k → ¬ Gb k) ∧ (∀ k, Ga k → w.heap.size ≤ k) ∧ (∀ k, Gb k → w.heap.size ≤ k) ∧ Below w.heap.size w wr))
    (DOA : Hid (Calls Tryz.prog 20 #[.pointer (some ⟨ba, 0, none⟩), .agg #[.int .i64 what, .int .i64 ak, .int .i64 an, .string ad, .bool ag], .bool true] wr.drew (DoesIs wr ba Ga A ⟨what, ak, an, ad, ag⟩ true)))
    (DOB : Hid (∀ w3 G3, Below w.heap.size w w3 → TA w3 bb G3 B → Calls Tryz.prog 20 #[.pointer (some ⟨bb, 0, none⟩), .agg #[.int .i64 what, .int .i64 ak, .int .i64 an, .string ad, .bool ag], .bool false] w3 (DoesIs w3 bb G3 B ⟨what, ak, an, ad, ag⟩ false)))
    (HD : Hid (∀ w' : World, Below w.heap.size w w' → w'.cell? ⟨ab, ao + i * 5, none⟩ = some (.int .i64 what) ∧ w'.cell? ⟨ab, ao + i * 5 + 1, none⟩ = some (.int .i64 ak) ∧ w'.cell? ⟨ab, ao + i * 5 + 2, none⟩ = some (.int .i64 an) ∧ w'.cell? ⟨ab, ao + i * 5 + 3, none⟩ = some (.string ad) ∧ w'.cell? ⟨ab, ao + i * 5 + 4, none⟩ = some (.bool ag)))
    (HLN : Hid (∀ A' B', DoesTo A ⟨what, ak, an, ad, ag⟩ true A' → DoesTo B ⟨what, ak, an, ad, ag⟩ false B' → A'.H.length = B'.H.length)) (R : Act → World → Prop)
    (hR : ∀ (u59 u60 u61 u62 u63 u64 u65 u66 u67 u68 u69 u70 u71 u72 u73 u74 u75 u76 u77 u78 u79 u80 u81 u82 u83 u84 u85 u86 : Value) (w4 : World) (A' B' : TaleS), TwoTA w ba bb A' B' w4 → DoesTo A ⟨what, ak, an, ad, ag⟩ true A' → DoesTo B ⟨what, ak, an, ad, ag⟩ false B' → R ⟨List.toArray (y0 :: y1 :: (.slice (some ⟨ab, ao, none⟩) n cap) :: y3 :: y4 :: y5 :: y6 :: (.pointer (some ⟨ba, 0, none⟩)) :: (.pointer (some ⟨bb, 0, none⟩)) :: (.int .i64 z) :: y10 :: y11 :: y12 :: y13 :: y14 :: y15 :: y16 :: y17 :: y18 :: y19 :: y20 :: y21 :: y22 :: y23 :: y24 :: y25 :: y26 :: y27 :: y28 :: y29 :: y30 :: y31 :: y32 :: y33 :: y34 :: y35 :: y36 :: y37 :: y38 :: y39 :: y40 :: y41 :: y42 :: y43 :: y44 :: y45 :: y46 :: y47 :: y48 :: y49 :: y50 :: y51 :: y52 :: y53 :: y54 :: y55 :: y56 :: y57 :: y58 :: u59 :: u60 :: u61 :: u62 :: u63 :: u64 :: u65 :: u66 :: u67 :: u68 :: u69 :: u70 :: u71 :: u72 :: u73 :: u74 :: u75 :: u76 :: u77 :: u78 :: u79 :: u80 :: u81 :: u82 :: u83 :: u84 :: u85 :: u86 :: (.bool false) :: y88 :: y89 :: y90 :: y91 :: y92 :: y93 :: y94 :: y95 :: y96 :: y97 :: y98 :: y99 :: y100 :: y101 :: y102 :: y103 :: y104 :: y105 :: y106 :: y107 :: y108 :: y109 :: y110 :: y111 :: y112 :: y113 :: y114 :: y115 :: y116 :: y117 :: y118 :: y119 :: y120 :: y121 :: y122 :: y123 :: y124 :: y125 :: y126 :: y127 :: y128 :: y129 :: y130 :: y131 :: y132 :: y133 :: y134 :: y135 :: y136 :: y137 :: y138 :: y139 :: y140 :: y141 :: y142 :: y143 :: y144 :: y145 :: y146 :: y147 :: y148 :: y149 :: y150 :: y151 :: y152 :: y153 :: y154 :: y155 :: y156 :: y157 :: y158 :: y159 :: y160 :: y161 :: y162 :: y163 :: y164 :: y165 :: y166 :: y167 :: y168 :: y169 :: y170 :: y171 :: y172 :: y173 :: y174 :: y175 :: y176 :: y177 :: y178 :: y179 :: y180 :: y181 :: y182 :: y183 :: y184 :: y185 :: y186 :: y187 :: y188 :: y189 :: y190 :: y191 :: y192 :: y193 :: y194 :: y195 :: y196 :: y197 :: y198 :: y199 :: y200 :: y201 :: y202 :: y203 :: y204 :: y205 :: y206 :: y207 :: y208 :: y209 :: y210 :: y211 :: y212 :: y213 :: y214 :: y215 :: y216 :: y217 :: y218 :: y219 :: y220 :: y221 :: y222 :: []), []⟩ w4) :
    Code.wp Tryz.prog swR12 (Exit.then R (fun _ _ _ => False)) ⟨List.toArray (y0 :: y1 :: (.slice (some ⟨ab, ao, none⟩) n cap) :: y3 :: y4 :: y5 :: y6 :: (.pointer (some ⟨ba, 0, none⟩)) :: (.pointer (some ⟨bb, 0, none⟩)) :: (.int .i64 z) :: y10 :: y11 :: y12 :: y13 :: y14 :: y15 :: y16 :: y17 :: y18 :: y19 :: y20 :: y21 :: y22 :: y23 :: y24 :: y25 :: y26 :: y27 :: y28 :: y29 :: y30 :: y31 :: y32 :: y33 :: y34 :: y35 :: y36 :: y37 :: y38 :: y39 :: y40 :: y41 :: y42 :: y43 :: y44 :: y45 :: y46 :: y47 :: y48 :: y49 :: y50 :: y51 :: y52 :: y53 :: y54 :: y55 :: y56 :: y57 :: y58 :: y59 :: y60 :: y61 :: y62 :: y63 :: y64 :: y65 :: y66 :: y67 :: y68 :: y69 :: y70 :: y71 :: y72 :: y73 :: y74 :: y75 :: y76 :: y77 :: y78 :: y79 :: y80 :: y81 :: y82 :: y83 :: y84 :: y85 :: y86 :: y87 :: y88 :: y89 :: y90 :: y91 :: y92 :: y93 :: y94 :: y95 :: y96 :: y97 :: y98 :: y99 :: y100 :: y101 :: y102 :: y103 :: y104 :: y105 :: y106 :: y107 :: y108 :: y109 :: y110 :: y111 :: y112 :: y113 :: y114 :: y115 :: y116 :: y117 :: y118 :: y119 :: y120 :: y121 :: y122 :: y123 :: y124 :: y125 :: y126 :: y127 :: y128 :: y129 :: y130 :: y131 :: y132 :: y133 :: y134 :: y135 :: y136 :: y137 :: y138 :: y139 :: y140 :: y141 :: y142 :: y143 :: y144 :: y145 :: y146 :: y147 :: y148 :: y149 :: y150 :: y151 :: y152 :: y153 :: y154 :: y155 :: y156 :: y157 :: y158 :: y159 :: y160 :: y161 :: y162 :: y163 :: y164 :: y165 :: y166 :: y167 :: y168 :: y169 :: y170 :: y171 :: y172 :: y173 :: y174 :: y175 :: y176 :: y177 :: y178 :: y179 :: y180 :: y181 :: y182 :: y183 :: y184 :: y185 :: y186 :: y187 :: y188 :: y189 :: y190 :: y191 :: y192 :: y193 :: y194 :: y195 :: y196 :: y197 :: y198 :: y199 :: y200 :: y201 :: y202 :: y203 :: y204 :: y205 :: y206 :: y207 :: y208 :: y209 :: y210 :: y211 :: y212 :: y213 :: y214 :: y215 :: y216 :: y217 :: y218 :: y219 :: y220 :: y221 :: y222 :: []), []⟩ wr := by
  have z0 : 0 ≤ z := by have := HZ.out; omega
  have z1 : z.toNat = i := by have := HZ.out; omega
  have z2 : z < (n : Int) := by have := HZ.out; omega
  obtain ⟨s0, s1, s2, s3, s4⟩ := HD.out wr HAB.out.2.2.2.2
  have HR : Hid _ := hR
  clear hR
  conv => arg 2; whnf
  refine wp_region_any (by kernel_rfl) ?_
  change wpAny _ _ _ _ _ _ _ (World.drew _)
  refine wpAny_take (i := 0) (v := ?_) rfl (by kernel_rfl) (by kernel_rfl) (by kernel_rfl) (fun _ _ _ h => h) (Or.inl ⟨by rfl, ?_⟩) ?_
  rotate_left
  · intro w0; first | (go_simp; done) | (go_simp; with_reducible rfl)
  go_simp
  refine wpAny_take (i := 1) (v := ?_) rfl (by kernel_rfl) (by kernel_rfl) (by kernel_rfl) (fun _ _ _ h => h) (Or.inl ⟨by rfl, ?_⟩) ?_
  rotate_left
  · intro w0; first | (go_simp; done) | (go_simp; with_reducible rfl)
  go_simp
  refine wpAny_take (i := 2) (v := ?_) rfl (by kernel_rfl) (by kernel_rfl) (by kernel_rfl) (fun _ _ _ h => h) (Or.inl ⟨by rfl, ?_⟩) ?_
  rotate_left
  · intro w0; first | (go_simp; done) | (go_simp; with_reducible rfl)
  go_simp
  refine wpAny_take (i := 3) (v := ?_) rfl (by kernel_rfl) (by kernel_rfl) (by kernel_rfl) (fun _ _ _ h => h) (Or.inl ⟨by rfl, ?_⟩) ?_
  rotate_left
  · intro w0; first | (go_simp; done) | (go_simp; with_reducible rfl)
  go_simp
  refine wpAny_ready (rs := [4]) (by kernel_rfl) (by simp) ?_
  refine AllReady.cons rfl (fun K hK => ?_) AllReady.nil
  dsimp only [List.getElem_toArray, List.getElem_cons_succ, List.getElem_cons_zero]
  go_simp
  refine hK _ _ ?_
  clear hK K
  refine wpAny_ready (rs := [5]) (by kernel_rfl) (by simp) ?_
  refine AllReady.cons rfl (fun K hK => ?_) AllReady.nil
  dsimp only [List.getElem_toArray, List.getElem_cons_succ, List.getElem_cons_zero]
  rw [if_pos (by rfl)]
  refine wp_callO 20 #[.pointer (some ⟨ba, 0, none⟩), .agg #[.int .i64 what, .int .i64 ak, .int .i64 an, .string ad, .bool ag], .bool true] (by go_simp) DOA.out ?_
  rintro e w3 ⟨rfl, A', hda, hpa⟩
  refine ⟨_, rfl, ?_⟩
  have T3 := TwoTA.stepA HAB.out.2.2.2.2 HAB.out.1 HAB.out.2.1 HAB.out.2.2.1 HAB.out.2.2.2.1 hpa
  obtain ⟨Ma3, Mb3, Ga3, Gb3, _, _, ta3, tb3, ds3, na3, nb3, hb3⟩ := T3.start
  obtain ⟨r0, r1, r2, r3, r4⟩ := HD.out w3 hb3
  have H3 : Hid (TA w3 ba Ga3 A' ∧ (∀ k, Ga3 k → ¬ Gb3 k) ∧ (∀ k, Ga3 k → w.heap.size ≤ k) ∧ (∀ k, Gb3 k → w.heap.size ≤ k) ∧ Below w.heap.size w w3 ∧ DoesTo A ⟨what, ak, an, ad, ag⟩ true A') := ⟨ta3, ds3, na3, nb3, hb3, hda⟩
  have DO3 := DOB.out w3 Gb3 hb3 tb3
  clear T3 ta3 tb3 ds3 na3 nb3 hb3 hda hpa s0 s1 s2 s3 s4
  go_simp
  refine hK _ _ ?_
  clear hK K
  refine wpAny_take (i := 6) (v := ?_) rfl (by kernel_rfl) (by kernel_rfl) (by kernel_rfl) (fun _ _ _ h => h) (Or.inl ⟨by rfl, ?_⟩) ?_
  rotate_left
  · intro w0; first | (go_simp; done) | (go_simp; with_reducible rfl)
  go_simp
  refine wpAny_take (i := 7) (v := ?_) rfl (by kernel_rfl) (by kernel_rfl) (by kernel_rfl) (fun _ _ _ h => h) (Or.inl ⟨by rfl, ?_⟩) ?_
  rotate_left
  · intro w0; first | (go_simp; done) | (go_simp; with_reducible rfl)
  go_simp
  refine wpAny_take (i := 8) (v := ?_) rfl (by kernel_rfl) (by kernel_rfl) (by kernel_rfl) (fun _ _ _ h => h) (Or.inl ⟨by rfl, ?_⟩) ?_
  rotate_left
  · intro w0; first | (go_simp; done) | (go_simp; with_reducible rfl)
  go_simp
  refine wpAny_take (i := 9) (v := ?_) rfl (by kernel_rfl) (by kernel_rfl) (by kernel_rfl) (fun _ _ _ h => h) (Or.inl ⟨by rfl, ?_⟩) ?_
  rotate_left
  · intro w0; first | (go_simp; done) | (go_simp; with_reducible rfl)
  go_simp
  refine wpAny_take (i := 10) (v := ?_) rfl (by kernel_rfl) (by kernel_rfl) (by kernel_rfl) (fun _ _ _ h => h) (Or.inl ⟨by rfl, ?_⟩) ?_
  rotate_left
  · intro w0; first | (go_simp; done) | (go_simp; with_reducible rfl)
  go_simp
  refine wpAny_take (i := 11) (v := ?_) rfl (by kernel_rfl) (by kernel_rfl) (by kernel_rfl) (fun _ _ _ h => h) (Or.inl ⟨by rfl, ?_⟩) ?_
  rotate_left
  · intro w0; first | (go_simp; done) | (go_simp; with_reducible rfl)
  go_simp
  refine wpAny_ready (rs := [12]) (by kernel_rfl) (by simp) ?_
  refine AllReady.cons rfl (fun K hK => ?_) AllReady.nil
  dsimp only [List.getElem_toArray, List.getElem_cons_succ, List.getElem_cons_zero]
  go_simp
  refine hK _ _ ?_
  clear hK K
  refine wpAny_ready (rs := [13]) (by kernel_rfl) (by simp) ?_
  refine AllReady.cons rfl (fun K hK => ?_) AllReady.nil
  dsimp only [List.getElem_toArray, List.getElem_cons_succ, List.getElem_cons_zero]
  rw [if_pos (by rfl)]
  refine wp_callO 20 #[.pointer (some ⟨bb, 0, none⟩), .agg #[.int .i64 what, .int .i64 ak, .int .i64 an, .string ad, .bool ag], .bool false] (by go_simp) DO3 ?_
  rintro e w4 ⟨rfl, B', hdb, hpb⟩
  refine ⟨_, rfl, ?_⟩
  have T4 := TwoTA.stepB H3.out.2.2.2.2.1 H3.out.1 H3.out.2.1 H3.out.2.2.1 H3.out.2.2.2.1 hpb
  obtain ⟨Ma4, Mb4, Ga4, Gb4, ma4, mb4, _, _, _, _, _, hb4⟩ := T4.start
  obtain ⟨ta, tc, htva, _, hala, _⟩ := ma4.txs
  obtain ⟨tb, td, htvb, _, halb, _⟩ := mb4.txs
  have qa := ma4.box.cell 3 _ rfl
  have qb := mb4.box.cell 3 _ rfl
  have el : Ma4.all.length = Mb4.all.length := by
    have h1 := HLN.out _ _ H3.out.2.2.2.2.2 hdb
    rw [← hala, ← halb] at h1
    simpa using h1
  rw [htva] at qa
  rw [htvb, ← el] at qb
  have H4 : Hid (TwoTA w ba bb A' B' w4 ∧ DoesTo B ⟨what, ak, an, ad, ag⟩ false B') := ⟨T4, hdb⟩
  clear T4 ma4 mb4 hb4 hala halb htva htvb hdb hpb r0 r1 r2 r3 r4 el DO3
  go_simp
  refine hK _ _ ?_
  clear hK K
  refine wpAny_take (i := 14) (v := ?_) rfl (by kernel_rfl) (by kernel_rfl) (by kernel_rfl) (fun _ _ _ h => h) (Or.inl ⟨by rfl, ?_⟩) ?_
  rotate_left
  · intro w0; first | (go_simp; done) | (go_simp; with_reducible rfl)
  go_simp
  refine wpAny_take (i := 15) (v := ?_) rfl (by kernel_rfl) (by kernel_rfl) (by kernel_rfl) (fun _ _ _ h => h) (Or.inl ⟨by rfl, ?_⟩) ?_
  rotate_left
  · intro w0; first | (go_simp; done) | (go_simp; with_reducible rfl)
  go_simp
  refine wpAny_take (i := 16) (v := ?_) rfl (by kernel_rfl) (by kernel_rfl) (by kernel_rfl) (fun _ _ _ h => h) (Or.inl ⟨by rfl, ?_⟩) ?_
  rotate_left
  · intro w0; first | (go_simp; done) | (go_simp; with_reducible rfl)
  go_simp
  refine wpAny_take (i := 17) (v := ?_) rfl (by kernel_rfl) (by kernel_rfl) (by kernel_rfl) (fun _ _ _ h => h) (Or.inl ⟨by rfl, ?_⟩) ?_
  rotate_left
  · intro w0; first | (go_simp; done) | (go_simp; with_reducible rfl)
  go_simp
  refine wpAny_take (i := 18) (v := ?_) rfl (by kernel_rfl) (by kernel_rfl) (by kernel_rfl) (fun _ _ _ h => h) (Or.inl ⟨by rfl, ?_⟩) ?_
  rotate_left
  · intro w0; first | (go_simp; done) | (go_simp; with_reducible rfl)
  go_simp
  refine wpAny_take (i := 19) (v := ?_) rfl (by kernel_rfl) (by kernel_rfl) (by kernel_rfl) (fun _ _ _ h => h) (Or.inl ⟨by rfl, ?_⟩) ?_
  rotate_left
  · intro w0; first | (go_simp; done) | (go_simp; with_reducible rfl)
  go_simp
  refine wpAny_take (i := 22) (v := ?_) rfl (by kernel_rfl) (by kernel_rfl) (by kernel_rfl) (fun _ _ _ h => h) (Or.inl ⟨by rfl, ?_⟩) ?_
  rotate_left
  · intro w0; first | (go_simp; done) | (go_simp; with_reducible rfl)
  go_simp
  refine wpAny_take (i := 23) (v := ?_) rfl (by kernel_rfl) (by kernel_rfl) (by kernel_rfl) (fun _ _ _ h => h) (Or.inl ⟨by rfl, ?_⟩) ?_
  rotate_left
  · intro w0; first | (go_simp; done) | (go_simp; with_reducible rfl)
  go_simp
  refine wpAny_take (i := 24) (v := ?_) rfl (by kernel_rfl) (by kernel_rfl) (by kernel_rfl) (fun _ _ _ h => h) (Or.inl ⟨by rfl, ?_⟩) ?_
  rotate_left
  · intro w0; first | (go_simp; done) | (go_simp; with_reducible rfl)
  go_simp
  refine wpAny_ready (rs := [20, 25]) (by kernel_rfl) (by simp) ?_
  refine AllReady.cons rfl (fun K hK => ?_) (AllReady.cons rfl (fun K hK => ?_) AllReady.nil)
  · dsimp only [List.getElem_toArray, List.getElem_cons_succ, List.getElem_cons_zero]
    go_simp
    refine hK _ _ ?_
    clear hK K
    refine wpAny_take (i := 21) (v := ?_) rfl (by kernel_rfl) (by kernel_rfl) (by kernel_rfl) (fun _ _ _ h => h) (Or.inl ⟨by rfl, ?_⟩) ?_
    rotate_left
    · intro w0; first | (go_simp; done) | (go_simp; with_reducible rfl)
    go_simp
    refine wpAny_ready (rs := [25]) (by kernel_rfl) (by simp) ?_
    refine AllReady.cons rfl (fun K hK => ?_) AllReady.nil
    dsimp only [List.getElem_toArray, List.getElem_cons_succ, List.getElem_cons_zero]
    go_simp
    refine hK _ _ ?_
    clear hK K
    refine wpAny_take (i := 26) (v := ?_) rfl (by kernel_rfl) (by kernel_rfl) (by kernel_rfl) (fun _ _ _ h => h) (Or.inl ⟨by rfl, ?_⟩) ?_
    rotate_left
    · intro w0; first | (go_simp; done) | (go_simp; with_reducible rfl)
    go_simp
    refine wpAny_take (i := 27) (v := ?_) rfl (by kernel_rfl) (by kernel_rfl) (by kernel_rfl) (fun _ _ _ h => h) (Or.inl ⟨by rfl, ?_⟩) ?_
    rotate_left
    · intro w0; first | (go_simp; done) | (go_simp; with_reducible rfl)
    go_simp
    refine wpAny_take (i := 28) (v := ?_) rfl (by kernel_rfl) (by kernel_rfl) (by kernel_rfl) (fun _ _ _ h => h) (Or.inl ⟨by rfl, ?_⟩) ?_
    rotate_left
    · intro w0; first | (go_simp; done) | (go_simp; with_reducible rfl)
    go_simp
    refine wpAny_done (by kernel_rfl) ?_ _
    refine HR.out _ _ _ _ _ _ _ _ _ _ _ _ _ _ _ _ _ _ _ _ _ _ _ _ _ _ _ _ w4 A' B' H4.out.1 H3.out.2.2.2.2.2 H4.out.2
  · dsimp only [List.getElem_toArray, List.getElem_cons_succ, List.getElem_cons_zero]
    go_simp
    refine hK _ _ ?_
    clear hK K
    refine wpAny_take (i := 26) (v := ?_) rfl (by kernel_rfl) (by kernel_rfl) (by kernel_rfl) (fun _ _ _ h => h) (Or.inl ⟨by rfl, ?_⟩) ?_
    rotate_left
    · intro w0; first | (go_simp; done) | (go_simp; with_reducible rfl)
    go_simp
    refine wpAny_ready (rs := [20]) (by kernel_rfl) (by simp) ?_
    refine AllReady.cons rfl (fun K hK => ?_) AllReady.nil
    dsimp only [List.getElem_toArray, List.getElem_cons_succ, List.getElem_cons_zero]
    go_simp
    refine hK _ _ ?_
    clear hK K
    refine wpAny_take (i := 21) (v := ?_) rfl (by kernel_rfl) (by kernel_rfl) (by kernel_rfl) (fun _ _ _ h => h) (Or.inl ⟨by rfl, ?_⟩) ?_
    rotate_left
    · intro w0; first | (go_simp; done) | (go_simp; with_reducible rfl)
    go_simp
    refine wpAny_take (i := 27) (v := ?_) rfl (by kernel_rfl) (by kernel_rfl) (by kernel_rfl) (fun _ _ _ h => h) (Or.inl ⟨by rfl, ?_⟩) ?_
    rotate_left
    · intro w0; first | (go_simp; done) | (go_simp; with_reducible rfl)
    go_simp
    refine wpAny_take (i := 28) (v := ?_) rfl (by kernel_rfl) (by kernel_rfl) (by kernel_rfl) (fun _ _ _ h => h) (Or.inl ⟨by rfl, ?_⟩) ?_
    rotate_left
    · intro w0; first | (go_simp; done) | (go_simp; with_reducible rfl)
    go_simp
    refine wpAny_done (by kernel_rfl) ?_ _
    refine HR.out _ _ _ _ _ _ _ _ _ _ _ _ _ _ _ _ _ _ _ _ _ _ _ _ _ _ _ _ w4 A' B' H4.out.1 H3.out.2.2.2.2.2 H4.out.2

end Go.Proofs.YtemiamjnhoeniaaGreatDoor

