/-
  What waits at a site of the document grows by one (copseref.Site.Take): 's.Waits = append(append([]api.Tx{}, s.Waits...), t)', as the model runs it, whatever the rest of the frame is.
-/
import Derived.Test.YtpncedpfoakfkaaGreatDoorSiteI
namespace Go.Proofs.YtpncedpfoakfkaaGreatDoor
open Go.RowKit

noncomputable def takeR15 : Code := ((Tryz.f12.body.bind (findRegion 15)).getD .skip)
theorem free_later {w w' : World} {p : Addr} (hb : Below w.heap.size w w') (h : w.frozen? p = false) (hl : p.block < w.heap.size) : w'.frozen? p = false := by rw [hb.frozen hl]; exact h

set_option maxRecDepth 1000000 in
set_option maxHeartbeats 16000000 in
theorem takeR15_any {b tb : Nat} {site seq wall count d0 d1 d2 d3 : Int} {ws : List Wr} {ta : Option Addr} {tc : Nat} {va : Option Addr} {vc : Nat} {waits : List TxM} {y1 y2 y4 y5 y6 y7 y8 y9 y10 y11 y12 y13 y14 y15 y16 y17 y18 y19 y20 y21 y22 y23 y24 y25 y26 y27 y28 y29 y30 y31 y32 y33 y34 y35 y36 y37 y38 y39 y40 y41 y42 y43 y44 y45 y46 y47 y48 y49 y50 y51 y52 y53 y54 y55 y56 y57 y58 y59 y60 y61 y62 y63 y64 y65 y66 y67 y68 y69 y70 y71 y72 y73 y74 y75 y76 y77 y78 y79 y80 y81 y82 y83 y84 y85 y86 y87 y88 y89 y90 y91 y92 y93 y94 y95 y96 y97 y98 y99 y100 y101 y102 y103 y104 y105 y106 y107 y108 y109 y110 y111 y112 y113 y114 y115 y116 y117 y118 y119 y120 y121 y122 y123 y124 y125 y126 y127 y128 y129 y130 y131 y132 y133 y134 y135 y136 y137 y138 y139 y140 y141 y142 y143 y144 y145 y146 y147 y148 y149 y150 y151 y152 y153 y154 y155 y156 y157 y158 y159 y160 y161 y162 y163 y164 y165 y166 y167 y168 y169 y170 y171 y172 y173 y174 y175 y176 y177 y178 y179 y180 y181 y182 y183 y184 y185 y186 y187 y188 y189 y190 y191 y192 y193 y194 y195 y196 : Value} (W5 : World) (HV5 : Hid (TxsIn W5 va vc waits)) (HLN : Hid (waits.length ≤ 1000)) (RB5 : RowL W5 tb [.int .i64 site, .int .i64 seq, .int .i64 wall, .int .i64 count, .int .i64 d0, .int .i64 d1, .int .i64 d2, .int .i64 d3, .slice ta ws.length tc])
    (c85 : W5.cell? ⟨b, 8, none⟩ = some (.slice va waits.length vc)) (f85 : W5.frozen? ⟨b, 8, none⟩ = false) (R : Act → World → Prop)
    (hR : ∀ (u99 u100 u101 u102 u103 u104 u105 u106 u107 u108 u109 u110 : Value) (w7 : World) (g2 c2 : Nat), Below W5.heap.size W5 w7 → W5.heap.size ≤ g2 → g2 < w7.heap.size → w7.ownsRow 0 44 9 (.slice (some ⟨g2, 0, none⟩) (waits.length + 1) c2) (waits.length + 1) (txsC waits ++ txsC [⟨⟨site, seq, wall, count, d0, d1, d2, d3, ws⟩, ta, tc⟩]) → R ⟨List.toArray ((.pointer (some ⟨b, 0, none⟩)) :: y1 :: y2 :: (.pointer (some ⟨tb, 0, none⟩)) :: y4 :: y5 :: y6 :: y7 :: y8 :: y9 :: y10 :: y11 :: y12 :: y13 :: y14 :: y15 :: y16 :: y17 :: y18 :: y19 :: y20 :: y21 :: y22 :: y23 :: y24 :: y25 :: y26 :: y27 :: y28 :: y29 :: y30 :: y31 :: y32 :: y33 :: y34 :: y35 :: y36 :: y37 :: y38 :: y39 :: y40 :: y41 :: y42 :: y43 :: y44 :: y45 :: y46 :: y47 :: y48 :: y49 :: y50 :: y51 :: y52 :: y53 :: y54 :: y55 :: y56 :: y57 :: y58 :: y59 :: y60 :: y61 :: y62 :: y63 :: y64 :: y65 :: y66 :: y67 :: y68 :: y69 :: y70 :: y71 :: y72 :: y73 :: y74 :: y75 :: y76 :: y77 :: y78 :: y79 :: y80 :: y81 :: y82 :: y83 :: y84 :: y85 :: y86 :: y87 :: y88 :: y89 :: y90 :: y91 :: y92 :: y93 :: y94 :: y95 :: y96 :: y97 :: y98 :: u99 :: u100 :: u101 :: u102 :: u103 :: u104 :: u105 :: u106 :: u107 :: u108 :: u109 :: u110 :: y111 :: y112 :: y113 :: y114 :: y115 :: y116 :: y117 :: y118 :: y119 :: y120 :: y121 :: y122 :: y123 :: y124 :: y125 :: y126 :: y127 :: y128 :: y129 :: y130 :: y131 :: y132 :: y133 :: y134 :: y135 :: y136 :: y137 :: y138 :: y139 :: y140 :: y141 :: y142 :: y143 :: y144 :: y145 :: y146 :: y147 :: y148 :: y149 :: y150 :: y151 :: y152 :: y153 :: y154 :: y155 :: y156 :: y157 :: y158 :: y159 :: y160 :: y161 :: y162 :: y163 :: y164 :: y165 :: y166 :: y167 :: y168 :: y169 :: y170 :: y171 :: y172 :: y173 :: y174 :: y175 :: y176 :: y177 :: y178 :: y179 :: y180 :: y181 :: y182 :: y183 :: y184 :: y185 :: y186 :: y187 :: y188 :: y189 :: y190 :: y191 :: y192 :: y193 :: y194 :: y195 :: y196 :: []), []⟩ (w7.setCell ⟨b, 8, none⟩ (.slice (some ⟨g2, 0, none⟩) (waits.length + 1) c2))) :
    Code.wp Tryz.prog takeR15 (Exit.then R (fun _ _ _ => False)) ⟨List.toArray ((.pointer (some ⟨b, 0, none⟩)) :: y1 :: y2 :: (.pointer (some ⟨tb, 0, none⟩)) :: y4 :: y5 :: y6 :: y7 :: y8 :: y9 :: y10 :: y11 :: y12 :: y13 :: y14 :: y15 :: y16 :: y17 :: y18 :: y19 :: y20 :: y21 :: y22 :: y23 :: y24 :: y25 :: y26 :: y27 :: y28 :: y29 :: y30 :: y31 :: y32 :: y33 :: y34 :: y35 :: y36 :: y37 :: y38 :: y39 :: y40 :: y41 :: y42 :: y43 :: y44 :: y45 :: y46 :: y47 :: y48 :: y49 :: y50 :: y51 :: y52 :: y53 :: y54 :: y55 :: y56 :: y57 :: y58 :: y59 :: y60 :: y61 :: y62 :: y63 :: y64 :: y65 :: y66 :: y67 :: y68 :: y69 :: y70 :: y71 :: y72 :: y73 :: y74 :: y75 :: y76 :: y77 :: y78 :: y79 :: y80 :: y81 :: y82 :: y83 :: y84 :: y85 :: y86 :: y87 :: y88 :: y89 :: y90 :: y91 :: y92 :: y93 :: y94 :: y95 :: y96 :: y97 :: y98 :: y99 :: y100 :: y101 :: y102 :: y103 :: y104 :: y105 :: y106 :: y107 :: y108 :: y109 :: y110 :: y111 :: y112 :: y113 :: y114 :: y115 :: y116 :: y117 :: y118 :: y119 :: y120 :: y121 :: y122 :: y123 :: y124 :: y125 :: y126 :: y127 :: y128 :: y129 :: y130 :: y131 :: y132 :: y133 :: y134 :: y135 :: y136 :: y137 :: y138 :: y139 :: y140 :: y141 :: y142 :: y143 :: y144 :: y145 :: y146 :: y147 :: y148 :: y149 :: y150 :: y151 :: y152 :: y153 :: y154 :: y155 :: y156 :: y157 :: y158 :: y159 :: y160 :: y161 :: y162 :: y163 :: y164 :: y165 :: y166 :: y167 :: y168 :: y169 :: y170 :: y171 :: y172 :: y173 :: y174 :: y175 :: y176 :: y177 :: y178 :: y179 :: y180 :: y181 :: y182 :: y183 :: y184 :: y185 :: y186 :: y187 :: y188 :: y189 :: y190 :: y191 :: y192 :: y193 :: y194 :: y195 :: y196 :: []), []⟩ W5 := by
  have l5 : (⟨b, 8, none⟩ : Addr).block < W5.heap.size := World.block_lt_of_cell? _ _ c85
  have l5' : b < W5.heap.size := l5
  have l6 := RB5.lt
  have v0 := RB5.cell 0 _ rfl
  have v1 := RB5.cell 1 _ rfl
  have v2 := RB5.cell 2 _ rfl
  have v3 := RB5.cell 3 _ rfl
  have v4 := RB5.cell 4 _ rfl
  have v5 := RB5.cell 5 _ rfl
  have v6 := RB5.cell 6 _ rfl
  have v7 := RB5.cell 7 _ rfl
  have v8 := RB5.cell 8 _ rfl
  have HR : Hid _ := hR
  clear hR
  conv => arg 2; whnf
  go_region_law (first
   | (refine step_append_txs _ rfl (.tmp 100) (.tmp 104) rfl (g := W5.heap.size) (n := 0) (cap := 0) (xs := []) (by simp [Act.eval]) (own_none9 W5 44 rfl) (sa := va) (c := vc) (l := waits) (by simp [Act.eval]) (HV5.out.later (by repeat (first | (with_reducible assumption) | (with_reducible exact Below.refl _ _) | (with_reducible refine boxed ?_ _) | (with_reducible refine Below.drew ?_)))) (by have := HLN.out; omega) ?_
      intro g1 c1_ w6 own6 gr6 eg6 lt6
      have HG6 : Hid (W5.heap.size ≤ g1 ∧ g1 < w6.heap.size) := ⟨by simp at eg6; omega, lt6⟩
      have hb6 : Below W5.heap.size W5 w6 := Below.grown (by repeat (first | (with_reducible assumption) | (with_reducible exact Below.refl _ _) | (with_reducible refine boxed ?_ _) | (with_reducible refine Below.drew ?_))) gr6 (by simp <;> omega) (fun j hj => by simp at hj; omega)
      have c86 := cell_later hb6 c85
      have f86 := free_later hb6 f85 l5
      have RB6 := RB5.later hb6
      have v0' := RB6.cell 0 _ rfl
      have v1' := RB6.cell 1 _ rfl
      have v2' := RB6.cell 2 _ rfl
      have v3' := RB6.cell 3 _ rfl
      have v4' := RB6.cell 4 _ rfl
      have v5' := RB6.cell 5 _ rfl
      have v6' := RB6.cell 6 _ rfl
      have v7' := RB6.cell 7 _ rfl
      have v8' := RB6.cell 8 _ rfl
      skip)
   | (refine step_append_txs _ rfl (.tmp 100) (.tmp 104) rfl (g := W5.heap.size) (n := 0) (cap := 0) (xs := []) (by simp [Act.eval]) ((own_none9 W5 44 rfl).alloc (.cells #[.int .i64 site, .int .i64 seq, .int .i64 wall, .int .i64 count, .int .i64 d0, .int .i64 d1, .int .i64 d2, .int .i64 d3, .slice ta ws.length tc] 44)) (sa := va) (c := vc) (l := waits) (by simp [Act.eval]) (HV5.out.later (by repeat (first | (with_reducible assumption) | (with_reducible exact Below.refl _ _) | (with_reducible refine boxed ?_ _) | (with_reducible refine Below.drew ?_)))) (by have := HLN.out; omega) ?_
      intro g1 c1_ w6 own6 gr6 eg6 lt6
      have HG6 : Hid (W5.heap.size ≤ g1 ∧ g1 < w6.heap.size) := ⟨by simp at eg6; omega, lt6⟩
      have hb6 : Below W5.heap.size W5 w6 := Below.grown (by repeat (first | (with_reducible assumption) | (with_reducible exact Below.refl _ _) | (with_reducible refine boxed ?_ _) | (with_reducible refine Below.drew ?_))) gr6 (by simp <;> omega) (fun j hj => by simp at hj; omega)
      have c86 := cell_later hb6 c85
      have f86 := free_later hb6 f85 l5
      have RB6 := RB5.later hb6
      have v0' := RB6.cell 0 _ rfl
      have v1' := RB6.cell 1 _ rfl
      have v2' := RB6.cell 2 _ rfl
      have v3' := RB6.cell 3 _ rfl
      have v4' := RB6.cell 4 _ rfl
      have v5' := RB6.cell 5 _ rfl
      have v6' := RB6.cell 6 _ rfl
      have v7' := RB6.cell 7 _ rfl
      have v8' := RB6.cell 8 _ rfl
      have RZ6 : RowL w6 (W5.heap.size + 1) (txC ⟨⟨site, seq, wall, count, d0, d1, d2, d3, ws⟩, ta, tc⟩) := ((RowL.new (w := W5.alloc (.cells #[] 44)) (T := 44) (n := W5.heap.size + 1) [.int .i64 site, .int .i64 seq, .int .i64 wall, .int .i64 count, .int .i64 d0, .int .i64 d1, .int .i64 d2, .int .i64 d3, .slice ta ws.length tc] (by simp)).drew).grown gr6 (fun e => by simp at e <;> omega))
   | (refine step_append_txs _ rfl (.tmp 100) (.tmp 104) rfl (g := W5.heap.size + 1) (n := 0) (cap := 0) (xs := []) (by simp [Act.eval]) (own_none9 (W5.alloc (.cells #[.int .i64 site, .int .i64 seq, .int .i64 wall, .int .i64 count, .int .i64 d0, .int .i64 d1, .int .i64 d2, .int .i64 d3, .slice ta ws.length tc] 44)) (n := W5.heap.size + 1) 44 (by simp)) (sa := va) (c := vc) (l := waits) (by simp [Act.eval]) (HV5.out.later (by repeat (first | (with_reducible assumption) | (with_reducible exact Below.refl _ _) | (with_reducible refine boxed ?_ _) | (with_reducible refine Below.drew ?_)))) (by have := HLN.out; omega) ?_
      intro g1 c1_ w6 own6 gr6 eg6 lt6
      have HG6 : Hid (W5.heap.size ≤ g1 ∧ g1 < w6.heap.size) := ⟨by simp at eg6; omega, lt6⟩
      have hb6 : Below W5.heap.size W5 w6 := Below.grown (by repeat (first | (with_reducible assumption) | (with_reducible exact Below.refl _ _) | (with_reducible refine boxed ?_ _) | (with_reducible refine Below.drew ?_))) gr6 (by simp <;> omega) (fun j hj => by simp at hj; omega)
      have c86 := cell_later hb6 c85
      have f86 := free_later hb6 f85 l5
      have RB6 := RB5.later hb6
      have v0' := RB6.cell 0 _ rfl
      have v1' := RB6.cell 1 _ rfl
      have v2' := RB6.cell 2 _ rfl
      have v3' := RB6.cell 3 _ rfl
      have v4' := RB6.cell 4 _ rfl
      have v5' := RB6.cell 5 _ rfl
      have v6' := RB6.cell 6 _ rfl
      have v7' := RB6.cell 7 _ rfl
      have v8' := RB6.cell 8 _ rfl
      have RZ6 : RowL w6 W5.heap.size (txC ⟨⟨site, seq, wall, count, d0, d1, d2, d3, ws⟩, ta, tc⟩) := (((RowL.new (w := W5) (T := 44) [.int .i64 site, .int .i64 seq, .int .i64 wall, .int .i64 count, .int .i64 d0, .int .i64 d1, .int .i64 d2, .int .i64 d3, .slice ta ws.length tc] rfl).boxed (.cells #[] 44)).drew).grown gr6 (fun e => by simp at e <;> omega))
   | (refine step_append_txs _ rfl (.tmp 105) (.tmp 107) rfl (by simp [Act.eval]) (own6.alloc (.cells #[.int .i64 site, .int .i64 seq, .int .i64 wall, .int .i64 count, .int .i64 d0, .int .i64 d1, .int .i64 d2, .int .i64 d3, .slice ta ws.length tc] 44)) (sa := some ⟨w6.heap.size, 0, none⟩) (c := 1) (l := [⟨⟨site, seq, wall, count, d0, d1, d2, d3, ws⟩, ta, tc⟩]) (by simp [Act.eval]) (TxsIn.one (RowL.new (w := w6) (T := 44) [.int .i64 site, .int .i64 seq, .int .i64 wall, .int .i64 count, .int .i64 d0, .int .i64 d1, .int .i64 d2, .int .i64 d3, .slice ta ws.length tc] rfl)) (by have := HLN.out; simp; omega) ?_
      intro g2 c2_ w7 own7 gr7 eg7 lt7
      have hb7 : Below W5.heap.size W5 w7 := Below.grown (boxed hb6 (.cells #[.int .i64 site, .int .i64 seq, .int .i64 wall, .int .i64 count, .int .i64 d0, .int .i64 d1, .int .i64 d2, .int .i64 d3, .slice ta ws.length tc] 44)) gr7 (by have := hb6.size; simp; omega) (fun j hj => by have := HG6.out; simp at hj; omega)
      have HG7 : Hid (W5.heap.size ≤ g2 ∧ g2 < w7.heap.size) := ⟨by have := HG6.out; have := hb6.size; simp at eg7; omega, lt7⟩
      have c87 := cell_later hb7 c85
      have f87 := free_later hb7 f85 l5)
   | (refine step_append_txs _ rfl (.tmp 105) (.tmp 107) rfl (by simp [Act.eval]) own6 (c := 1) (l := [⟨⟨site, seq, wall, count, d0, d1, d2, d3, ws⟩, ta, tc⟩]) (by simp [Act.eval]) (TxsIn.one RZ6) (by have := HLN.out; simp; omega) ?_
      intro g2 c2_ w7 own7 gr7 eg7 lt7
      have hb7 : Below W5.heap.size W5 w7 := Below.grown hb6 gr7 hb6.size (fun j hj => by have := HG6.out; simp at hj; omega)
      have HG7 : Hid (W5.heap.size ≤ g2 ∧ g2 < w7.heap.size) := ⟨by have := HG6.out; have := hb6.size; omega, lt7⟩
      have c87 := cell_later hb7 c85
      have f87 := free_later hb7 f85 l5))
  all_goals
    refine HR.out _ _ _ _ _ _ _ _ _ _ _ _ w7 g2 c2_ hb7 HG7.out.1 HG7.out.2 ?_
    rw [Nat.zero_add, List.nil_append] at own7
    exact own7

end Go.Proofs.YtpncedpfoakfkaaGreatDoor
