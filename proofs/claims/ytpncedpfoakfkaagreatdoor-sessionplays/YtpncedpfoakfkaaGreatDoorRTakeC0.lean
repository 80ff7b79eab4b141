/-
  One of those that wait is taken out, at a site of the document (copseref.Site.Take): 's.Waits = append(append([]api.Tx{}, s.Waits[:best]...), s.Waits[best+1:]...)', as the model runs it, whatever the rest of the frame is.
-/
import Derived.Test.YtpncedpfoakfkaaGreatDoorSiteI
namespace Go.Proofs.YtpncedpfoakfkaaGreatDoor
open Go.RowKit

noncomputable def takeR26 : Code := ((Tryz.f12.body.bind (findRegion 26)).getD .skip)
theorem free_later' {w w' : World} {p : Addr} (hb : Below w.heap.size w w') (h : w.frozen? p = false) (hl : p.block < w.heap.size) : w'.frozen? p = false := by rw [hb.frozen hl]; exact h
theorem txsC_append (l l' : List TxM) : txsC (l ++ l') = txsC l ++ txsC l' := by simp [txsC]

set_option maxRecDepth 1000000 in
set_option maxHeartbeats 16000000 in
theorem takeR26_any {b : Nat} {z : Int} {i : Nat} {wb off vc : Nat} {waits : List TxM} {y1 y2 y3 y4 y5 y6 y7 y9 y10 y11 y12 y13 y14 y15 y16 y17 y18 y19 y20 y21 y22 y23 y24 y25 y26 y27 y28 y29 y30 y31 y32 y33 y34 y35 y36 y37 y38 y39 y40 y41 y42 y43 y44 y45 y46 y47 y48 y49 y50 y51 y52 y53 y54 y55 y56 y57 y58 y59 y60 y61 y62 y63 y64 y65 y66 y67 y68 y69 y70 y71 y72 y73 y74 y75 y76 y77 y78 y79 y80 y81 y82 y83 y84 y85 y86 y87 y88 y89 y90 y91 y92 y93 y94 y95 y96 y97 y98 y99 y100 y101 y102 y103 y104 y105 y106 y107 y108 y109 y110 y111 y112 y113 y114 y115 y116 y117 y118 y119 y120 y121 y122 y123 y124 y125 y126 y127 y128 y129 y130 y131 y132 y133 y134 y135 y136 y137 y138 y139 y140 y141 y142 y143 y144 y145 y146 y147 y148 y149 y150 y151 y152 y153 y154 y155 y156 y157 y158 y159 y160 y161 y162 y163 y164 y165 y166 y167 y168 y169 y170 y171 y172 y173 y174 y175 y176 y177 y178 y179 y180 y181 y182 y183 y184 y185 y186 y187 y188 y189 y190 y191 y192 y193 y194 y195 y196 : Value} (W5 : World) (HV5 : Hid (TxsIn W5 (some ⟨wb, off, none⟩) vc waits)) (HLN : Hid (waits.length ≤ 1000)) (HZ : Hid (z = i ∧ i < waits.length))
    (c85 : W5.cell? ⟨b, 8, none⟩ = some (.slice (some ⟨wb, off, none⟩) waits.length vc)) (f85 : W5.frozen? ⟨b, 8, none⟩ = false) (R : Act → World → Prop)
    (hR : ∀ (u175 u176 u177 u178 u179 u180 u181 u182 u183 u184 u185 u186 u187 u188 u189 u190 u191 u192 u193 : Value) (w7 : World) (g2 c2 n2 : Nat), Below W5.heap.size W5 w7 → W5.heap.size ≤ g2 → g2 < w7.heap.size → n2 = (waits.take i ++ waits.drop (i + 1)).length → w7.ownsRow 0 44 9 (.slice (some ⟨g2, 0, none⟩) n2 c2) n2 (txsC (waits.take i ++ waits.drop (i + 1))) → R ⟨List.toArray ((.pointer (some ⟨b, 0, none⟩)) :: y1 :: y2 :: y3 :: y4 :: y5 :: y6 :: y7 :: (.int .i64 z) :: y9 :: y10 :: y11 :: y12 :: y13 :: y14 :: y15 :: y16 :: y17 :: y18 :: y19 :: y20 :: y21 :: y22 :: y23 :: y24 :: y25 :: y26 :: y27 :: y28 :: y29 :: y30 :: y31 :: y32 :: y33 :: y34 :: y35 :: y36 :: y37 :: y38 :: y39 :: y40 :: y41 :: y42 :: y43 :: y44 :: y45 :: y46 :: y47 :: y48 :: y49 :: y50 :: y51 :: y52 :: y53 :: y54 :: y55 :: y56 :: y57 :: y58 :: y59 :: y60 :: y61 :: y62 :: y63 :: y64 :: y65 :: y66 :: y67 :: y68 :: y69 :: y70 :: y71 :: y72 :: y73 :: y74 :: y75 :: y76 :: y77 :: y78 :: y79 :: y80 :: y81 :: y82 :: y83 :: y84 :: y85 :: y86 :: y87 :: y88 :: y89 :: y90 :: y91 :: y92 :: y93 :: y94 :: y95 :: y96 :: y97 :: y98 :: y99 :: y100 :: y101 :: y102 :: y103 :: y104 :: y105 :: y106 :: y107 :: y108 :: y109 :: y110 :: y111 :: y112 :: y113 :: y114 :: y115 :: y116 :: y117 :: y118 :: y119 :: y120 :: y121 :: y122 :: y123 :: y124 :: y125 :: y126 :: y127 :: y128 :: y129 :: y130 :: y131 :: y132 :: y133 :: y134 :: y135 :: y136 :: y137 :: y138 :: y139 :: y140 :: y141 :: y142 :: y143 :: y144 :: y145 :: y146 :: y147 :: y148 :: y149 :: y150 :: y151 :: y152 :: y153 :: y154 :: y155 :: y156 :: y157 :: y158 :: y159 :: y160 :: y161 :: y162 :: y163 :: y164 :: y165 :: y166 :: y167 :: y168 :: y169 :: y170 :: y171 :: y172 :: y173 :: y174 :: u175 :: u176 :: u177 :: u178 :: u179 :: u180 :: u181 :: u182 :: u183 :: u184 :: u185 :: u186 :: u187 :: u188 :: u189 :: u190 :: u191 :: u192 :: u193 :: y194 :: y195 :: y196 :: []), []⟩ (w7.setCell ⟨b, 8, none⟩ (.slice (some ⟨g2, 0, none⟩) n2 c2))) :
    Code.wp Tryz.prog takeR26 (Exit.then R (fun _ _ _ => False)) ⟨List.toArray ((.pointer (some ⟨b, 0, none⟩)) :: y1 :: y2 :: y3 :: y4 :: y5 :: y6 :: y7 :: (.int .i64 z) :: y9 :: y10 :: y11 :: y12 :: y13 :: y14 :: y15 :: y16 :: y17 :: y18 :: y19 :: y20 :: y21 :: y22 :: y23 :: y24 :: y25 :: y26 :: y27 :: y28 :: y29 :: y30 :: y31 :: y32 :: y33 :: y34 :: y35 :: y36 :: y37 :: y38 :: y39 :: y40 :: y41 :: y42 :: y43 :: y44 :: y45 :: y46 :: y47 :: y48 :: y49 :: y50 :: y51 :: y52 :: y53 :: y54 :: y55 :: y56 :: y57 :: y58 :: y59 :: y60 :: y61 :: y62 :: y63 :: y64 :: y65 :: y66 :: y67 :: y68 :: y69 :: y70 :: y71 :: y72 :: y73 :: y74 :: y75 :: y76 :: y77 :: y78 :: y79 :: y80 :: y81 :: y82 :: y83 :: y84 :: y85 :: y86 :: y87 :: y88 :: y89 :: y90 :: y91 :: y92 :: y93 :: y94 :: y95 :: y96 :: y97 :: y98 :: y99 :: y100 :: y101 :: y102 :: y103 :: y104 :: y105 :: y106 :: y107 :: y108 :: y109 :: y110 :: y111 :: y112 :: y113 :: y114 :: y115 :: y116 :: y117 :: y118 :: y119 :: y120 :: y121 :: y122 :: y123 :: y124 :: y125 :: y126 :: y127 :: y128 :: y129 :: y130 :: y131 :: y132 :: y133 :: y134 :: y135 :: y136 :: y137 :: y138 :: y139 :: y140 :: y141 :: y142 :: y143 :: y144 :: y145 :: y146 :: y147 :: y148 :: y149 :: y150 :: y151 :: y152 :: y153 :: y154 :: y155 :: y156 :: y157 :: y158 :: y159 :: y160 :: y161 :: y162 :: y163 :: y164 :: y165 :: y166 :: y167 :: y168 :: y169 :: y170 :: y171 :: y172 :: y173 :: y174 :: y175 :: y176 :: y177 :: y178 :: y179 :: y180 :: y181 :: y182 :: y183 :: y184 :: y185 :: y186 :: y187 :: y188 :: y189 :: y190 :: y191 :: y192 :: y193 :: y194 :: y195 :: y196 :: []), []⟩ W5 := by
  have l5 : (⟨b, 8, none⟩ : Addr).block < W5.heap.size := World.block_lt_of_cell? _ _ c85
  have l5' : b < W5.heap.size := l5
  have hvl := HV5.out.len
  have hvc := HV5.out.cap
  have z0 : 0 ≤ z := by have := HZ.out; omega
  have z1 : z.toNat = i := by have := HZ.out; omega
  have z2 : z < (waits.length : Int) := by have := HZ.out; omega
  have z3 : z ≤ (waits.length : Int) := by omega
  have z4 : (z + 1) ≤ (waits.length : Int) := by omega
  have z5 : 0 ≤ z + 1 := by omega
  have z6 : (z + 1).toNat = i + 1 := by omega
  have z7 : z ≤ (vc : Int) := by omega
  have hlen := HLN.out
  have hwz : IntKind.i64.wrap (z + 1) = z + 1 := by unfold IntKind.wrap; simp [IntKind.signed, IntKind.bits]; omega
  have HR : Hid _ := hR
  clear hR hlen
  conv => arg 2; whnf
  by_cases hvz : vc = i + 1
  · subst hvz
    have z8 : z ≤ (i : Int) + 1 := by omega
    go_region_law (first
     | (refine step_append_txs _ rfl (.tmp 176) (.tmp 182) rfl (g := W5.heap.size) (n := 0) (cap := 0) (xs := []) (by simp [Act.eval, Act.put]) (own_none9 W5 44 rfl) (sa := some ⟨wb, off, none⟩) (c := i + 1) (l := waits.take i) (by simp [Act.eval, Act.put] <;> omega) ((HV5.out.take i (by have := HZ.out; omega)).later (by repeat (first | (with_reducible assumption) | (with_reducible exact Below.refl _ _) | (with_reducible refine boxed ?_ _) | (with_reducible refine Below.drew ?_)))) (by have := HLN.out; simp; omega) ?_
        intro g1 c1_ w6 own6 gr6 eg6 lt6
        have HG6 : Hid (W5.heap.size ≤ g1 ∧ g1 < w6.heap.size) := ⟨by simp at eg6; omega, lt6⟩
        have hb6 : Below W5.heap.size W5 w6 := Below.grown (by repeat (first | (with_reducible assumption) | (with_reducible exact Below.refl _ _) | (with_reducible refine boxed ?_ _) | (with_reducible refine Below.drew ?_))) gr6 (by simp <;> omega) (fun j hj => by simp at hj; omega)
        have c86 := cell_later hb6 c85
        have f86 := free_later' hb6 f85 l5)
     | (refine step_append_txs _ rfl (.tmp 183) (.tmp 190) rfl (by simp [Act.eval, Act.put]) own6 (sa := some ⟨wb, off, none⟩) (c := 0) (l := waits.drop (i + 1)) (by simp [Act.eval, Act.put] <;> omega) (⟨by simp; omega, by omega, .inl (List.drop_eq_nil_of_le (by omega))⟩) (by have := HLN.out; simp; omega) ?_
        intro g2 c2_ w7 own7 gr7 eg7 lt7
        have hb7 : Below W5.heap.size W5 w7 := Below.grown hb6 gr7 hb6.size (fun j hj => by have := HG6.out; simp at hj; omega)
        have HG7 : Hid (W5.heap.size ≤ g2 ∧ g2 < w7.heap.size) := ⟨by have := HG6.out; have := hb6.size; omega, lt7⟩
        have c87 := cell_later hb7 c85
        have f87 := free_later' hb7 f85 l5))
    all_goals
      refine HR.out _ _ _ _ _ _ _ _ _ _ _ _ _ _ _ _ _ _ _ w7 g2 c2_ _ hb7 HG7.out.1 HG7.out.2 ?_ ?_
      · simp <;> omega
      · rw [List.nil_append, ← txsC_append] at own7
        have e9 : ∀ n, n = 0 + (waits.take i).length + (waits.drop (i + 1)).length → w7.ownsRow 0 44 9 (.slice (some ⟨g2, 0, none⟩) n c2_) n (txsC (waits.take i ++ waits.drop (i + 1))) := fun n hn => by subst hn; exact own7
        exact e9 _ (by simp <;> omega)
  · skip
    go_region_law (first
     | (refine step_append_txs _ rfl (.tmp 176) (.tmp 182) rfl (g := W5.heap.size) (n := 0) (cap := 0) (xs := []) (by simp [Act.eval, Act.put]) (own_none9 W5 44 rfl) (sa := some ⟨wb, off, none⟩) (c := vc) (l := waits.take i) (by simp [Act.eval, Act.put] <;> omega) ((HV5.out.take i (by have := HZ.out; omega)).later (by repeat (first | (with_reducible assumption) | (with_reducible exact Below.refl _ _) | (with_reducible refine boxed ?_ _) | (with_reducible refine Below.drew ?_)))) (by have := HLN.out; simp; omega) ?_
        intro g1 c1_ w6 own6 gr6 eg6 lt6
        have HG6 : Hid (W5.heap.size ≤ g1 ∧ g1 < w6.heap.size) := ⟨by simp at eg6; omega, lt6⟩
        have hb6 : Below W5.heap.size W5 w6 := Below.grown (by repeat (first | (with_reducible assumption) | (with_reducible exact Below.refl _ _) | (with_reducible refine boxed ?_ _) | (with_reducible refine Below.drew ?_))) gr6 (by simp <;> omega) (fun j hj => by simp at hj; omega)
        have c86 := cell_later hb6 c85
        have f86 := free_later' hb6 f85 l5)
     | (refine step_append_txs _ rfl (.tmp 183) (.tmp 190) rfl (by simp [Act.eval, Act.put]) own6 (sa := some ⟨wb, off + (i + 1) * 9, none⟩) (c := vc - (i + 1)) (l := waits.drop (i + 1)) (by simp [Act.eval, Act.put] <;> omega) ((HV5.out.drop (i + 1) (by have := HZ.out; omega)).later hb6) (by have := HLN.out; simp; omega) ?_
        intro g2 c2_ w7 own7 gr7 eg7 lt7
        have hb7 : Below W5.heap.size W5 w7 := Below.grown hb6 gr7 hb6.size (fun j hj => by have := HG6.out; simp at hj; omega)
        have HG7 : Hid (W5.heap.size ≤ g2 ∧ g2 < w7.heap.size) := ⟨by have := HG6.out; have := hb6.size; omega, lt7⟩
        have c87 := cell_later hb7 c85
        have f87 := free_later' hb7 f85 l5))
    all_goals
      refine HR.out _ _ _ _ _ _ _ _ _ _ _ _ _ _ _ _ _ _ _ w7 g2 c2_ _ hb7 HG7.out.1 HG7.out.2 ?_ ?_
      · simp <;> omega
      · rw [List.nil_append, ← txsC_append] at own7
        have e9 : ∀ n, n = 0 + (waits.take i).length + (waits.drop (i + 1)).length → w7.ownsRow 0 44 9 (.slice (some ⟨g2, 0, none⟩) n c2_) n (txsC (waits.take i ++ waits.drop (i + 1))) := fun n hn => by subst hn; exact own7
        exact e9 _ (by simp <;> omega)

end Go.Proofs.YtpncedpfoakfkaaGreatDoor
