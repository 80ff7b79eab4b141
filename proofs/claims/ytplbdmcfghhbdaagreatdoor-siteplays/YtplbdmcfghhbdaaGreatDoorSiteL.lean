/-
  'copselaw.SitePlays': what its walk stands on besides: the sites at first; how many wait; the step that is asked.
  The switch of a round of 'copselaw.SitePlays': what its arms stand on.
  The switch of a round of 'copselaw.SitePlays': a commit, as the model runs it, whatever the rest of the frame is.
  The switch of a round of 'copselaw.SitePlays': a transaction that comes, as the model runs it, whatever the rest of the frame is.
  The switch of a round of 'copselaw.SitePlays': of no site, as the model runs it, whatever the rest of the frame is.
-/
import Derived.Test.YtplbdmcfghhbdaaGreatDoorSiteLaw
namespace Go.Proofs.YtplbdmcfghhbdaaGreatDoor
open Go.RowKit

theorem goes_waits {S S' : SiteS} (h : Goes S S') : S'.waits.length ≤ S.waits.length := by
  induction h with
  | full _ => exact Nat.le_refl _
  | none _ => exact Nat.le_refl _
  | step _ _ _ ih =>
    refine Nat.le_trans ih ?_
    exact List.length_filter_le _ _
theorem takes_waits {S S' : SiteS} {t : TxP} (h : TakesTo S t S') : S'.waits.length ≤ S.waits.length + 1 := by
  rcases h with ⟨_, rfl⟩ | ⟨_, h⟩
  · omega
  · have := goes_waits h
    simpa using this
theorem comS_inv {S : SiteS} {now d0 d1 d2 d3 : Int} {ws : List Wr} (hI : InvS S) : InvS (comS S now d0 d1 d2 d3 ws) := by
  unfold comS
  split
  · rename_i h
    exact (commitT_ok hI h).1
  · exact hI
theorem comS_waits {S : SiteS} {now d0 d1 d2 d3 : Int} {ws : List Wr} : (comS S now d0 d1 d2 d3 ws).waits = S.waits := by
  unfold comS
  split <;> rfl

/-- a site of the document that is new -/
theorem rnew {w : World} {id : Int} (T : TypeId) (vs : List Value) (hvs : vs = siteC (newS id) (.slice none 0 0) (.slice none 0 0) (.slice none 0 0)) : RS (w.alloc (.cells vs.toArray T)) w.heap.size (fun k => k = w.heap.size) (newS id) := by
  have B := RowL.new (w := w) (T := T) vs rfl
  rw [hvs] at B ⊢
  refine ⟨.slice none 0 0, .slice none 0 0, .slice none 0 0, [], [], ⟨B, World.ownsRow_nil _ _ _ _, World.ownsRow_nil _ _ _ _, World.ownsRow_nil _ _ _ _, fun h hh => (by cases hh), by simp [Value.ownBlock], by simp [Value.ownBlock], by simp [Value.ownBlock], by simp [Value.ownBlock], by simp [Value.ownBlock], by simp [Value.ownBlock], fun m hm => (by cases hm)⟩, rfl, rfl, fun k => ⟨fun h => .inl (.inl h), fun h => ?_⟩⟩
  rcases h with (h | h | h | h) | ⟨m, hm, _⟩
  · exact h
  · simp [Value.ownBlock] at h
  · simp [Value.ownBlock] at h
  · simp [Value.ownBlock] at h
  · cases hm
/-- both, at first -/
theorem two_init' {w w1 : World} {id : Int} (T : TypeId) (vs : List Value) (hvs : vs = siteC (newS id) (.slice none 0 0) (.slice none 0 0) (.slice none 0 0)) (hP : PS w1 (w.heap.size + 1) (fun k => k = w.heap.size + 1 ∨ k = w.heap.size) (newS id)) :
    TwoS (w1.alloc (.cells vs.toArray T)) (w.heap.size + 1) w1.heap.size (newS id) (newS id) (fun j => j < w.heap.size) NoB := by
  have hl : w.heap.size + 1 < w1.heap.size := hP.lt _ (.inl rfl)
  refine ⟨_, _, hP.later (boxed (Below.refl _ w1) _), rnew T vs hvs, fun k hk e => ?_, fun k hk => ⟨?_, fun e => ?_, fun e => ?_⟩, fun k hk => hk.elim⟩
  · have e' : k = w1.heap.size := e
    rcases hk with h | h <;> omega
  · simp; omega
  · rcases e with h | h <;> omega
  · have e' : k = w1.heap.size := e
    omega
/-- behind the switch: both sites, the step's box -/
def MidS (bp br k xb : Nat) (xs : List Value) (w wc : World) : Prop :=
  ∃ S, TwoS wc bp br S S (fun j => j < w.heap.size ∨ j = xb) NoB ∧ RowL wc xb xs ∧ Hid (InvS S ∧ S.waits.length ≤ k + 1) ∧ Below w.heap.size w wc
theorem Keeps.undrew' {X : Nat → Prop} {w w' : World} (h : Keeps X w.drew w') : Keeps X w w' := ⟨h.os, h.tape, h.output, h.size, h.block⟩

end Go.Proofs.YtplbdmcfghhbdaaGreatDoor

namespace Go.Proofs.YtplbdmcfghhbdaaGreatDoor
open Go.RowKit

/-- a function's block, by its number -/
def findBlock (n : Nat) : Code → Option Code
  | .block id c => if id = n then some (.block id c) else findBlock n c
  | .seq x y => match findBlock n x with
    | some c => some c
    | none => findBlock n y
  | .loop c => findBlock n c
  | .cond _ x y => match findBlock n x with
    | some c => some c
    | none => findBlock n y
  | _ => none
noncomputable def playsSw : Code := ((Tryz.f3.body.bind (findBlock 2)).getD .skip)
/-- the step's box, and the document's -/
structure MidH (xb br : Nat) (xs rs : List Value) (w : World) : Prop where
  x : RowL w xb xs
  r : RowL w br rs
theorem MidH.later {xb br : Nat} {xs rs : List Value} {w w' : World} (h : MidH xb br xs rs w) (hb : Below w.heap.size w w') : MidH xb br xs rs w' := ⟨h.x.later hb, h.r.later hb⟩
/-- the step's box, and what the document's site has applied -/
structure MidA (xb br : Nat) (xs : List Value) (a0 a1 a2 a3 : Int) (w : World) : Prop where
  x : RowL w xb xs
  k1 : w.cell? ⟨br, 1, none⟩ = some (.int .i64 a0)
  k2 : w.cell? ⟨br, 2, none⟩ = some (.int .i64 a1)
  k3 : w.cell? ⟨br, 3, none⟩ = some (.int .i64 a2)
  k4 : w.cell? ⟨br, 4, none⟩ = some (.int .i64 a3)
theorem MidA.later {xb br : Nat} {xs : List Value} {a0 a1 a2 a3 : Int} {w w' : World} (h : MidA xb br xs a0 a1 a2 a3 w) (hb : Below w.heap.size w w') : MidA xb br xs a0 a1 a2 a3 w' := ⟨h.x.later hb, cell_later hb h.k1, cell_later hb h.k2, cell_later hb h.k3, cell_later hb h.k4⟩
theorem TwoS.midA {w : World} {bp br xb : Nat} {xs : List Value} {Sp Sr : SiteS} {X Y : Nat → Prop} (h : TwoS w bp br Sp Sr X Y) (hx : RowL w xb xs) : MidA xb br xs Sr.a0 Sr.a1 Sr.a2 Sr.a3 w := by
  obtain ⟨lv, va, vc, sa, sc, R, _, _⟩ := h.box
  exact ⟨hx, R.cell 1 _ rfl, R.cell 2 _ rfl, R.cell 3 _ rfl, R.cell 4 _ rfl⟩
theorem oth_at0 {w : World} {br k : Nat} {S : SiteS} {lv wv sv : Value} (h : RowL w br (siteC S lv wv sv)) (hk : k < 4) : w.cell? ⟨br, 10 + k * 4, none⟩ = some (.int .i64 (S.oth (k * 4))) := h.cell _ _ (by match k, hk with | 0, _ => rfl | 1, _ => rfl | 2, _ => rfl | 3, _ => rfl)
theorem oth_at1 {w : World} {br k : Nat} {S : SiteS} {lv wv sv : Value} (h : RowL w br (siteC S lv wv sv)) (hk : k < 4) : w.cell? ⟨br, 10 + k * 4 + 1, none⟩ = some (.int .i64 (S.oth (k * 4 + 1))) := h.cell _ _ (by match k, hk with | 0, _ => rfl | 1, _ => rfl | 2, _ => rfl | 3, _ => rfl)
theorem oth_at2 {w : World} {br k : Nat} {S : SiteS} {lv wv sv : Value} (h : RowL w br (siteC S lv wv sv)) (hk : k < 4) : w.cell? ⟨br, 10 + k * 4 + 2, none⟩ = some (.int .i64 (S.oth (k * 4 + 2))) := h.cell _ _ (by match k, hk with | 0, _ => rfl | 1, _ => rfl | 2, _ => rfl | 3, _ => rfl)
theorem oth_at3 {w : World} {br k : Nat} {S : SiteS} {lv wv sv : Value} (h : RowL w br (siteC S lv wv sv)) (hk : k < 4) : w.cell? ⟨br, 10 + k * 4 + 3, none⟩ = some (.int .i64 (S.oth (k * 4 + 3))) := h.cell _ _ (by match k, hk with | 0, _ => rfl | 1, _ => rfl | 2, _ => rfl | 3, _ => rfl)

end Go.Proofs.YtplbdmcfghhbdaaGreatDoor

namespace Go.Proofs.YtplbdmcfghhbdaaGreatDoor
open Go.RowKit

set_option maxRecDepth 1000000 in
set_option maxHeartbeats 16000000 in
theorem playsSw_0 {bp br k xb : Nat} {S : SiteS} {n b0 b1 b2 b3 site seq wall count d0 d1 d2 d3 : Int} {ws : List Wr} {ta : Option Addr} {tcap : Nat} {y0 y1 y2 y3 y4 y5 y6 y8 y10 y12 y13 y14 y15 y16 y17 y18 y19 y20 y21 y22 y23 y24 y25 y26 y27 y28 y29 y30 y31 y32 y33 y34 y35 y36 y37 y38 y39 y40 y41 y42 y43 y44 y45 y46 y47 y48 y49 y50 y51 y52 y53 y54 y55 y56 y57 y58 y59 y60 y61 y62 y63 y64 y66 y67 y68 y69 y70 y71 y72 y73 y74 y75 y76 y77 y78 y79 y80 y81 y82 y83 y84 y85 y86 y87 y88 y89 y90 y91 y92 y93 y94 y95 y96 y97 y98 y99 y100 y101 y102 y103 y104 y105 y106 y107 y108 y109 y110 y111 y112 y113 y114 y115 y116 y117 y118 y119 y120 y121 y122 y123 y124 y125 y126 y127 y128 y129 y130 y131 y132 y133 y134 y135 y136 y137 y138 y139 y140 y141 y142 y143 y144 y145 y146 y147 y148 y149 y150 y151 y152 y153 y154 y155 y156 y157 y158 y159 y160 y161 y162 y163 y164 y165 y166 y167 y168 y169 y170 y171 y172 y173 y174 y175 y176 y177 y178 y179 y180 y181 y182 y183 y184 y185 y186 y187 y188 y189 y190 y191 y192 y193 y194 y195 y196 y197 y198 y199 y200 y201 y202 y203 y204 y205 y206 y207 y208 y209 y210 y211 y212 y213 y214 y215 y216 y217 y218 y219 y220 y221 y222 y223 y224 y225 y226 y227 y228 y229 y230 y231 y232 y233 y234 y235 y236 y237 y238 y239 y240 y241 y242 y243 y244 y245 y246 y247 y248 y249 y250 y251 y252 y253 y254 y255 y256 y257 : Value} (w w2 : World) (T2 : TwoS w2 bp br S S (fun j => j < w.heap.size ∨ j = xb) NoB) (RX2 : RowL w2 xb [.int .i64 0, .int .i64 n, .int .i64 b0, .int .i64 b1, .int .i64 b2, .int .i64 b3, .int .i64 site, .int .i64 seq, .int .i64 wall, .int .i64 count, .int .i64 d0, .int .i64 d1, .int .i64 d2, .int .i64 d3, .slice ta ws.length tcap]) (hb2 : Below w.heap.size w w2) (HI : Hid (InvS S ∧ S.waits.length ≤ k)) (HK70 : Hid (k ≤ 70))
    (HWk : Hid (WrIn w ta tcap ws)) (HAk : Hid (∀ k off, ws ≠ [] → ta = some ⟨k, off, none⟩ → k < w.heap.size)) (HG : Hid (w.cell? ⟨0, 0, none⟩ = some (.iface 186 (.agg #[.pointer (some ⟨1, 25, none⟩)])))) (R : Act → World → Prop)
    (hR : ∀ (u12 u13 u14 u15 u16 u66 u67 u68 u69 u70 u71 u72 u73 u74 u75 u76 u77 u78 u79 u80 u81 u82 u83 u84 u85 u86 u87 u88 u89 u90 u91 u92 u93 u94 u95 u96 u97 u98 u99 u100 u101 u102 u103 u104 u105 u106 u107 u108 u109 u110 u111 u112 u113 u114 u115 u116 u117 u118 u119 u120 u121 u122 u123 u124 u125 u126 u127 u128 u129 u130 u131 u132 u133 u134 u135 u136 u137 u138 u139 u140 u141 u142 u143 u144 u145 u146 u147 u148 u149 u150 u151 u152 u153 u154 u155 u156 u157 u158 u159 u160 u161 u162 u163 u164 u165 : Value) (wc : World), MidS bp br k xb [.int .i64 0, .int .i64 n, .int .i64 b0, .int .i64 b1, .int .i64 b2, .int .i64 b3, .int .i64 site, .int .i64 seq, .int .i64 wall, .int .i64 count, .int .i64 d0, .int .i64 d1, .int .i64 d2, .int .i64 d3, .slice ta ws.length tcap] w wc → R ⟨List.toArray (y0 :: y1 :: y2 :: y3 :: y4 :: y5 :: y6 :: (.pointer (some ⟨bp, 0, none⟩)) :: y8 :: (.pointer (some ⟨br, 0, none⟩)) :: y10 :: (.pointer (some ⟨xb, 0, none⟩)) :: u12 :: u13 :: u14 :: u15 :: u16 :: y17 :: y18 :: y19 :: y20 :: y21 :: y22 :: y23 :: y24 :: y25 :: y26 :: y27 :: y28 :: y29 :: y30 :: y31 :: y32 :: y33 :: y34 :: y35 :: y36 :: y37 :: y38 :: y39 :: y40 :: y41 :: y42 :: y43 :: y44 :: y45 :: y46 :: y47 :: y48 :: y49 :: y50 :: y51 :: y52 :: y53 :: y54 :: y55 :: y56 :: y57 :: y58 :: y59 :: y60 :: y61 :: y62 :: y63 :: y64 :: (.int .i64 0) :: u66 :: u67 :: u68 :: u69 :: u70 :: u71 :: u72 :: u73 :: u74 :: u75 :: u76 :: u77 :: u78 :: u79 :: u80 :: u81 :: u82 :: u83 :: u84 :: u85 :: u86 :: u87 :: u88 :: u89 :: u90 :: u91 :: u92 :: u93 :: u94 :: u95 :: u96 :: u97 :: u98 :: u99 :: u100 :: u101 :: u102 :: u103 :: u104 :: u105 :: u106 :: u107 :: u108 :: u109 :: u110 :: u111 :: u112 :: u113 :: u114 :: u115 :: u116 :: u117 :: u118 :: u119 :: u120 :: u121 :: u122 :: u123 :: u124 :: u125 :: u126 :: u127 :: u128 :: u129 :: u130 :: u131 :: u132 :: u133 :: u134 :: u135 :: u136 :: u137 :: u138 :: u139 :: u140 :: u141 :: u142 :: u143 :: u144 :: u145 :: u146 :: u147 :: u148 :: u149 :: u150 :: u151 :: u152 :: u153 :: u154 :: u155 :: u156 :: u157 :: u158 :: u159 :: u160 :: u161 :: u162 :: u163 :: u164 :: u165 :: y166 :: y167 :: y168 :: y169 :: y170 :: y171 :: y172 :: y173 :: y174 :: y175 :: y176 :: y177 :: y178 :: y179 :: y180 :: y181 :: y182 :: y183 :: y184 :: y185 :: y186 :: y187 :: y188 :: y189 :: y190 :: y191 :: y192 :: y193 :: y194 :: y195 :: y196 :: y197 :: y198 :: y199 :: y200 :: y201 :: y202 :: y203 :: y204 :: y205 :: y206 :: y207 :: y208 :: y209 :: y210 :: y211 :: y212 :: y213 :: y214 :: y215 :: y216 :: y217 :: y218 :: y219 :: y220 :: y221 :: y222 :: y223 :: y224 :: y225 :: y226 :: y227 :: y228 :: y229 :: y230 :: y231 :: y232 :: y233 :: y234 :: y235 :: y236 :: y237 :: y238 :: y239 :: y240 :: y241 :: y242 :: y243 :: y244 :: y245 :: y246 :: y247 :: y248 :: y249 :: y250 :: y251 :: y252 :: y253 :: y254 :: y255 :: y256 :: y257 :: []), []⟩ wc) :
    Code.wp Tryz.prog playsSw (Exit.then R (fun _ _ _ => False)) ⟨List.toArray (y0 :: y1 :: y2 :: y3 :: y4 :: y5 :: y6 :: (.pointer (some ⟨bp, 0, none⟩)) :: y8 :: (.pointer (some ⟨br, 0, none⟩)) :: y10 :: (.pointer (some ⟨xb, 0, none⟩)) :: y12 :: y13 :: y14 :: y15 :: y16 :: y17 :: y18 :: y19 :: y20 :: y21 :: y22 :: y23 :: y24 :: y25 :: y26 :: y27 :: y28 :: y29 :: y30 :: y31 :: y32 :: y33 :: y34 :: y35 :: y36 :: y37 :: y38 :: y39 :: y40 :: y41 :: y42 :: y43 :: y44 :: y45 :: y46 :: y47 :: y48 :: y49 :: y50 :: y51 :: y52 :: y53 :: y54 :: y55 :: y56 :: y57 :: y58 :: y59 :: y60 :: y61 :: y62 :: y63 :: y64 :: (.int .i64 0) :: y66 :: y67 :: y68 :: y69 :: y70 :: y71 :: y72 :: y73 :: y74 :: y75 :: y76 :: y77 :: y78 :: y79 :: y80 :: y81 :: y82 :: y83 :: y84 :: y85 :: y86 :: y87 :: y88 :: y89 :: y90 :: y91 :: y92 :: y93 :: y94 :: y95 :: y96 :: y97 :: y98 :: y99 :: y100 :: y101 :: y102 :: y103 :: y104 :: y105 :: y106 :: y107 :: y108 :: y109 :: y110 :: y111 :: y112 :: y113 :: y114 :: y115 :: y116 :: y117 :: y118 :: y119 :: y120 :: y121 :: y122 :: y123 :: y124 :: y125 :: y126 :: y127 :: y128 :: y129 :: y130 :: y131 :: y132 :: y133 :: y134 :: y135 :: y136 :: y137 :: y138 :: y139 :: y140 :: y141 :: y142 :: y143 :: y144 :: y145 :: y146 :: y147 :: y148 :: y149 :: y150 :: y151 :: y152 :: y153 :: y154 :: y155 :: y156 :: y157 :: y158 :: y159 :: y160 :: y161 :: y162 :: y163 :: y164 :: y165 :: y166 :: y167 :: y168 :: y169 :: y170 :: y171 :: y172 :: y173 :: y174 :: y175 :: y176 :: y177 :: y178 :: y179 :: y180 :: y181 :: y182 :: y183 :: y184 :: y185 :: y186 :: y187 :: y188 :: y189 :: y190 :: y191 :: y192 :: y193 :: y194 :: y195 :: y196 :: y197 :: y198 :: y199 :: y200 :: y201 :: y202 :: y203 :: y204 :: y205 :: y206 :: y207 :: y208 :: y209 :: y210 :: y211 :: y212 :: y213 :: y214 :: y215 :: y216 :: y217 :: y218 :: y219 :: y220 :: y221 :: y222 :: y223 :: y224 :: y225 :: y226 :: y227 :: y228 :: y229 :: y230 :: y231 :: y232 :: y233 :: y234 :: y235 :: y236 :: y237 :: y238 :: y239 :: y240 :: y241 :: y242 :: y243 :: y244 :: y245 :: y246 :: y247 :: y248 :: y249 :: y250 :: y251 :: y252 :: y253 :: y254 :: y255 :: y256 :: y257 :: []), []⟩ w2 := by
  have HR : Hid (∀ (u12 u13 u14 u15 u16 u66 u67 u68 u69 u70 u71 u72 u73 u74 u75 u76 u77 u78 u79 u80 u81 u82 u83 u84 u85 u86 u87 u88 u89 u90 u91 u92 u93 u94 u95 u96 u97 u98 u99 u100 u101 u102 u103 u104 u105 u106 u107 u108 u109 u110 u111 u112 u113 u114 u115 u116 u117 u118 u119 u120 u121 u122 u123 u124 u125 u126 u127 u128 u129 u130 u131 u132 u133 u134 u135 u136 u137 u138 u139 u140 u141 u142 u143 u144 u145 u146 u147 u148 u149 u150 u151 u152 u153 u154 u155 u156 u157 u158 u159 u160 u161 u162 u163 u164 u165 : Value) (wc : World), MidS bp br k xb [.int .i64 0, .int .i64 n, .int .i64 b0, .int .i64 b1, .int .i64 b2, .int .i64 b3, .int .i64 site, .int .i64 seq, .int .i64 wall, .int .i64 count, .int .i64 d0, .int .i64 d1, .int .i64 d2, .int .i64 d3, .slice ta ws.length tcap] w wc → R ⟨List.toArray (y0 :: y1 :: y2 :: y3 :: y4 :: y5 :: y6 :: (.pointer (some ⟨bp, 0, none⟩)) :: y8 :: (.pointer (some ⟨br, 0, none⟩)) :: y10 :: (.pointer (some ⟨xb, 0, none⟩)) :: u12 :: u13 :: u14 :: u15 :: u16 :: y17 :: y18 :: y19 :: y20 :: y21 :: y22 :: y23 :: y24 :: y25 :: y26 :: y27 :: y28 :: y29 :: y30 :: y31 :: y32 :: y33 :: y34 :: y35 :: y36 :: y37 :: y38 :: y39 :: y40 :: y41 :: y42 :: y43 :: y44 :: y45 :: y46 :: y47 :: y48 :: y49 :: y50 :: y51 :: y52 :: y53 :: y54 :: y55 :: y56 :: y57 :: y58 :: y59 :: y60 :: y61 :: y62 :: y63 :: y64 :: (.int .i64 0) :: u66 :: u67 :: u68 :: u69 :: u70 :: u71 :: u72 :: u73 :: u74 :: u75 :: u76 :: u77 :: u78 :: u79 :: u80 :: u81 :: u82 :: u83 :: u84 :: u85 :: u86 :: u87 :: u88 :: u89 :: u90 :: u91 :: u92 :: u93 :: u94 :: u95 :: u96 :: u97 :: u98 :: u99 :: u100 :: u101 :: u102 :: u103 :: u104 :: u105 :: u106 :: u107 :: u108 :: u109 :: u110 :: u111 :: u112 :: u113 :: u114 :: u115 :: u116 :: u117 :: u118 :: u119 :: u120 :: u121 :: u122 :: u123 :: u124 :: u125 :: u126 :: u127 :: u128 :: u129 :: u130 :: u131 :: u132 :: u133 :: u134 :: u135 :: u136 :: u137 :: u138 :: u139 :: u140 :: u141 :: u142 :: u143 :: u144 :: u145 :: u146 :: u147 :: u148 :: u149 :: u150 :: u151 :: u152 :: u153 :: u154 :: u155 :: u156 :: u157 :: u158 :: u159 :: u160 :: u161 :: u162 :: u163 :: u164 :: u165 :: y166 :: y167 :: y168 :: y169 :: y170 :: y171 :: y172 :: y173 :: y174 :: y175 :: y176 :: y177 :: y178 :: y179 :: y180 :: y181 :: y182 :: y183 :: y184 :: y185 :: y186 :: y187 :: y188 :: y189 :: y190 :: y191 :: y192 :: y193 :: y194 :: y195 :: y196 :: y197 :: y198 :: y199 :: y200 :: y201 :: y202 :: y203 :: y204 :: y205 :: y206 :: y207 :: y208 :: y209 :: y210 :: y211 :: y212 :: y213 :: y214 :: y215 :: y216 :: y217 :: y218 :: y219 :: y220 :: y221 :: y222 :: y223 :: y224 :: y225 :: y226 :: y227 :: y228 :: y229 :: y230 :: y231 :: y232 :: y233 :: y234 :: y235 :: y236 :: y237 :: y238 :: y239 :: y240 :: y241 :: y242 :: y243 :: y244 :: y245 :: y246 :: y247 :: y248 :: y249 :: y250 :: y251 :: y252 :: y253 :: y254 :: y255 :: y256 :: y257 :: []), []⟩ wc) := hR
  clear hR
  have BR : Hid (∀ (n : Int) (w : World), w.cell? ⟨0, 0, none⟩ = some (.iface 186 (.agg #[.pointer (some ⟨1, 25, none⟩)])) → Calls Tryz.prog 6 #[errV n, .int .i64 n] w fun e w' => e = .returned (.bool true) ∧ Below w.heap.size w w') := fun n w h => sameErr_errV' n w h
  have : True := by have := HI; have := HK70; have := HWk; have := HAk; have := HG; have := BR; trivial
  clear this
  conv => arg 2; whnf
  have RC := RX2
  have c1 := RX2.cell 1 _ rfl
  have c2 := RX2.cell 2 _ rfl
  have c3 := RX2.cell 3 _ rfl
  have c4 := RX2.cell 4 _ rfl
  have c5 := RX2.cell 5 _ rfl
  have c14 := RX2.cell 14 _ rfl
  obtain ⟨⟨m0, m1, m2, m3, m4, m5, m6, m7, mws⟩, hct⟩ : ∃ t, comT S n b0 b1 b2 b3 ws = t := ⟨_, rfl⟩
  obtain ⟨ce, hce⟩ : ∃ ce, comE S n b0 b1 b2 b3 ws = ce := ⟨_, rfl⟩
  have CR := two_rcommit n b0 b1 b2 b3 T2 HI.out.1 (HWk.out.later hb2) (fun k off e1 e2 => .inl (HAk.out k off e1 e2))
  have HCS : Hid (InvS (comS S n b0 b1 b2 b3 ws) ∧ (comS S n b0 b1 b2 b3 ws).waits.length ≤ k + 1) := ⟨comS_inv HI.out.1, by rw [comS_waits]; have := HI.out.2; omega⟩
  go_wp2_with fail
  refine CR.mono ?_
  rintro e w3 ⟨⟨mt, ma, mc⟩, rfl, hmt, HH⟩
  rw [hct] at hmt
  simp only at hmt
  subst hmt
  rw [hce, show txV ⟨⟨m0, m1, m2, m3, m4, m5, m6, m7, mws⟩, ma, mc⟩ = .agg #[.int .i64 m0, .int .i64 m1, .int .i64 m2, .int .i64 m3, .int .i64 m4, .int .i64 m5, .int .i64 m6, .int .i64 m7, .slice ma mws.length mc] from rfl]
  have HH3 : Hid (WrIn w3 ma mc mws) := HH.out.1
  obtain ⟨_, T3, K3⟩ := HH.out
  have RX3 := RX2.keeps K3 (.inr rfl)
  have hb3 := hb2.trans (K3.below (fun j hj => .inl hj))
  have T4 := T3.new (.cells #[.int .i64 m0, .int .i64 m1, .int .i64 m2, .int .i64 m3, .int .i64 m4, .int .i64 m5, .int .i64 m6, .int .i64 m7, .slice ma mws.length mc] 44)
  have RX4 := RX3.boxed (.cells #[.int .i64 m0, .int .i64 m1, .int .i64 m2, .int .i64 m3, .int .i64 m4, .int .i64 m5, .int .i64 m6, .int .i64 m7, .slice ma mws.length mc] 44)
  have RM4 := RowL.new (w := w3) (T := 44) [.int .i64 m0, .int .i64 m1, .int .i64 m2, .int .i64 m3, .int .i64 m4, .int .i64 m5, .int .i64 m6, .int .i64 m7, .slice ma mws.length mc] rfl
  change RowL (w3.alloc (.cells #[.int .i64 m0, .int .i64 m1, .int .i64 m2, .int .i64 m3, .int .i64 m4, .int .i64 m5, .int .i64 m6, .int .i64 m7, .slice ma mws.length mc] 44)) w3.heap.size [.int .i64 m0, .int .i64 m1, .int .i64 m2, .int .i64 m3, .int .i64 m4, .int .i64 m5, .int .i64 m6, .int .i64 m7, .slice ma mws.length mc] at RM4
  have hb4 := boxed hb3 (.cells #[.int .i64 m0, .int .i64 m1, .int .i64 m2, .int .i64 m3, .int .i64 m4, .int .i64 m5, .int .i64 m6, .int .i64 m7, .slice ma mws.length mc] 44)
  have HM4 : Hid (WrIn (w3.alloc (.cells #[.int .i64 m0, .int .i64 m1, .int .i64 m2, .int .i64 m3, .int .i64 m4, .int .i64 m5, .int .i64 m6, .int .i64 m7, .slice ma mws.length mc] 44)) ma mc mws) := HH3.out.later (boxed (Below.refl _ w3) _)
  have CP := two_commit n b0 b1 b2 b3 T4 HI.out.1 (HWk.out.later hb4) (fun k off e1 e2 => .inl (.inl (HAk.out k off e1 e2)))
  clear c1 c2 c3 c4 c5 c14 HH K3 RX3 CR
  have c1 := RX4.cell 1 _ rfl
  have c2 := RX4.cell 2 _ rfl
  have c3 := RX4.cell 3 _ rfl
  have c4 := RX4.cell 4 _ rfl
  have c5 := RX4.cell 5 _ rfl
  have c14 := RX4.cell 14 _ rfl
  go_wp2_with fail
  refine CP.mono ?_
  rintro e w5 ⟨⟨pt, pa, pc⟩, rfl, hpt, HH5⟩
  rw [hct] at hpt
  simp only at hpt
  subst hpt
  rw [hce, show txV ⟨⟨m0, m1, m2, m3, m4, m5, m6, m7, mws⟩, pa, pc⟩ = .agg #[.int .i64 m0, .int .i64 m1, .int .i64 m2, .int .i64 m3, .int .i64 m4, .int .i64 m5, .int .i64 m6, .int .i64 m7, .slice pa mws.length pc] from rfl]
  have HP5 : Hid (WrIn w5 pa pc mws) := HH5.out.1
  obtain ⟨_, T5, K5⟩ := HH5.out
  have HM5 : Hid (WrIn w5 ma mc mws) := WrIn.kept (m := ⟨⟨m0, m1, m2, m3, m4, m5, m6, m7, mws⟩, ma, mc⟩) HM4.out (fun k hk => K5.block k (.inr hk))
  have RX5 := RX4.keeps K5 (.inl (.inl (.inr rfl)))
  have RM5 := RM4.keeps K5 (.inl (.inr rfl))
  have hb5 := hb4.trans (K5.below (fun j hj => .inl (.inl (.inl hj))))
  have RX6 := RX5.boxed (.cells #[.int .i64 m0, .int .i64 m1, .int .i64 m2, .int .i64 m3, .int .i64 m4, .int .i64 m5, .int .i64 m6, .int .i64 m7, .slice pa mws.length pc] 44)
  have RM6 := RM5.boxed (.cells #[.int .i64 m0, .int .i64 m1, .int .i64 m2, .int .i64 m3, .int .i64 m4, .int .i64 m5, .int .i64 m6, .int .i64 m7, .slice pa mws.length pc] 44)
  have RP6 := RowL.new (w := w5) (T := 44) [.int .i64 m0, .int .i64 m1, .int .i64 m2, .int .i64 m3, .int .i64 m4, .int .i64 m5, .int .i64 m6, .int .i64 m7, .slice pa mws.length pc] rfl
  change RowL (w5.alloc (.cells #[.int .i64 m0, .int .i64 m1, .int .i64 m2, .int .i64 m3, .int .i64 m4, .int .i64 m5, .int .i64 m6, .int .i64 m7, .slice pa mws.length pc] 44)) w5.heap.size [.int .i64 m0, .int .i64 m1, .int .i64 m2, .int .i64 m3, .int .i64 m4, .int .i64 m5, .int .i64 m6, .int .i64 m7, .slice pa mws.length pc] at RP6
  have hb6 := boxed hb5 (.cells #[.int .i64 m0, .int .i64 m1, .int .i64 m2, .int .i64 m3, .int .i64 m4, .int .i64 m5, .int .i64 m6, .int .i64 m7, .slice pa mws.length pc] 44)
  have T6 := (T5.new (.cells #[.int .i64 m0, .int .i64 m1, .int .i64 m2, .int .i64 m3, .int .i64 m4, .int .i64 m5, .int .i64 m6, .int .i64 m7, .slice pa mws.length pc] 44)).less (X' := (fun j => j < w.heap.size ∨ j = xb)) (fun k hk => .inl (.inl hk))
  have HB6 : Hid (WrIn (w5.alloc (.cells #[.int .i64 m0, .int .i64 m1, .int .i64 m2, .int .i64 m3, .int .i64 m4, .int .i64 m5, .int .i64 m6, .int .i64 m7, .slice pa mws.length pc] 44)) ma mc mws ∧ WrIn (w5.alloc (.cells #[.int .i64 m0, .int .i64 m1, .int .i64 m2, .int .i64 m3, .int .i64 m4, .int .i64 m5, .int .i64 m6, .int .i64 m7, .slice pa mws.length pc] 44)) pa pc mws) := ⟨HM5.out.later (boxed (Below.refl _ w5) _), HP5.out.later (boxed (Below.refl _ w5) _)⟩
  clear c1 c2 c3 c4 c5 c14 HH5 K5 RX4 RM4 T4 T5 CP hb3 hb4 HM4 HM5 HP5 HH3 T3 RX5 RM5 hb5
  have BB := BR.out ce _ (cell_later hb6 HG.out)
  go_wp2_with fail
  refine BB.mono ?_
  rintro e w7 ⟨rfl, hb7⟩
  have RP7 := RP6.later hb7
  have RM7 := RM6.later hb7
  have p0 := RP7.cell 0 _ rfl
  have p1 := RP7.cell 1 _ rfl
  have p2 := RP7.cell 2 _ rfl
  have p3 := RP7.cell 3 _ rfl
  have p4 := RP7.cell 4 _ rfl
  have p5 := RP7.cell 5 _ rfl
  have p6 := RP7.cell 6 _ rfl
  have p7 := RP7.cell 7 _ rfl
  have p8 := RP7.cell 8 _ rfl
  have q0 := RM7.cell 0 _ rfl
  have q1 := RM7.cell 1 _ rfl
  have q2 := RM7.cell 2 _ rfl
  have q3 := RM7.cell 3 _ rfl
  have q4 := RM7.cell 4 _ rfl
  have q5 := RM7.cell 5 _ rfl
  have q6 := RM7.cell 6 _ rfl
  have q7 := RM7.cell 7 _ rfl
  have q8 := RM7.cell 8 _ rfl
  have SM := same_any m0 m1 m2 m3 m4 m5 m6 m7 pa ma pc mc mws w7 (HB6.out.2.later hb7) (HB6.out.1.later hb7)
  have T7 := T6.later hb7
  have RX7 := RX6.later hb7
  have hb8 := behind hb6 hb7
  clear BB RP6 RM6 T6 RX6 hb6 HB6 hb7
  go_wp2_with fail
  refine SM.mono ?_
  rintro e w9 ⟨rfl, hb9⟩
  have RC := RX7.later hb9
  have MID : MidS bp br k xb [.int .i64 0, .int .i64 n, .int .i64 b0, .int .i64 b1, .int .i64 b2, .int .i64 b3, .int .i64 site, .int .i64 seq, .int .i64 wall, .int .i64 count, .int .i64 d0, .int .i64 d1, .int .i64 d2, .int .i64 d3, .slice ta ws.length tcap] w w9 := ⟨_, T7.later hb9, RC, HCS, behind hb8 hb9⟩
  clear p0 p1 p2 p3 p4 p5 p6 p7 p8 q0 q1 q2 q3 q4 q5 q6 q7 q8 RP7 RM7 T7 RX7 hb8 SM
  go_wp2_with fail
  exact HR.out _ _ _ _ _ _ _ _ _ _ _ _ _ _ _ _ _ _ _ _ _ _ _ _ _ _ _ _ _ _ _ _ _ _ _ _ _ _ _ _ _ _ _ _ _ _ _ _ _ _ _ _ _ _ _ _ _ _ _ _ _ _ _ _ _ _ _ _ _ _ _ _ _ _ _ _ _ _ _ _ _ _ _ _ _ _ _ _ _ _ _ _ _ _ _ _ _ _ _ _ _ _ _ _ _ _ MID

end Go.Proofs.YtplbdmcfghhbdaaGreatDoor

namespace Go.Proofs.YtplbdmcfghhbdaaGreatDoor
open Go.RowKit

set_option maxRecDepth 1000000 in
set_option maxHeartbeats 16000000 in
theorem playsSw_1 {bp br k xb : Nat} {S : SiteS} {n b0 b1 b2 b3 site seq wall count d0 d1 d2 d3 : Int} {ws : List Wr} {ta : Option Addr} {tcap : Nat} {y0 y1 y2 y3 y4 y5 y6 y8 y10 y12 y13 y14 y15 y16 y17 y18 y19 y20 y21 y22 y23 y24 y25 y26 y27 y28 y29 y30 y31 y32 y33 y34 y35 y36 y37 y38 y39 y40 y41 y42 y43 y44 y45 y46 y47 y48 y49 y50 y51 y52 y53 y54 y55 y56 y57 y58 y59 y60 y61 y62 y63 y64 y66 y67 y68 y69 y70 y71 y72 y73 y74 y75 y76 y77 y78 y79 y80 y81 y82 y83 y84 y85 y86 y87 y88 y89 y90 y91 y92 y93 y94 y95 y96 y97 y98 y99 y100 y101 y102 y103 y104 y105 y106 y107 y108 y109 y110 y111 y112 y113 y114 y115 y116 y117 y118 y119 y120 y121 y122 y123 y124 y125 y126 y127 y128 y129 y130 y131 y132 y133 y134 y135 y136 y137 y138 y139 y140 y141 y142 y143 y144 y145 y146 y147 y148 y149 y150 y151 y152 y153 y154 y155 y156 y157 y158 y159 y160 y161 y162 y163 y164 y165 y166 y167 y168 y169 y170 y171 y172 y173 y174 y175 y176 y177 y178 y179 y180 y181 y182 y183 y184 y185 y186 y187 y188 y189 y190 y191 y192 y193 y194 y195 y196 y197 y198 y199 y200 y201 y202 y203 y204 y205 y206 y207 y208 y209 y210 y211 y212 y213 y214 y215 y216 y217 y218 y219 y220 y221 y222 y223 y224 y225 y226 y227 y228 y229 y230 y231 y232 y233 y234 y235 y236 y237 y238 y239 y240 y241 y242 y243 y244 y245 y246 y247 y248 y249 y250 y251 y252 y253 y254 y255 y256 y257 : Value} (w w2 : World) (T2 : TwoS w2 bp br S S (fun j => j < w.heap.size ∨ j = xb) NoB) (RX2 : RowL w2 xb [.int .i64 1, .int .i64 n, .int .i64 b0, .int .i64 b1, .int .i64 b2, .int .i64 b3, .int .i64 site, .int .i64 seq, .int .i64 wall, .int .i64 count, .int .i64 d0, .int .i64 d1, .int .i64 d2, .int .i64 d3, .slice ta ws.length tcap]) (hb2 : Below w.heap.size w w2) (HI : Hid (InvS S ∧ S.waits.length ≤ k)) (HK70 : Hid (k ≤ 70))
    (HWk : Hid (WrIn w ta tcap ws)) (HAk : Hid (∀ k off, ws ≠ [] → ta = some ⟨k, off, none⟩ → k < w.heap.size)) (HG : Hid (w.cell? ⟨0, 0, none⟩ = some (.iface 186 (.agg #[.pointer (some ⟨1, 25, none⟩)])))) (R : Act → World → Prop)
    (hR : ∀ (u12 u13 u14 u15 u16 u66 u67 u68 u69 u70 u71 u72 u73 u74 u75 u76 u77 u78 u79 u80 u81 u82 u83 u84 u85 u86 u87 u88 u89 u90 u91 u92 u93 u94 u95 u96 u97 u98 u99 u100 u101 u102 u103 u104 u105 u106 u107 u108 u109 u110 u111 u112 u113 u114 u115 u116 u117 u118 u119 u120 u121 u122 u123 u124 u125 u126 u127 u128 u129 u130 u131 u132 u133 u134 u135 u136 u137 u138 u139 u140 u141 u142 u143 u144 u145 u146 u147 u148 u149 u150 u151 u152 u153 u154 u155 u156 u157 u158 u159 u160 u161 u162 u163 u164 u165 : Value) (wc : World), MidS bp br k xb [.int .i64 1, .int .i64 n, .int .i64 b0, .int .i64 b1, .int .i64 b2, .int .i64 b3, .int .i64 site, .int .i64 seq, .int .i64 wall, .int .i64 count, .int .i64 d0, .int .i64 d1, .int .i64 d2, .int .i64 d3, .slice ta ws.length tcap] w wc → R ⟨List.toArray (y0 :: y1 :: y2 :: y3 :: y4 :: y5 :: y6 :: (.pointer (some ⟨bp, 0, none⟩)) :: y8 :: (.pointer (some ⟨br, 0, none⟩)) :: y10 :: (.pointer (some ⟨xb, 0, none⟩)) :: u12 :: u13 :: u14 :: u15 :: u16 :: y17 :: y18 :: y19 :: y20 :: y21 :: y22 :: y23 :: y24 :: y25 :: y26 :: y27 :: y28 :: y29 :: y30 :: y31 :: y32 :: y33 :: y34 :: y35 :: y36 :: y37 :: y38 :: y39 :: y40 :: y41 :: y42 :: y43 :: y44 :: y45 :: y46 :: y47 :: y48 :: y49 :: y50 :: y51 :: y52 :: y53 :: y54 :: y55 :: y56 :: y57 :: y58 :: y59 :: y60 :: y61 :: y62 :: y63 :: y64 :: (.int .i64 1) :: u66 :: u67 :: u68 :: u69 :: u70 :: u71 :: u72 :: u73 :: u74 :: u75 :: u76 :: u77 :: u78 :: u79 :: u80 :: u81 :: u82 :: u83 :: u84 :: u85 :: u86 :: u87 :: u88 :: u89 :: u90 :: u91 :: u92 :: u93 :: u94 :: u95 :: u96 :: u97 :: u98 :: u99 :: u100 :: u101 :: u102 :: u103 :: u104 :: u105 :: u106 :: u107 :: u108 :: u109 :: u110 :: u111 :: u112 :: u113 :: u114 :: u115 :: u116 :: u117 :: u118 :: u119 :: u120 :: u121 :: u122 :: u123 :: u124 :: u125 :: u126 :: u127 :: u128 :: u129 :: u130 :: u131 :: u132 :: u133 :: u134 :: u135 :: u136 :: u137 :: u138 :: u139 :: u140 :: u141 :: u142 :: u143 :: u144 :: u145 :: u146 :: u147 :: u148 :: u149 :: u150 :: u151 :: u152 :: u153 :: u154 :: u155 :: u156 :: u157 :: u158 :: u159 :: u160 :: u161 :: u162 :: u163 :: u164 :: u165 :: y166 :: y167 :: y168 :: y169 :: y170 :: y171 :: y172 :: y173 :: y174 :: y175 :: y176 :: y177 :: y178 :: y179 :: y180 :: y181 :: y182 :: y183 :: y184 :: y185 :: y186 :: y187 :: y188 :: y189 :: y190 :: y191 :: y192 :: y193 :: y194 :: y195 :: y196 :: y197 :: y198 :: y199 :: y200 :: y201 :: y202 :: y203 :: y204 :: y205 :: y206 :: y207 :: y208 :: y209 :: y210 :: y211 :: y212 :: y213 :: y214 :: y215 :: y216 :: y217 :: y218 :: y219 :: y220 :: y221 :: y222 :: y223 :: y224 :: y225 :: y226 :: y227 :: y228 :: y229 :: y230 :: y231 :: y232 :: y233 :: y234 :: y235 :: y236 :: y237 :: y238 :: y239 :: y240 :: y241 :: y242 :: y243 :: y244 :: y245 :: y246 :: y247 :: y248 :: y249 :: y250 :: y251 :: y252 :: y253 :: y254 :: y255 :: y256 :: y257 :: []), []⟩ wc) :
    Code.wp Tryz.prog playsSw (Exit.then R (fun _ _ _ => False)) ⟨List.toArray (y0 :: y1 :: y2 :: y3 :: y4 :: y5 :: y6 :: (.pointer (some ⟨bp, 0, none⟩)) :: y8 :: (.pointer (some ⟨br, 0, none⟩)) :: y10 :: (.pointer (some ⟨xb, 0, none⟩)) :: y12 :: y13 :: y14 :: y15 :: y16 :: y17 :: y18 :: y19 :: y20 :: y21 :: y22 :: y23 :: y24 :: y25 :: y26 :: y27 :: y28 :: y29 :: y30 :: y31 :: y32 :: y33 :: y34 :: y35 :: y36 :: y37 :: y38 :: y39 :: y40 :: y41 :: y42 :: y43 :: y44 :: y45 :: y46 :: y47 :: y48 :: y49 :: y50 :: y51 :: y52 :: y53 :: y54 :: y55 :: y56 :: y57 :: y58 :: y59 :: y60 :: y61 :: y62 :: y63 :: y64 :: (.int .i64 1) :: y66 :: y67 :: y68 :: y69 :: y70 :: y71 :: y72 :: y73 :: y74 :: y75 :: y76 :: y77 :: y78 :: y79 :: y80 :: y81 :: y82 :: y83 :: y84 :: y85 :: y86 :: y87 :: y88 :: y89 :: y90 :: y91 :: y92 :: y93 :: y94 :: y95 :: y96 :: y97 :: y98 :: y99 :: y100 :: y101 :: y102 :: y103 :: y104 :: y105 :: y106 :: y107 :: y108 :: y109 :: y110 :: y111 :: y112 :: y113 :: y114 :: y115 :: y116 :: y117 :: y118 :: y119 :: y120 :: y121 :: y122 :: y123 :: y124 :: y125 :: y126 :: y127 :: y128 :: y129 :: y130 :: y131 :: y132 :: y133 :: y134 :: y135 :: y136 :: y137 :: y138 :: y139 :: y140 :: y141 :: y142 :: y143 :: y144 :: y145 :: y146 :: y147 :: y148 :: y149 :: y150 :: y151 :: y152 :: y153 :: y154 :: y155 :: y156 :: y157 :: y158 :: y159 :: y160 :: y161 :: y162 :: y163 :: y164 :: y165 :: y166 :: y167 :: y168 :: y169 :: y170 :: y171 :: y172 :: y173 :: y174 :: y175 :: y176 :: y177 :: y178 :: y179 :: y180 :: y181 :: y182 :: y183 :: y184 :: y185 :: y186 :: y187 :: y188 :: y189 :: y190 :: y191 :: y192 :: y193 :: y194 :: y195 :: y196 :: y197 :: y198 :: y199 :: y200 :: y201 :: y202 :: y203 :: y204 :: y205 :: y206 :: y207 :: y208 :: y209 :: y210 :: y211 :: y212 :: y213 :: y214 :: y215 :: y216 :: y217 :: y218 :: y219 :: y220 :: y221 :: y222 :: y223 :: y224 :: y225 :: y226 :: y227 :: y228 :: y229 :: y230 :: y231 :: y232 :: y233 :: y234 :: y235 :: y236 :: y237 :: y238 :: y239 :: y240 :: y241 :: y242 :: y243 :: y244 :: y245 :: y246 :: y247 :: y248 :: y249 :: y250 :: y251 :: y252 :: y253 :: y254 :: y255 :: y256 :: y257 :: []), []⟩ w2 := by
  have HR : Hid (∀ (u12 u13 u14 u15 u16 u66 u67 u68 u69 u70 u71 u72 u73 u74 u75 u76 u77 u78 u79 u80 u81 u82 u83 u84 u85 u86 u87 u88 u89 u90 u91 u92 u93 u94 u95 u96 u97 u98 u99 u100 u101 u102 u103 u104 u105 u106 u107 u108 u109 u110 u111 u112 u113 u114 u115 u116 u117 u118 u119 u120 u121 u122 u123 u124 u125 u126 u127 u128 u129 u130 u131 u132 u133 u134 u135 u136 u137 u138 u139 u140 u141 u142 u143 u144 u145 u146 u147 u148 u149 u150 u151 u152 u153 u154 u155 u156 u157 u158 u159 u160 u161 u162 u163 u164 u165 : Value) (wc : World), MidS bp br k xb [.int .i64 1, .int .i64 n, .int .i64 b0, .int .i64 b1, .int .i64 b2, .int .i64 b3, .int .i64 site, .int .i64 seq, .int .i64 wall, .int .i64 count, .int .i64 d0, .int .i64 d1, .int .i64 d2, .int .i64 d3, .slice ta ws.length tcap] w wc → R ⟨List.toArray (y0 :: y1 :: y2 :: y3 :: y4 :: y5 :: y6 :: (.pointer (some ⟨bp, 0, none⟩)) :: y8 :: (.pointer (some ⟨br, 0, none⟩)) :: y10 :: (.pointer (some ⟨xb, 0, none⟩)) :: u12 :: u13 :: u14 :: u15 :: u16 :: y17 :: y18 :: y19 :: y20 :: y21 :: y22 :: y23 :: y24 :: y25 :: y26 :: y27 :: y28 :: y29 :: y30 :: y31 :: y32 :: y33 :: y34 :: y35 :: y36 :: y37 :: y38 :: y39 :: y40 :: y41 :: y42 :: y43 :: y44 :: y45 :: y46 :: y47 :: y48 :: y49 :: y50 :: y51 :: y52 :: y53 :: y54 :: y55 :: y56 :: y57 :: y58 :: y59 :: y60 :: y61 :: y62 :: y63 :: y64 :: (.int .i64 1) :: u66 :: u67 :: u68 :: u69 :: u70 :: u71 :: u72 :: u73 :: u74 :: u75 :: u76 :: u77 :: u78 :: u79 :: u80 :: u81 :: u82 :: u83 :: u84 :: u85 :: u86 :: u87 :: u88 :: u89 :: u90 :: u91 :: u92 :: u93 :: u94 :: u95 :: u96 :: u97 :: u98 :: u99 :: u100 :: u101 :: u102 :: u103 :: u104 :: u105 :: u106 :: u107 :: u108 :: u109 :: u110 :: u111 :: u112 :: u113 :: u114 :: u115 :: u116 :: u117 :: u118 :: u119 :: u120 :: u121 :: u122 :: u123 :: u124 :: u125 :: u126 :: u127 :: u128 :: u129 :: u130 :: u131 :: u132 :: u133 :: u134 :: u135 :: u136 :: u137 :: u138 :: u139 :: u140 :: u141 :: u142 :: u143 :: u144 :: u145 :: u146 :: u147 :: u148 :: u149 :: u150 :: u151 :: u152 :: u153 :: u154 :: u155 :: u156 :: u157 :: u158 :: u159 :: u160 :: u161 :: u162 :: u163 :: u164 :: u165 :: y166 :: y167 :: y168 :: y169 :: y170 :: y171 :: y172 :: y173 :: y174 :: y175 :: y176 :: y177 :: y178 :: y179 :: y180 :: y181 :: y182 :: y183 :: y184 :: y185 :: y186 :: y187 :: y188 :: y189 :: y190 :: y191 :: y192 :: y193 :: y194 :: y195 :: y196 :: y197 :: y198 :: y199 :: y200 :: y201 :: y202 :: y203 :: y204 :: y205 :: y206 :: y207 :: y208 :: y209 :: y210 :: y211 :: y212 :: y213 :: y214 :: y215 :: y216 :: y217 :: y218 :: y219 :: y220 :: y221 :: y222 :: y223 :: y224 :: y225 :: y226 :: y227 :: y228 :: y229 :: y230 :: y231 :: y232 :: y233 :: y234 :: y235 :: y236 :: y237 :: y238 :: y239 :: y240 :: y241 :: y242 :: y243 :: y244 :: y245 :: y246 :: y247 :: y248 :: y249 :: y250 :: y251 :: y252 :: y253 :: y254 :: y255 :: y256 :: y257 :: []), []⟩ wc) := hR
  clear hR
  have BR : Hid (∀ (n : Int) (w : World), w.cell? ⟨0, 0, none⟩ = some (.iface 186 (.agg #[.pointer (some ⟨1, 25, none⟩)])) → Calls Tryz.prog 6 #[errV n, .int .i64 n] w fun e w' => e = .returned (.bool true) ∧ Below w.heap.size w w') := fun n w h => sameErr_errV' n w h
  have : True := by have := HI; have := HK70; have := HWk; have := HAk; have := HG; have := BR; trivial
  clear this
  conv => arg 2; whnf
  obtain ⟨te, hte⟩ : ∃ te, takeE S ⟨site, seq, wall, count, d0, d1, d2, d3, ws⟩ = te := ⟨_, rfl⟩
  have HWL : Hid (S.waits.length ≤ 900) := by show _ ≤ _; have := HI.out.2; have := HK70.out; omega
  have TKP : Hid (∀ (w' : World) (Sr : SiteS), TwoS w' bp br S Sr (fun j => j < w.heap.size ∨ j = xb) NoB → Below w.heap.size w w' → Calls Tryz.prog 11 #[.pointer (some ⟨bp, 0, none⟩), .agg #[.int .i64 site, .int .i64 seq, .int .i64 wall, .int .i64 count, .int .i64 d0, .int .i64 d1, .int .i64 d2, .int .i64 d3, .slice ta ws.length tcap]] w' fun e w'' => e = .returned (errV te) ∧ ∃ S', Hid (TakesTo S ⟨site, seq, wall, count, d0, d1, d2, d3, ws⟩ S') ∧ TwoS w'' bp br S' Sr (fun j => j < w.heap.size ∨ j = xb) NoB ∧ Keeps (fun j => j < w.heap.size ∨ j = xb) w' w'') := fun w' Sr h hb => by
    have := two_take ⟨⟨site, seq, wall, count, d0, d1, d2, d3, ws⟩, ta, tcap⟩ h HI.out.1 HWL.out (HWk.out.later hb)
    rw [hte] at this
    exact this
  have TKR : Hid (∀ (w' : World) (Sp : SiteS), TwoS w' bp br Sp S (fun j => j < w.heap.size ∨ j = xb) NoB → Below w.heap.size w w' → Calls Tryz.prog 12 #[.pointer (some ⟨br, 0, none⟩), .agg #[.int .i64 site, .int .i64 seq, .int .i64 wall, .int .i64 count, .int .i64 d0, .int .i64 d1, .int .i64 d2, .int .i64 d3, .slice ta ws.length tcap]] w' fun e w'' => e = .returned (.int .i64 te) ∧ ∃ S', Hid (TakesTo S ⟨site, seq, wall, count, d0, d1, d2, d3, ws⟩ S') ∧ TwoS w'' bp br Sp S' (fun j => j < w.heap.size ∨ j = xb) NoB ∧ Keeps (fun j => j < w.heap.size ∨ j = xb) w' w'') := fun w' Sp h hb => by
    have := two_rtake ⟨⟨site, seq, wall, count, d0, d1, d2, d3, ws⟩, ta, tcap⟩ h HI.out.1 HWL.out (HWk.out.later hb)
    rw [hte] at this
    exact this
  clear hte
  have T0 := T2.later ((Below.refl _ w2).drew)
  have RD := RX2.drew
  have hbD := hb2.drew
  have Y6 := fun (w' : World) (h : RowL w' xb [.int .i64 1, .int .i64 n, .int .i64 b0, .int .i64 b1, .int .i64 b2, .int .i64 b3, .int .i64 site, .int .i64 seq, .int .i64 wall, .int .i64 count, .int .i64 d0, .int .i64 d1, .int .i64 d2, .int .i64 d3, .slice ta ws.length tcap]) => h.cell 6 _ rfl
  have Y7 := fun (w' : World) (h : RowL w' xb [.int .i64 1, .int .i64 n, .int .i64 b0, .int .i64 b1, .int .i64 b2, .int .i64 b3, .int .i64 site, .int .i64 seq, .int .i64 wall, .int .i64 count, .int .i64 d0, .int .i64 d1, .int .i64 d2, .int .i64 d3, .slice ta ws.length tcap]) => h.cell 7 _ rfl
  have Y8 := fun (w' : World) (h : RowL w' xb [.int .i64 1, .int .i64 n, .int .i64 b0, .int .i64 b1, .int .i64 b2, .int .i64 b3, .int .i64 site, .int .i64 seq, .int .i64 wall, .int .i64 count, .int .i64 d0, .int .i64 d1, .int .i64 d2, .int .i64 d3, .slice ta ws.length tcap]) => h.cell 8 _ rfl
  have Y9 := fun (w' : World) (h : RowL w' xb [.int .i64 1, .int .i64 n, .int .i64 b0, .int .i64 b1, .int .i64 b2, .int .i64 b3, .int .i64 site, .int .i64 seq, .int .i64 wall, .int .i64 count, .int .i64 d0, .int .i64 d1, .int .i64 d2, .int .i64 d3, .slice ta ws.length tcap]) => h.cell 9 _ rfl
  have Y10 := fun (w' : World) (h : RowL w' xb [.int .i64 1, .int .i64 n, .int .i64 b0, .int .i64 b1, .int .i64 b2, .int .i64 b3, .int .i64 site, .int .i64 seq, .int .i64 wall, .int .i64 count, .int .i64 d0, .int .i64 d1, .int .i64 d2, .int .i64 d3, .slice ta ws.length tcap]) => h.cell 10 _ rfl
  have Y11 := fun (w' : World) (h : RowL w' xb [.int .i64 1, .int .i64 n, .int .i64 b0, .int .i64 b1, .int .i64 b2, .int .i64 b3, .int .i64 site, .int .i64 seq, .int .i64 wall, .int .i64 count, .int .i64 d0, .int .i64 d1, .int .i64 d2, .int .i64 d3, .slice ta ws.length tcap]) => h.cell 11 _ rfl
  have Y12 := fun (w' : World) (h : RowL w' xb [.int .i64 1, .int .i64 n, .int .i64 b0, .int .i64 b1, .int .i64 b2, .int .i64 b3, .int .i64 site, .int .i64 seq, .int .i64 wall, .int .i64 count, .int .i64 d0, .int .i64 d1, .int .i64 d2, .int .i64 d3, .slice ta ws.length tcap]) => h.cell 12 _ rfl
  have Y13 := fun (w' : World) (h : RowL w' xb [.int .i64 1, .int .i64 n, .int .i64 b0, .int .i64 b1, .int .i64 b2, .int .i64 b3, .int .i64 site, .int .i64 seq, .int .i64 wall, .int .i64 count, .int .i64 d0, .int .i64 d1, .int .i64 d2, .int .i64 d3, .slice ta ws.length tcap]) => h.cell 13 _ rfl
  have Y14 := fun (w' : World) (h : RowL w' xb [.int .i64 1, .int .i64 n, .int .i64 b0, .int .i64 b1, .int .i64 b2, .int .i64 b3, .int .i64 site, .int .i64 seq, .int .i64 wall, .int .i64 count, .int .i64 d0, .int .i64 d1, .int .i64 d2, .int .i64 d3, .slice ta ws.length tcap]) => h.cell 14 _ rfl
  go_wp2_with fail
  go_region_held3 (fun w' => RowL w' xb [.int .i64 1, .int .i64 n, .int .i64 b0, .int .i64 b1, .int .i64 b2, .int .i64 b3, .int .i64 site, .int .i64 seq, .int .i64 wall, .int .i64 count, .int .i64 d0, .int .i64 d1, .int .i64 d2, .int .i64 d3, .slice ta ws.length tcap]) (with_reducible assumption)
    (first
      | (go_at_call 11; with_reducible refine (TKP.out _ _ T0 hbD).mono ?_; rintro e wa ⟨rfl, S1, TT1, TA, KA⟩; have RA := RD.keeps KA (.inr rfl); have hbA := hbD.trans (KA.below (fun j hj => .inl hj)))
      | (go_at_call 12; with_reducible refine (TKR.out _ _ TA hbA).mono ?_; rintro e wb ⟨rfl, S2, TT2, TB, KB⟩; have RB := RA.keeps KB (.inr rfl); have hbB := hbA.trans (KB.below (fun j hj => .inl hj)))
      | (go_at_call 12; with_reducible refine (TKR.out _ _ T0 hbD).mono ?_; rintro e wa ⟨rfl, S1, TT1, TA, KA⟩; have RA := RD.keeps KA (.inr rfl); have hbA := hbD.trans (KA.below (fun j hj => .inl hj)))
      | (go_at_call 11; with_reducible refine (TKP.out _ _ TA hbA).mono ?_; rintro e wb ⟨rfl, S2, TT2, TB, KB⟩; have RB := RA.keeps KB (.inr rfl); have hbB := hbA.trans (KB.below (fun j hj => .inl hj)))
      | (go_at_call 6; with_reducible refine (BR.out _ _ (cell_later hbB HG.out)).mono ?_; rintro e wc ⟨rfl, hbc⟩; have TC := TB.later hbc; have RC := RB.later hbc; have hbC := behind hbB hbc))
  all_goals
    obtain rfl := TT1.out.det TT2.out
    have MID : MidS bp br k xb [.int .i64 1, .int .i64 n, .int .i64 b0, .int .i64 b1, .int .i64 b2, .int .i64 b3, .int .i64 site, .int .i64 seq, .int .i64 wall, .int .i64 count, .int .i64 d0, .int .i64 d1, .int .i64 d2, .int .i64 d3, .slice ta ws.length tcap] w wc := ⟨_, TC, RC, ⟨TT1.out.inv HI.out.1, by have := takes_waits TT1.out; have := HI.out.2; omega⟩, hbC⟩
    clear Y6 Y7 Y8 Y9 Y10 Y11 Y12 Y13 Y14 T0 RD hbD TA KA RA hbA TB KB RB hbB hbc TC hbC TT1 TT2
    go_wp2_with fail
    exact HR.out _ _ _ _ _ _ _ _ _ _ _ _ _ _ _ _ _ _ _ _ _ _ _ _ _ _ _ _ _ _ _ _ _ _ _ _ _ _ _ _ _ _ _ _ _ _ _ _ _ _ _ _ _ _ _ _ _ _ _ _ _ _ _ _ _ _ _ _ _ _ _ _ _ _ _ _ _ _ _ _ _ _ _ _ _ _ _ _ _ _ _ _ _ _ _ _ _ _ _ _ _ _ _ _ _ _ MID

end Go.Proofs.YtplbdmcfghhbdaaGreatDoor

namespace Go.Proofs.YtplbdmcfghhbdaaGreatDoor
open Go.RowKit

set_option maxRecDepth 1000000 in
set_option maxHeartbeats 16000000 in
theorem playsSw_2n {bp br k xb : Nat} {S : SiteS} {n b0 b1 b2 b3 site seq wall count d0 d1 d2 d3 : Int} {ws : List Wr} {ta : Option Addr} {tcap : Nat} {y0 y1 y2 y3 y4 y5 y6 y8 y10 y12 y13 y14 y15 y16 y17 y18 y19 y20 y21 y22 y23 y24 y25 y26 y27 y28 y29 y30 y31 y32 y33 y34 y35 y36 y37 y38 y39 y40 y41 y42 y43 y44 y45 y46 y47 y48 y49 y50 y51 y52 y53 y54 y55 y56 y57 y58 y59 y60 y61 y62 y63 y64 y66 y67 y68 y69 y70 y71 y72 y73 y74 y75 y76 y77 y78 y79 y80 y81 y82 y83 y84 y85 y86 y87 y88 y89 y90 y91 y92 y93 y94 y95 y96 y97 y98 y99 y100 y101 y102 y103 y104 y105 y106 y107 y108 y109 y110 y111 y112 y113 y114 y115 y116 y117 y118 y119 y120 y121 y122 y123 y124 y125 y126 y127 y128 y129 y130 y131 y132 y133 y134 y135 y136 y137 y138 y139 y140 y141 y142 y143 y144 y145 y146 y147 y148 y149 y150 y151 y152 y153 y154 y155 y156 y157 y158 y159 y160 y161 y162 y163 y164 y165 y166 y167 y168 y169 y170 y171 y172 y173 y174 y175 y176 y177 y178 y179 y180 y181 y182 y183 y184 y185 y186 y187 y188 y189 y190 y191 y192 y193 y194 y195 y196 y197 y198 y199 y200 y201 y202 y203 y204 y205 y206 y207 y208 y209 y210 y211 y212 y213 y214 y215 y216 y217 y218 y219 y220 y221 y222 y223 y224 y225 y226 y227 y228 y229 y230 y231 y232 y233 y234 y235 y236 y237 y238 y239 y240 y241 y242 y243 y244 y245 y246 y247 y248 y249 y250 y251 y252 y253 y254 y255 y256 y257 : Value} (w w2 : World) (T2 : TwoS w2 bp br S S (fun j => j < w.heap.size ∨ j = xb) NoB) (RX2 : RowL w2 xb [.int .i64 2, .int .i64 n, .int .i64 b0, .int .i64 b1, .int .i64 b2, .int .i64 b3, .int .i64 site, .int .i64 seq, .int .i64 wall, .int .i64 count, .int .i64 d0, .int .i64 d1, .int .i64 d2, .int .i64 d3, .slice ta ws.length tcap]) (hb2 : Below w.heap.size w w2) (HI : Hid (InvS S ∧ S.waits.length ≤ k)) (HK70 : Hid (k ≤ 70))
    (HWk : Hid (WrIn w ta tcap ws)) (HAk : Hid (∀ k off, ws ≠ [] → ta = some ⟨k, off, none⟩ → k < w.heap.size)) (HG : Hid (w.cell? ⟨0, 0, none⟩ = some (.iface 186 (.agg #[.pointer (some ⟨1, 25, none⟩)])))) (hnn : (decide (0 ≤ n) && decide (n < 4)) = false) (R : Act → World → Prop)
    (hR : ∀ (u12 u13 u14 u15 u16 u66 u67 u68 u69 u70 u71 u72 u73 u74 u75 u76 u77 u78 u79 u80 u81 u82 u83 u84 u85 u86 u87 u88 u89 u90 u91 u92 u93 u94 u95 u96 u97 u98 u99 u100 u101 u102 u103 u104 u105 u106 u107 u108 u109 u110 u111 u112 u113 u114 u115 u116 u117 u118 u119 u120 u121 u122 u123 u124 u125 u126 u127 u128 u129 u130 u131 u132 u133 u134 u135 u136 u137 u138 u139 u140 u141 u142 u143 u144 u145 u146 u147 u148 u149 u150 u151 u152 u153 u154 u155 u156 u157 u158 u159 u160 u161 u162 u163 u164 u165 : Value) (wc : World), MidS bp br k xb [.int .i64 2, .int .i64 n, .int .i64 b0, .int .i64 b1, .int .i64 b2, .int .i64 b3, .int .i64 site, .int .i64 seq, .int .i64 wall, .int .i64 count, .int .i64 d0, .int .i64 d1, .int .i64 d2, .int .i64 d3, .slice ta ws.length tcap] w wc → R ⟨List.toArray (y0 :: y1 :: y2 :: y3 :: y4 :: y5 :: y6 :: (.pointer (some ⟨bp, 0, none⟩)) :: y8 :: (.pointer (some ⟨br, 0, none⟩)) :: y10 :: (.pointer (some ⟨xb, 0, none⟩)) :: u12 :: u13 :: u14 :: u15 :: u16 :: y17 :: y18 :: y19 :: y20 :: y21 :: y22 :: y23 :: y24 :: y25 :: y26 :: y27 :: y28 :: y29 :: y30 :: y31 :: y32 :: y33 :: y34 :: y35 :: y36 :: y37 :: y38 :: y39 :: y40 :: y41 :: y42 :: y43 :: y44 :: y45 :: y46 :: y47 :: y48 :: y49 :: y50 :: y51 :: y52 :: y53 :: y54 :: y55 :: y56 :: y57 :: y58 :: y59 :: y60 :: y61 :: y62 :: y63 :: y64 :: (.int .i64 2) :: u66 :: u67 :: u68 :: u69 :: u70 :: u71 :: u72 :: u73 :: u74 :: u75 :: u76 :: u77 :: u78 :: u79 :: u80 :: u81 :: u82 :: u83 :: u84 :: u85 :: u86 :: u87 :: u88 :: u89 :: u90 :: u91 :: u92 :: u93 :: u94 :: u95 :: u96 :: u97 :: u98 :: u99 :: u100 :: u101 :: u102 :: u103 :: u104 :: u105 :: u106 :: u107 :: u108 :: u109 :: u110 :: u111 :: u112 :: u113 :: u114 :: u115 :: u116 :: u117 :: u118 :: u119 :: u120 :: u121 :: u122 :: u123 :: u124 :: u125 :: u126 :: u127 :: u128 :: u129 :: u130 :: u131 :: u132 :: u133 :: u134 :: u135 :: u136 :: u137 :: u138 :: u139 :: u140 :: u141 :: u142 :: u143 :: u144 :: u145 :: u146 :: u147 :: u148 :: u149 :: u150 :: u151 :: u152 :: u153 :: u154 :: u155 :: u156 :: u157 :: u158 :: u159 :: u160 :: u161 :: u162 :: u163 :: u164 :: u165 :: y166 :: y167 :: y168 :: y169 :: y170 :: y171 :: y172 :: y173 :: y174 :: y175 :: y176 :: y177 :: y178 :: y179 :: y180 :: y181 :: y182 :: y183 :: y184 :: y185 :: y186 :: y187 :: y188 :: y189 :: y190 :: y191 :: y192 :: y193 :: y194 :: y195 :: y196 :: y197 :: y198 :: y199 :: y200 :: y201 :: y202 :: y203 :: y204 :: y205 :: y206 :: y207 :: y208 :: y209 :: y210 :: y211 :: y212 :: y213 :: y214 :: y215 :: y216 :: y217 :: y218 :: y219 :: y220 :: y221 :: y222 :: y223 :: y224 :: y225 :: y226 :: y227 :: y228 :: y229 :: y230 :: y231 :: y232 :: y233 :: y234 :: y235 :: y236 :: y237 :: y238 :: y239 :: y240 :: y241 :: y242 :: y243 :: y244 :: y245 :: y246 :: y247 :: y248 :: y249 :: y250 :: y251 :: y252 :: y253 :: y254 :: y255 :: y256 :: y257 :: []), []⟩ wc) :
    Code.wp Tryz.prog playsSw (Exit.then R (fun _ _ _ => False)) ⟨List.toArray (y0 :: y1 :: y2 :: y3 :: y4 :: y5 :: y6 :: (.pointer (some ⟨bp, 0, none⟩)) :: y8 :: (.pointer (some ⟨br, 0, none⟩)) :: y10 :: (.pointer (some ⟨xb, 0, none⟩)) :: y12 :: y13 :: y14 :: y15 :: y16 :: y17 :: y18 :: y19 :: y20 :: y21 :: y22 :: y23 :: y24 :: y25 :: y26 :: y27 :: y28 :: y29 :: y30 :: y31 :: y32 :: y33 :: y34 :: y35 :: y36 :: y37 :: y38 :: y39 :: y40 :: y41 :: y42 :: y43 :: y44 :: y45 :: y46 :: y47 :: y48 :: y49 :: y50 :: y51 :: y52 :: y53 :: y54 :: y55 :: y56 :: y57 :: y58 :: y59 :: y60 :: y61 :: y62 :: y63 :: y64 :: (.int .i64 2) :: y66 :: y67 :: y68 :: y69 :: y70 :: y71 :: y72 :: y73 :: y74 :: y75 :: y76 :: y77 :: y78 :: y79 :: y80 :: y81 :: y82 :: y83 :: y84 :: y85 :: y86 :: y87 :: y88 :: y89 :: y90 :: y91 :: y92 :: y93 :: y94 :: y95 :: y96 :: y97 :: y98 :: y99 :: y100 :: y101 :: y102 :: y103 :: y104 :: y105 :: y106 :: y107 :: y108 :: y109 :: y110 :: y111 :: y112 :: y113 :: y114 :: y115 :: y116 :: y117 :: y118 :: y119 :: y120 :: y121 :: y122 :: y123 :: y124 :: y125 :: y126 :: y127 :: y128 :: y129 :: y130 :: y131 :: y132 :: y133 :: y134 :: y135 :: y136 :: y137 :: y138 :: y139 :: y140 :: y141 :: y142 :: y143 :: y144 :: y145 :: y146 :: y147 :: y148 :: y149 :: y150 :: y151 :: y152 :: y153 :: y154 :: y155 :: y156 :: y157 :: y158 :: y159 :: y160 :: y161 :: y162 :: y163 :: y164 :: y165 :: y166 :: y167 :: y168 :: y169 :: y170 :: y171 :: y172 :: y173 :: y174 :: y175 :: y176 :: y177 :: y178 :: y179 :: y180 :: y181 :: y182 :: y183 :: y184 :: y185 :: y186 :: y187 :: y188 :: y189 :: y190 :: y191 :: y192 :: y193 :: y194 :: y195 :: y196 :: y197 :: y198 :: y199 :: y200 :: y201 :: y202 :: y203 :: y204 :: y205 :: y206 :: y207 :: y208 :: y209 :: y210 :: y211 :: y212 :: y213 :: y214 :: y215 :: y216 :: y217 :: y218 :: y219 :: y220 :: y221 :: y222 :: y223 :: y224 :: y225 :: y226 :: y227 :: y228 :: y229 :: y230 :: y231 :: y232 :: y233 :: y234 :: y235 :: y236 :: y237 :: y238 :: y239 :: y240 :: y241 :: y242 :: y243 :: y244 :: y245 :: y246 :: y247 :: y248 :: y249 :: y250 :: y251 :: y252 :: y253 :: y254 :: y255 :: y256 :: y257 :: []), []⟩ w2 := by
  have HR : Hid (∀ (u12 u13 u14 u15 u16 u66 u67 u68 u69 u70 u71 u72 u73 u74 u75 u76 u77 u78 u79 u80 u81 u82 u83 u84 u85 u86 u87 u88 u89 u90 u91 u92 u93 u94 u95 u96 u97 u98 u99 u100 u101 u102 u103 u104 u105 u106 u107 u108 u109 u110 u111 u112 u113 u114 u115 u116 u117 u118 u119 u120 u121 u122 u123 u124 u125 u126 u127 u128 u129 u130 u131 u132 u133 u134 u135 u136 u137 u138 u139 u140 u141 u142 u143 u144 u145 u146 u147 u148 u149 u150 u151 u152 u153 u154 u155 u156 u157 u158 u159 u160 u161 u162 u163 u164 u165 : Value) (wc : World), MidS bp br k xb [.int .i64 2, .int .i64 n, .int .i64 b0, .int .i64 b1, .int .i64 b2, .int .i64 b3, .int .i64 site, .int .i64 seq, .int .i64 wall, .int .i64 count, .int .i64 d0, .int .i64 d1, .int .i64 d2, .int .i64 d3, .slice ta ws.length tcap] w wc → R ⟨List.toArray (y0 :: y1 :: y2 :: y3 :: y4 :: y5 :: y6 :: (.pointer (some ⟨bp, 0, none⟩)) :: y8 :: (.pointer (some ⟨br, 0, none⟩)) :: y10 :: (.pointer (some ⟨xb, 0, none⟩)) :: u12 :: u13 :: u14 :: u15 :: u16 :: y17 :: y18 :: y19 :: y20 :: y21 :: y22 :: y23 :: y24 :: y25 :: y26 :: y27 :: y28 :: y29 :: y30 :: y31 :: y32 :: y33 :: y34 :: y35 :: y36 :: y37 :: y38 :: y39 :: y40 :: y41 :: y42 :: y43 :: y44 :: y45 :: y46 :: y47 :: y48 :: y49 :: y50 :: y51 :: y52 :: y53 :: y54 :: y55 :: y56 :: y57 :: y58 :: y59 :: y60 :: y61 :: y62 :: y63 :: y64 :: (.int .i64 2) :: u66 :: u67 :: u68 :: u69 :: u70 :: u71 :: u72 :: u73 :: u74 :: u75 :: u76 :: u77 :: u78 :: u79 :: u80 :: u81 :: u82 :: u83 :: u84 :: u85 :: u86 :: u87 :: u88 :: u89 :: u90 :: u91 :: u92 :: u93 :: u94 :: u95 :: u96 :: u97 :: u98 :: u99 :: u100 :: u101 :: u102 :: u103 :: u104 :: u105 :: u106 :: u107 :: u108 :: u109 :: u110 :: u111 :: u112 :: u113 :: u114 :: u115 :: u116 :: u117 :: u118 :: u119 :: u120 :: u121 :: u122 :: u123 :: u124 :: u125 :: u126 :: u127 :: u128 :: u129 :: u130 :: u131 :: u132 :: u133 :: u134 :: u135 :: u136 :: u137 :: u138 :: u139 :: u140 :: u141 :: u142 :: u143 :: u144 :: u145 :: u146 :: u147 :: u148 :: u149 :: u150 :: u151 :: u152 :: u153 :: u154 :: u155 :: u156 :: u157 :: u158 :: u159 :: u160 :: u161 :: u162 :: u163 :: u164 :: u165 :: y166 :: y167 :: y168 :: y169 :: y170 :: y171 :: y172 :: y173 :: y174 :: y175 :: y176 :: y177 :: y178 :: y179 :: y180 :: y181 :: y182 :: y183 :: y184 :: y185 :: y186 :: y187 :: y188 :: y189 :: y190 :: y191 :: y192 :: y193 :: y194 :: y195 :: y196 :: y197 :: y198 :: y199 :: y200 :: y201 :: y202 :: y203 :: y204 :: y205 :: y206 :: y207 :: y208 :: y209 :: y210 :: y211 :: y212 :: y213 :: y214 :: y215 :: y216 :: y217 :: y218 :: y219 :: y220 :: y221 :: y222 :: y223 :: y224 :: y225 :: y226 :: y227 :: y228 :: y229 :: y230 :: y231 :: y232 :: y233 :: y234 :: y235 :: y236 :: y237 :: y238 :: y239 :: y240 :: y241 :: y242 :: y243 :: y244 :: y245 :: y246 :: y247 :: y248 :: y249 :: y250 :: y251 :: y252 :: y253 :: y254 :: y255 :: y256 :: y257 :: []), []⟩ wc) := hR
  clear hR
  have BR : Hid (∀ (n : Int) (w : World), w.cell? ⟨0, 0, none⟩ = some (.iface 186 (.agg #[.pointer (some ⟨1, 25, none⟩)])) → Calls Tryz.prog 6 #[errV n, .int .i64 n] w fun e w' => e = .returned (.bool true) ∧ Below w.heap.size w w') := fun n w h => sameErr_errV' n w h
  have : True := by have := HI; have := HK70; have := HWk; have := HAk; have := HG; have := BR; trivial
  clear this
  conv => arg 2; whnf
  by_cases h0 : 0 ≤ n
  · have h4 : ¬ n < 4 := fun e => by simp [h0, e] at hnn
    have KN := knows_no (b := bp) hnn b0 b1 b2 b3 w2
    have c1 := RX2.cell 1 _ rfl
    have c2 := RX2.cell 2 _ rfl
    have c3 := RX2.cell 3 _ rfl
    have c4 := RX2.cell 4 _ rfl
    have c5 := RX2.cell 5 _ rfl
    clear hnn
    go_wp2_with fail
    refine KN.mono ?_
    rintro e w3 ⟨rfl, hb3⟩
    have T3 := T2.later hb3
    have RX3 := RX2.later hb3
    have hb4 := behind hb2 hb3
    have BB := BR.out 2 _ (cell_later hb4 HG.out)
    clear c1 c2 c3 c4 c5 KN
    go_wp2_with fail
    refine BB.mono ?_
    rintro e w5 ⟨rfl, hb5⟩
    have RC := RX3.later hb5
    have MID : MidS bp br k xb [.int .i64 2, .int .i64 n, .int .i64 b0, .int .i64 b1, .int .i64 b2, .int .i64 b3, .int .i64 site, .int .i64 seq, .int .i64 wall, .int .i64 count, .int .i64 d0, .int .i64 d1, .int .i64 d2, .int .i64 d3, .slice ta ws.length tcap] w w5 := ⟨_, T3.later hb5, RC, ⟨HI.out.1, by have := HI.out.2; omega⟩, behind hb4 hb5⟩
    clear T3 RX3 hb4 BB
    go_wp2_with fail
    exact HR.out _ _ _ _ _ _ _ _ _ _ _ _ _ _ _ _ _ _ _ _ _ _ _ _ _ _ _ _ _ _ _ _ _ _ _ _ _ _ _ _ _ _ _ _ _ _ _ _ _ _ _ _ _ _ _ _ _ _ _ _ _ _ _ _ _ _ _ _ _ _ _ _ _ _ _ _ _ _ _ _ _ _ _ _ _ _ _ _ _ _ _ _ _ _ _ _ _ _ _ _ _ _ _ _ _ _ MID
  · skip
    have KN := knows_no (b := bp) hnn b0 b1 b2 b3 w2
    have c1 := RX2.cell 1 _ rfl
    have c2 := RX2.cell 2 _ rfl
    have c3 := RX2.cell 3 _ rfl
    have c4 := RX2.cell 4 _ rfl
    have c5 := RX2.cell 5 _ rfl
    clear hnn
    go_wp2_with fail
    refine KN.mono ?_
    rintro e w3 ⟨rfl, hb3⟩
    have T3 := T2.later hb3
    have RX3 := RX2.later hb3
    have hb4 := behind hb2 hb3
    have BB := BR.out 2 _ (cell_later hb4 HG.out)
    clear c1 c2 c3 c4 c5 KN
    go_wp2_with fail
    refine BB.mono ?_
    rintro e w5 ⟨rfl, hb5⟩
    have RC := RX3.later hb5
    have MID : MidS bp br k xb [.int .i64 2, .int .i64 n, .int .i64 b0, .int .i64 b1, .int .i64 b2, .int .i64 b3, .int .i64 site, .int .i64 seq, .int .i64 wall, .int .i64 count, .int .i64 d0, .int .i64 d1, .int .i64 d2, .int .i64 d3, .slice ta ws.length tcap] w w5 := ⟨_, T3.later hb5, RC, ⟨HI.out.1, by have := HI.out.2; omega⟩, behind hb4 hb5⟩
    clear T3 RX3 hb4 BB
    go_wp2_with fail
    exact HR.out _ _ _ _ _ _ _ _ _ _ _ _ _ _ _ _ _ _ _ _ _ _ _ _ _ _ _ _ _ _ _ _ _ _ _ _ _ _ _ _ _ _ _ _ _ _ _ _ _ _ _ _ _ _ _ _ _ _ _ _ _ _ _ _ _ _ _ _ _ _ _ _ _ _ _ _ _ _ _ _ _ _ _ _ _ _ _ _ _ _ _ _ _ _ _ _ _ _ _ _ _ _ _ _ _ _ MID

end Go.Proofs.YtplbdmcfghhbdaaGreatDoor
