import Derived.Test.YtoanjdndmlffdaaGreatDoorPTake
import Derived.Test.YtoanjdndmlffdaaGreatDoorSiteG
namespace Go.Proofs.YtoanjdndmlffdaaGreatDoor
open Go.RowKit
/-- what a site has applied of another one's -/
def appl (S : SiteS) (s : Int) : Int := depOf s S.a0 S.a1 S.a2 S.a3
theorem nextS_none {S : SiteS} (h : nextS S = none) : ∀ x ∈ S.waits, 0 ≤ x.site → x.site ≤ 3 → readyS S x = false := by
  have hp : pickS S 0 = none ∧ pickS S 1 = none ∧ pickS S 2 = none ∧ pickS S 3 = none := by
    unfold nextS at h
    split at h
    · cases h
    · rename_i p0
      split at h
      · cases h
      · rename_i p1
        split at h
        · cases h
        · rename_i p2
          exact ⟨p0, p1, p2, h⟩
  intro x hx h0 h3
  have hc : x.site = 0 ∨ x.site = 1 ∨ x.site = 2 ∨ x.site = 3 := by omega
  rcases hc with e | e | e | e
  · exact pickS_none hp.1 x hx e
  · exact pickS_none hp.2.1 x hx e
  · exact pickS_none hp.2.2.1 x hx e
  · exact pickS_none hp.2.2.2 x hx e
theorem nextP_ok {lw lc now : Int} (h : (nextP lw lc now).2.2 = 0) : timeB (nextP lw lc now).1 = true ∧ timeB (nextP lw lc now).2.1 = true ∧ cmpS lw lc (nextP lw lc now).1 (nextP lw lc now).2.1 < 0 := by
  unfold nextP at h ⊢
  split
  · rename_i g
    rw [if_pos g] at h
    cases h
  · rename_i g
    rw [if_neg g] at h
    have g' : (timeB lw && timeB lc) = true := by simpa using g
    rw [Bool.and_eq_true, timeB_iff, timeB_iff] at g'
    split
    · rename_i g2
      rw [if_pos g2] at h
      cases h
    · rename_i g2
      rw [if_neg g2] at h
      have g2' : timeB now = true := by simpa using g2
      split
      · rename_i g3
        show timeB now = true ∧ timeB 0 = true ∧ cmpS lw lc now 0 < 0
        refine ⟨g2', timeB_true (by decide) (by decide), ?_⟩
        rcases cmpS_cases lw lc now 0 with ⟨a, e⟩ | ⟨a, e⟩ | ⟨a, e⟩ <;> simp only [e] <;> omega
      · rename_i g3
        rw [if_neg g3] at h
        split
        · rename_i g4
          rw [if_pos g4] at h
          cases h
        · rename_i g4
          show timeB lw = true ∧ timeB (lc + 1) = true ∧ cmpS lw lc lw (lc + 1) < 0
          refine ⟨timeB_true g'.1.1 g'.1.2, timeB_true (by omega) (by omega), ?_⟩
          rcases cmpS_cases lw lc lw (lc + 1) with ⟨a, e⟩ | ⟨a, e⟩ | ⟨a, e⟩ <;> simp only [e] <;> omega
theorem depOf_set (i q d0 d1 d2 d3 s : Int) (h0 : 0 ≤ s) (h3 : s ≤ 3) : depOf s (setV0 i q d0) (setV1 i q d1) (setV2 i q d2) (setV3 i q d3) = if s = i then q else depOf s d0 d1 d2 d3 := by
  have hc : s = 0 ∨ s = 1 ∨ s = 2 ∨ s = 3 := by omega
  rcases hc with rfl | rfl | rfl | rfl <;> simp [depOf, setV0, setV1, setV2, setV3, eq_comm]
theorem Goes.log {S S' : SiteS} (h : Goes S S') : (∀ x ∈ S.log, x ∈ S'.log) ∧ S'.waits.length ≤ S.waits.length := by
  induction h with
  | full _ => exact ⟨fun _ h => h, Nat.le_refl _⟩
  | none _ => exact ⟨fun _ h => h, Nat.le_refl _⟩
  | step _ _ _ ih => exact ⟨fun x hx => ih.1 x (List.mem_append.2 (.inl hx)), Nat.le_trans ih.2 (List.length_filter_le _ _)⟩
section
/-- what was sent: a transaction, or an ask of a site that has so much -/
inductive GrB
  | tx (t : TxP)
  | ask (site a0 a1 a2 a3 : Int)
structure GrS where
  to : Nat
  body : GrB
structure WoS where
  n : Nat
  c : Nat
  S : Nat → SiteS
  wall : Nat → Int
  ses : Nat → SesS
  at_ : Nat → Nat
  net : List GrS
  lost : Int
def setN {α : Type} (f : Nat → α) (i : Nat) (x : α) : Nat → α := fun j => if j = i then x else f j
theorem setN_same {α : Type} (f : Nat → α) (i : Nat) (x : α) : setN f i x i = x := by simp [setN]
theorem setN_ne {α : Type} (f : Nat → α) {i j : Nat} (x : α) (h : j ≠ i) : setN f i x j = f j := by simp [setN, h]
def newW (n c : Nat) : WoS := ⟨n, c, fun i => newS i, fun _ => 0, fun _ => newSes, fun _ => 0, [], 0⟩
def setSite (W : WoS) (i : Nat) (S' : SiteS) : WoS := { W with S := setN W.S i S' }
def setSes (W : WoS) (k : Nat) (s' : SesS) : WoS := { W with ses := setN W.ses k s' }
/-- it is under way, or lost for want of room -/
def sendW (W : WoS) (g : GrS) : WoS := if 300 ≤ W.net.length then { W with lost := wrap64 (W.lost + 1) } else { W with net := W.net ++ [g] }
/-- a transaction to all of the first k sites but its own -/
def tellW (t : TxP) : Nat → WoS → WoS
  | 0, W => W
  | k + 1, W => if (k : Int) = t.site then tellW t k W else sendW (tellW t k W) ⟨k, .tx t⟩
/-- transactions to a site, but its own -/
def sendsW (other : Nat) : List TxP → WoS → WoS
  | [], W => W
  | t :: l, W => sendsW other l (if t.site = (other : Int) then W else sendW W ⟨other, .tx t⟩)
/-- another site's ask: what it has is noted, what it lacks is sent -/
def answerW (W : WoS) (k other : Nat) (v0 v1 v2 v3 : Int) : WoS :=
  sendsW other (missP (W.S k) v0 v1 v2 v3) (setSite W k (knowsS (W.S k) other v0 v1 v2 v3))
def askW (W : WoS) (k other : Nat) : WoS := sendW W ⟨other, .ask k (W.S k).a0 (W.S k).a1 (W.S k).a2 (W.S k).a3⟩
/-- a site has what was sent to it -/
def ComeTo (W : WoS) (g : GrS) (W' : WoS) : Prop :=
  match g.body with
  | .tx t => ∃ S', TakesTo (W.S g.to) t S' ∧ W' = setSite W g.to S'
  | .ask site v0 v1 v2 v3 => if 0 ≤ site ∧ site < (W.n : Int) then W' = answerW W g.to site.toNat v0 v1 v2 v3 else W' = W
def dropW' (W : WoS) (i : Nat) : WoS := { W with net := W.net.eraseIdx i }
def DeliverTo (W : WoS) (i : Nat) (W' : WoS) : Prop := ∃ g, W.net[i]? = some g ∧ ComeTo (dropW' W i) g W'
/-- all that is under way comes, with all that is sent by that -/
inductive BringTo : WoS → WoS → Prop
  | none {W : WoS} : W.net = [] → BringTo W W
  | step {W W1 W' : WoS} : W.net ≠ [] → DeliverTo W 0 W1 → BringTo W1 W' → BringTo W W'
/-- a site asks all of the first m sites but itself, one behind the other -/
inductive AsksTo (k : Nat) : Nat → WoS → WoS → Prop
  | zero {W : WoS} : AsksTo k 0 W W
  | self {W W' : WoS} {m : Nat} : AsksTo k m W W' → m = k → AsksTo k (m + 1) W W'
  | ask {W W1 W' : WoS} {m : Nat} : AsksTo k m W W1 → m ≠ k → BringTo (askW W1 k m) W' → AsksTo k (m + 1) W W'
/-- the first m sites ask -/
inductive RoundTo : Nat → WoS → WoS → Prop
  | zero {W : WoS} : RoundTo 0 W W
  | next {W W1 W' : WoS} {m : Nat} : RoundTo m W W1 → AsksTo m W1.n W1 W' → RoundTo (m + 1) W W'
def CalmTo (W W' : WoS) : Prop := ∃ W1, BringTo W W1 ∧ RoundTo W1.n W1 W'

section
variable {W W' : WoS} {g : GrS} {t : TxP} {k other : Nat}
/-- what sending leaves as it was -/
structure SameW (W W' : WoS) : Prop where
  n : W'.n = W.n
  c : W'.c = W.c
  S : W'.S = W.S
  wall : W'.wall = W.wall
  ses : W'.ses = W.ses
  at_ : W'.at_ = W.at_
theorem SameW.refl (W : WoS) : SameW W W := ⟨rfl, rfl, rfl, rfl, rfl, rfl⟩
theorem SameW.trans {A B C : WoS} (h : SameW A B) (k : SameW B C) : SameW A C := ⟨k.n.trans h.n, k.c.trans h.c, k.S.trans h.S, k.wall.trans h.wall, k.ses.trans h.ses, k.at_.trans h.at_⟩
theorem sendW_same (W : WoS) (g : GrS) : SameW W (sendW W g) := by
  unfold sendW
  split <;> exact ⟨rfl, rfl, rfl, rfl, rfl, rfl⟩
theorem sendW_net (h : W.net.length < 300) : (sendW W g).net = W.net ++ [g] := by
  unfold sendW
  rw [if_neg (by omega)]
theorem sendW_mem {x : GrS} (h : x ∈ (sendW W g).net) : x ∈ W.net ∨ x = g := by
  unfold sendW at h
  split at h
  · exact .inl h
  · simpa using h
theorem tellW_same (t : TxP) : ∀ (k : Nat) (W : WoS), SameW W (tellW t k W)
  | 0, W => SameW.refl W
  | k + 1, W => by
    unfold tellW
    split
    · exact tellW_same t k W
    · exact (tellW_same t k W).trans (sendW_same _ _)
theorem tellW_mem {x : GrS} : ∀ (k : Nat), x ∈ (tellW t k W).net → x ∈ W.net ∨ (x.to < k ∧ x.body = .tx t)
  | 0, h => .inl h
  | k + 1, h => by
    unfold tellW at h
    split at h
    · rcases tellW_mem k h with q | ⟨q, r⟩
      · exact .inl q
      · exact .inr ⟨by omega, r⟩
    · rcases sendW_mem h with q | q
      · rcases tellW_mem k q with q | ⟨q, r⟩
        · exact .inl q
        · exact .inr ⟨by omega, r⟩
      · rw [q]
        exact .inr ⟨by show k < k + 1; omega, rfl⟩
theorem sendsW_same (other : Nat) : ∀ (l : List TxP) (W : WoS), SameW W (sendsW other l W)
  | [], W => SameW.refl W
  | t :: l, W => by
    unfold sendsW
    refine SameW.trans ?_ (sendsW_same other l _)
    split
    · exact SameW.refl _
    · exact sendW_same _ _
theorem sendsW_mem {x : GrS} : ∀ (l : List TxP) (W : WoS), x ∈ (sendsW other l W).net → x ∈ W.net ∨ (x.to = other ∧ ∃ t ∈ l, t.site ≠ (other : Int) ∧ x.body = .tx t)
  | [], W, h => .inl h
  | t :: l, W, h => by
    unfold sendsW at h
    rcases sendsW_mem l _ h with q | ⟨q, y, hy, r⟩
    · split at q
      · exact .inl q
      · rename_i hn
        rcases sendW_mem q with q | q
        · exact .inl q
        · rw [q]
          exact .inr ⟨rfl, t, List.mem_cons_self, hn, rfl⟩
    · exact .inr ⟨q, y, List.mem_cons_of_mem _ hy, r⟩
end
end
section
/-- a pointer and a number -/
def pairC (b : Nat) (x : Int) : List Value := [.pointer (some ⟨b, 0, none⟩), .int .i64 x]
def pairsC (bp : Nat → Nat) (x : Nat → Int) (n : Nat) : List Value := (List.range n).flatMap (fun i => pairC (bp i) (x i))
/-- what is under way, as it lies: its bytes, in a block of their own -/
structure GrM where
  g : GrS
  blk : Nat
  cap : Nat
  S : ByteArray
def gramC (m : GrM) : List Value := [.int .i64 m.g.to, .slice (some ⟨m.blk, 0, none⟩) m.S.size m.cap]
def netC (l : List GrM) : List Value := l.flatMap gramC
def txv (t : TxP) : TxV := ⟨t.site, t.seq, t.wall, t.count, t.d0, t.d1, t.d2, t.d3, t.ws⟩
/-- these bytes are that -/
def isGram (L : List UInt8) : GrB → Prop
  | .tx t => Good L (txv t)
  | .ask site a0 a1 a2 a3 => GoodAsk L ⟨site, a0, a1, a2, a3⟩
structure GrM.Ok (w : World) (m : GrM) : Prop where
  own : Own w 0 m.blk m.cap m.S
  size : m.S.size ≤ 1000000
  is : isGram (toL m.S) m.g.body
theorem GrM.Ok.kept {w w' : World} {m : GrM} (h : m.Ok w) (hb : w'.heap[m.blk]? = w.heap[m.blk]?) (hs : w.heap.size ≤ w'.heap.size) : m.Ok w' := ⟨h.own.kept hb hs, h.size, h.is⟩

theorem flat2_at {α : Type} (f : α → List Value) (hf : ∀ x, (f x).length = 2) : ∀ (l : List α) (i r : Nat) (x : α) (u : Value), l[i]? = some x → (f x)[r]? = some u → (l.flatMap f)[i * 2 + r]? = some u
  | [], i, r, x, u, h, _ => by simp at h
  | y :: l, 0, r, x, u, h, hu => by
    have e : y = x := by simpa using h
    subst e
    have hr : r < 2 := by have := (List.getElem?_eq_some_iff.1 hu).1; rw [hf] at this; exact this
    rw [List.flatMap_cons, Nat.zero_mul, Nat.zero_add, List.getElem?_append_left (by rw [hf]; exact hr)]
    exact hu
  | y :: l, i + 1, r, x, u, h, hu => by
    have h' : l[i]? = some x := by simpa using h
    rw [List.flatMap_cons, List.getElem?_append_right (by rw [hf]; omega), hf, show (i + 1) * 2 + r - 2 = i * 2 + r by omega]
    exact flat2_at f hf l i r x u h' hu
theorem pairs_at {bp : Nat → Nat} {x : Nat → Int} {n i : Nat} (hi : i < n) : (pairsC bp x n)[i * 2]? = some (.pointer (some ⟨bp i, 0, none⟩)) ∧ (pairsC bp x n)[i * 2 + 1]? = some (.int .i64 (x i)) :=
  ⟨flat2_at _ (fun _ => rfl) _ i 0 i _ (List.getElem?_range hi) rfl, flat2_at _ (fun _ => rfl) _ i 1 i _ (List.getElem?_range hi) rfl⟩
theorem net_at {l : List GrM} {i : Nat} {m : GrM} (hi : l[i]? = some m) : (netC l)[i * 2]? = some (.int .i64 m.g.to) ∧ (netC l)[i * 2 + 1]? = some (.slice (some ⟨m.blk, 0, none⟩) m.S.size m.cap) :=
  ⟨flat2_at _ (fun _ => rfl) _ i 0 m _ hi rfl, flat2_at _ (fun _ => rfl) _ i 1 m _ hi rfl⟩
theorem pairsC_length (bp : Nat → Nat) (x : Nat → Int) : ∀ n, (pairsC bp x n).length = n * 2
  | 0 => rfl
  | n + 1 => by
    unfold pairsC
    rw [List.range_succ, List.flatMap_append, List.length_append]
    have := pairsC_length bp x n
    unfold pairsC at this
    rw [this]
    simp [pairC]
    omega
theorem netC_length (l : List GrM) : (netC l).length = l.length * 2 := by
  induction l with
  | nil => rfl
  | cons x l ih =>
    show (gramC x ++ netC l).length = _
    rw [List.length_append, ih]
    simp [gramC]
    omega
/-- a row's cells, where it lies -/
structure RowIn (w : World) (a : Option Addr) (cap n : Nat) (L : List Value) : Prop where
  len : n ≤ cap
  cap : cap ≤ 9223372036854775807
  held : n = 0 ∨ ∃ g, a = some ⟨g, 0, none⟩ ∧ g < w.heap.size ∧ ∀ j u, L[j]? = some u → w.cell? ⟨g, j, none⟩ = some u
theorem rowIn_own {w : World} {B k : Nat} {T : TypeId} {v : Value} {n : Nat} {L : List Value} (h : w.ownsRow B T k v n L) : ∃ a cap, v = .slice a n cap ∧ RowIn w a cap n L := by
  have h' := h
  rcases h.2 with ⟨rfl, h0⟩ | ⟨g, cap, cur, rfl, hb, hg, hnc, hm, hs, ht⟩
  · exact ⟨none, 0, by rw [h0], ⟨by omega, by omega, .inl h0⟩⟩
  · refine ⟨_, cap, rfl, ⟨hnc, by simp only [maxLen] at hm; omega, .inr ⟨g, rfl, (h'.lt g rfl).2, fun j u hu => ?_⟩⟩⟩
    have hc := h'.cells (g := g) rfl j u hu
    rw [addr_add] at hc
    exact hc

/-- where a world lies -/
structure WoM where
  pv : Value
  cv : Value
  nv : Value
  bp : Nat → Nat
  bs : Nat → Nat
  l : List GrM
/-- blocks of its own: the box, the rows, the bytes that are under way -/
def footW (b : Nat) (M : WoM) (k : Nat) : Prop := k = b ∨ M.pv.ownBlock = some k ∨ M.cv.ownBlock = some k ∨ M.nv.ownBlock = some k ∨ ∃ m ∈ M.l, m.blk = k
def woParts (M : WoM) (W : WoS) : Nat → Part := fun i => if i < W.n then siteP (M.bp i) (W.S i) else sesP (M.bs (i - W.n)) (W.ses (i - W.n))
structure PWo (w : World) (b : Nat) (M : WoM) (W : WoS) (Gs : Nat → Nat → Prop) : Prop where
  box : RowL w b [M.pv, M.cv, M.nv, .int .i64 W.lost]
  pr : w.ownsRow 0 167 2 M.pv W.n (pairsC M.bp W.wall W.n)
  cr : w.ownsRow 0 171 2 M.cv W.c (pairsC M.bs (fun k => (W.at_ k : Int)) W.c)
  nr : w.ownsRow 0 205 2 M.nv M.l.length (netC M.l)
  nl : M.l.map (·.g) = W.net
  gr : ∀ m ∈ M.l, m.Ok w
  fam : AsideAt w (W.n + W.c) (woParts M W) Gs (footW b M) (W.n + W.c) NoY
  sb : M.pv.ownBlock ≠ some b ∧ M.cv.ownBlock ≠ some b ∧ M.nv.ownBlock ≠ some b
  sr : ∀ k, (M.pv.ownBlock = some k → M.cv.ownBlock ≠ some k ∧ M.nv.ownBlock ≠ some k) ∧ (M.cv.ownBlock = some k → M.nv.ownBlock ≠ some k)
  sg : ∀ m ∈ M.l, m.blk ≠ b ∧ M.pv.ownBlock ≠ some m.blk ∧ M.cv.ownBlock ≠ some m.blk ∧ M.nv.ownBlock ≠ some m.blk
section
variable {w w' : World} {b : Nat} {M : WoM} {W : WoS} {Gs : Nat → Nat → Prop}
theorem PWo.site (h : PWo w b M W Gs) {i : Nat} (hi : i < W.n) : PS w (M.bp i) (Gs i) (W.S i) := by
  have := h.fam.is i (by omega)
  unfold woParts at this
  rw [if_pos hi] at this
  exact this
theorem PWo.sess (h : PWo w b M W Gs) {k : Nat} (hk : k < W.c) : PSe w (M.bs k) (Gs (W.n + k)) (W.ses k) := by
  have := h.fam.is (W.n + k) (by omega)
  unfold woParts at this
  rw [if_neg (by omega), show W.n + k - W.n = k by omega] at this
  exact this
theorem PWo.keep (h : PWo w b M W Gs) {W' : WoS} {Gs' : Nat → Nat → Prop} (hk : Keeps (footW b M) w w') (hf : AsideAt w' (W.n + W.c) (woParts M W') Gs' (footW b M) (W.n + W.c) NoY) (en : W'.n = W.n) (ec : W'.c = W.c) (ew : W'.wall = W.wall) (ea : W'.at_ = W.at_) (et : W'.net = W.net) (el : W'.lost = W.lost) : PWo w' b M W' Gs' := by
  refine ⟨?_, ?_, ?_, own_keptN h.nr (fun k e => hk.block k (.inr (.inr (.inr (.inl e))))), by rw [et]; exact h.nl, fun m hm => (h.gr m hm).kept (hk.block _ (.inr (.inr (.inr (.inr ⟨m, hm, rfl⟩))))) hk.size, by rw [en, ec]; exact hf, h.sb, h.sr, h.sg⟩
  · rw [el]
    exact h.box.keeps hk (.inl rfl)
  · rw [en, ew]
    exact own_keptN h.pr (fun k e => hk.block k (.inr (.inl e)))
  · rw [ec, ea]
    exact own_keptN h.cr (fun k e => hk.block k (.inr (.inr (.inl e))))
end
/-- all of its blocks -/
def allG (b : Nat) (M : WoM) (N : Nat) (Gs : Nat → Nat → Prop) (k : Nat) : Prop := footW b M k ∨ ∃ i, i < N ∧ Gs i k
/-- a world of the program in memory: all that it holds lies in blocks of G -/
def PW (w : World) (b : Nat) (G : Nat → Prop) (W : WoS) : Prop := ∃ M Gs, PWo w b M W Gs ∧ ∀ k, G k ↔ allG b M (W.n + W.c) Gs k
section
variable {w w' : World} {b : Nat} {G : Nat → Prop} {M : WoM} {W : WoS} {Gs : Nat → Nat → Prop}
theorem PWo.ltF (h : PWo w b M W Gs) : ∀ k, footW b M k → k < w.heap.size := fun k hk => (h.fam.free k hk).1
theorem PWo.ltG (h : PWo w b M W Gs) {i k : Nat} (hi : i < W.n + W.c) (hk : Gs i k) : k < w.heap.size := (woParts M W i).lt _ _ (h.fam.is i hi) k hk
theorem PW.lt (h : PW w b G W) : ∀ k, G k → k < w.heap.size := by
  obtain ⟨M, Gs, h, hG⟩ := h
  intro k hk
  rcases (hG k).1 hk with q | ⟨i, hi, q⟩
  · exact h.ltF k q
  · exact h.ltG hi q
theorem PW.kept (h : PW w b G W) (hk : ∀ k, G k → w'.heap[k]? = w.heap[k]?) (hs : w.heap.size ≤ w'.heap.size) : PW w' b G W := by
  obtain ⟨M, Gs, h, hG⟩ := h
  have kF : ∀ k, footW b M k → w'.heap[k]? = w.heap[k]? := fun k q => hk k ((hG k).2 (.inl q))
  refine ⟨M, Gs, ⟨h.box.kept (kF b (.inl rfl)) hs, own_keptN h.pr (fun k e => kF k (.inr (.inl e))), own_keptN h.cr (fun k e => kF k (.inr (.inr (.inl e)))), own_keptN h.nr (fun k e => kF k (.inr (.inr (.inr (.inl e))))), h.nl, fun m hm => (h.gr m hm).kept (kF _ (.inr (.inr (.inr (.inr ⟨m, hm, rfl⟩))))) hs, h.fam.to (fun j k hj e => hk k ((hG k).2 (.inr ⟨j, hj, e⟩))) hs (fun k e => ⟨.inl e, Nat.lt_of_lt_of_le (h.ltF k e) hs⟩), h.sb, h.sr, h.sg⟩, hG⟩
theorem PW.later (h : PW w b G W) (hb : Below w.heap.size w w') : PW w' b G W := h.kept (fun k hk => hb.block k (h.lt k hk)) hb.size
end
def woP (b : Nat) (W : WoS) : Part := ⟨fun w G => PW w b G W, fun _ _ h => h.lt, fun _ _ _ h => h.kept⟩
/-- what is left of it -/
def PWPo (w : World) (b : Nat) (G : Nat → Prop) (W' : WoS) (w' : World) : Prop := Left (woP b W') w G w'
section
variable {w w' : World} {b : Nat} {G : Nat → Prop} {M : WoM} {W : WoS} {Gs : Nat → Nat → Prop}
theorem PWPo.same (h : PW w b G W) (hb : Below w.heap.size w w') : PWPo w b G W w' := ⟨G, h.later hb, fun _ hk => .inl hk, Touch.ofBelow hb⟩
theorem PWo.stepS (h : PWo w b M W Gs) (hG : ∀ k, G k ↔ allG b M (W.n + W.c) Gs k) {i : Nat} (hi : i < W.n) {S' : SiteS} (hl : PPo w (M.bp i) (Gs i) S' w') : PWPo w b G (setSite W i S') w' := by
  obtain ⟨Gs', f, g, kp, tt⟩ := h.fam.stepG (ps' := woParts M (setSite W i S')) (i := i) (by omega) (p := siteP (M.bp i) S') hl (by show (if i < W.n then _ else _) = _; rw [if_pos hi]; show siteP (M.bp i) (setN W.S i S' i) = _; rw [setN_same]) (fun j hj hji => by
    show (if j < W.n then siteP (M.bp j) (setN W.S i S' j) else _) = (if j < W.n then _ else _)
    rw [setN_ne _ _ hji]
    rfl)
  refine ⟨allG b M (W.n + W.c) Gs', ⟨M, Gs', h.keep kp f rfl rfl rfl rfl rfl rfl, fun _ => Iff.rfl⟩, fun k hk => ?_, ⟨tt.os, tt.tape, tt.output, tt.size, fun k hk hn => tt.block k hk (fun e => hn ((hG k).2 (.inr ⟨i, by omega, e⟩)))⟩⟩
  rcases hk with q | ⟨j, hj, q⟩
  · exact .inl ((hG k).2 (.inl q))
  · rcases g j k q with r | r
    · exact .inl ((hG k).2 (.inr ⟨j, hj, r⟩))
    · exact .inr r
theorem PWo.stepC (h : PWo w b M W Gs) (hG : ∀ k, G k ↔ allG b M (W.n + W.c) Gs k) {i : Nat} (hi : i < W.c) {s' : SesS} (hl : PSPo w (M.bs i) (Gs (W.n + i)) s' w') : PWPo w b G (setSes W i s') w' := by
  obtain ⟨Gs', f, g, kp, tt⟩ := h.fam.stepG (ps' := woParts M (setSes W i s')) (i := W.n + i) (by omega) (p := sesP (M.bs i) s') hl (by show (if W.n + i < W.n then _ else _) = _; rw [if_neg (by omega)]; show sesP (M.bs (W.n + i - W.n)) (setN W.ses i s' (W.n + i - W.n)) = _; rw [show W.n + i - W.n = i by omega, setN_same]) (fun j hj hji => by
    show (if j < W.n then _ else sesP (M.bs (j - W.n)) (setN W.ses i s' (j - W.n))) = (if j < W.n then _ else _)
    by_cases q : j < W.n
    · rw [if_pos q, if_pos q]; rfl
    · rw [if_neg q, if_neg q, setN_ne _ _ (by omega)])
  refine ⟨allG b M (W.n + W.c) Gs', ⟨M, Gs', h.keep kp f rfl rfl rfl rfl rfl rfl, fun _ => Iff.rfl⟩, fun k hk => ?_, ⟨tt.os, tt.tape, tt.output, tt.size, fun k hk hn => tt.block k hk (fun e => hn ((hG k).2 (.inr ⟨W.n + i, by omega, e⟩)))⟩⟩
  rcases hk with q | ⟨j, hj, q⟩
  · exact .inl ((hG k).2 (.inl q))
  · rcases g j k q with r | r
    · exact .inl ((hG k).2 (.inr ⟨j, hj, r⟩))
    · exact .inr r
end
end
section
/-- a site, none of whose blocks is of Y -/
def siteX (b : Nat) (S : SiteS) (Y : Nat → Prop) : Part := ⟨fun w G => PS w b G S ∧ ∀ k, Y k → ¬ G k, fun _ _ h => h.1.lt, fun _ _ _ h a c => ⟨h.1.kept a c, h.2⟩⟩
/-- the same, and where what is told lies: in blocks that are new, and neither the session's nor the site's -/
def PSCommitA (w : World) (b bx : Nat) (G Gx : Nat → Prop) (S : SiteS) (s : SesS) (now : Int) (e : Ending) (w' : World) : Prop :=
  ∃ m : TxM, e = .returned (.tuple #[txV m, errV (scomE S s now)]) ∧ m.t = scomT S s now ∧ Hid (WrIn w' m.wa m.wc m.t.ws ∧ Left2 (sesP b (scomSes S s now)) (siteX bx (scomS S s now) m.blk) w G Gx m.blk w')
section
variable {p : Part} {w w' : World} {G Gx Y Z : Nat → Prop} {bx : Nat} {S : SiteS}
theorem left2_x (h : Left2 p (siteP bx S) w G Gx Z w') (hY : ∀ k, ¬ Y k) : Left2 p (siteX bx S Y) w G Gx Y w' := by
  obtain ⟨G', H', p1, q1, p2, q2, pq, _, tt⟩ := h
  exact ⟨G', H', p1, ⟨q1, fun k hk => absurd hk (hY k)⟩, p2, q2, pq, fun k hk => absurd hk (hY k), tt⟩
theorem left2_s (h : Left2 p (siteX bx S Y) w G Gx Z w') : Left2 p (siteP bx S) w G Gx NoY w' := by
  obtain ⟨G', H', p1, q1, p2, q2, pq, _, tt⟩ := h
  exact ⟨G', H', p1, q1.1, p2, q2, pq, fun k hk => hk.elim, tt⟩
end
end
section
variable {p q : Part} {w wA wB wC wD wF : World} {G Gx Y N : Nat → Prop}
theorem com_mid (hGl : ∀ k, G k → k < w.heap.size) (hd : ∀ k, G k → ¬ Gx k) (hA : Below w.heap.size w wA) (hN : ∀ k, N k → w.heap.size ≤ k ∧ k < wA.heap.size) (hB : Left q wA Gx wB) (hC : Touch N wB wC) : (∀ k, G k → wC.heap[k]? = w.heap[k]?) ∧ w.heap.size ≤ wC.heap.size := by
  obtain ⟨H1, q1, qs, tB⟩ := hB
  refine ⟨fun k hk => ?_, Nat.le_trans hA.size (Nat.le_trans tB.size hC.size)⟩
  have h1 := hGl k hk
  have h2 : k < wA.heap.size := Nat.lt_of_lt_of_le h1 hA.size
  exact (hC.block k (Nat.lt_of_lt_of_le h2 tB.size) (fun e => by have := (hN k e).1; omega)).trans ((tB.block k h2 (hd k hk)).trans (hA.block k h1))
theorem com_fin (hGl : ∀ k, G k → k < w.heap.size) (hXl : ∀ k, Gx k → k < w.heap.size) (hd : ∀ k, G k → ¬ Gx k) (hA : Below w.heap.size w wA) (hN : ∀ k, N k → w.heap.size ≤ k ∧ k < wA.heap.size) (hB : Left q wA Gx wB) (hY : ∀ k, Y k → wA.heap.size ≤ k ∧ k < wB.heap.size)
    (hC : Touch N wB wC) (hD : Left p wC G wD) (hF : Touch N wD wF) : Left2 p q w G Gx Y wF ∧ ∀ k, Y k → wF.heap[k]? = wB.heap[k]? := by
  obtain ⟨H1, q1, qs, tB⟩ := hB
  obtain ⟨G1, p1, ps, tD⟩ := hD
  have sA := hA.size
  have sB := tB.size
  have sC := hC.size
  have sD := tD.size
  have sF := hF.size
  have Hlt : ∀ k, H1 k → k < wB.heap.size := fun k hk => q.lt _ _ q1 k hk
  have HN : ∀ k, H1 k → ¬ N k := fun k hk e => by
    have := hN k e
    rcases qs k hk with h | h
    · have := hXl k h; omega
    · omega
  have HG : ∀ k, H1 k → ¬ G k := fun k hk e => by
    rcases qs k hk with h | h
    · exact hd k e h
    · have := hGl k e; omega
  have GN : ∀ k, G1 k → ¬ N k := fun k hk e => by
    have := hN k e
    rcases ps k hk with h | h
    · have := hGl k h; omega
    · omega
  refine ⟨⟨G1, H1, ?_, ?_, fun k hk => ?_, fun k hk => ?_, fun k hk h1 => ?_, fun k hk => ⟨?_, ?_, fun e => ?_⟩, ⟨?_, ?_, ?_, ?_, fun k hk hn => ?_⟩⟩, fun k hk => ?_⟩
  · exact p.kept _ _ _ p1 (fun k hk => hF.block k (p.lt _ _ p1 k hk) (GN k hk)) sF
  · have r1 := q.kept _ _ _ q1 (fun k hk => hC.block k (Hlt k hk) (HN k hk)) sC
    have r2 := q.kept _ _ _ r1 (fun k hk => tD.block k (by have := Hlt k hk; omega) (HG k hk)) sD
    exact q.kept _ _ _ r2 (fun k hk => hF.block k (by have := Hlt k hk; omega) (HN k hk)) sF
  · rcases ps k hk with h | h
    · exact .inl h
    · exact .inr (by omega)
  · rcases qs k hk with h | h
    · exact .inl h
    · exact .inr (by omega)
  · rcases ps k hk with h | h
    · exact HG k h1 h
    · have := Hlt k h1; omega
  · have := (hY k hk).1; omega
  · have := (hY k hk).2; omega
  · have := hY k hk
    rcases ps k e with h | h
    · have := hGl k h; omega
    · omega
  · exact hF.os.trans (tD.os.trans (hC.os.trans (tB.os.trans hA.os)))
  · exact hF.tape.trans (tD.tape.trans (hC.tape.trans (tB.tape.trans hA.tape)))
  · exact hF.output.trans (tD.output.trans (hC.output.trans (tB.output.trans hA.output)))
  · omega
  · have nN : ¬ N k := fun e => by have := (hN k e).1; omega
    exact (hF.block k (by omega) nN).trans ((tD.block k (by omega) (fun e => hn (.inl e))).trans ((hC.block k (by omega) nN).trans ((tB.block k (by omega) (fun e => hn (.inr e))).trans (hA.block k hk))))
  · have y := hY k hk
    have nN : ¬ N k := fun e => by have := (hN k e).2; omega
    exact (hF.block k (by omega) nN).trans ((tD.block k (by omega) (fun e => by have := hGl k e; omega)).trans (hC.block k (by omega) nN))
theorem left2_same {p q : Part} {w w' : World} {G Gx : Nat → Prop} (hp : p.is w G) (hq : q.is w Gx) (hd : ∀ k, G k → ¬ Gx k) (hb : Below w.heap.size w w') (Y : Nat → Prop) (hY : ∀ k, ¬ Y k) : Left2 p q w G Gx Y w' :=
  ⟨G, Gx, p.kept _ _ _ hp (fun k hk => hb.block k (p.lt _ _ hp k hk)) hb.size, q.kept _ _ _ hq (fun k hk => hb.block k (q.lt _ _ hq k hk)) hb.size, fun _ hk => .inl hk, fun _ hk => .inl hk, hd, fun k hk => absurd hk (hY k), Touch.ofBelow hb⟩
end
theorem touch_tx' {F : Nat → Prop} {w W : World} {b : Nat} (h : Touch F w W) (hB : F b) (x0 x1 x2 x3 x4 x5 x6 x7 : Int) (v : Value) : Touch F w (setTx W b x0 x1 x2 x3 x4 x5 x6 x7 v) :=
  ((((((((h.trans (Touch.setCell _ _ _ hB)).trans (Touch.setCell _ _ _ hB)).trans (Touch.setCell _ _ _ hB)).trans (Touch.setCell _ _ _ hB)).trans (Touch.setCell _ _ _ hB)).trans (Touch.setCell _ _ _ hB)).trans (Touch.setCell _ _ _ hB)).trans (Touch.setCell _ _ _ hB)).trans (Touch.setCell _ _ _ hB)

/-- a cell of what it has seen -/
def pastN (n : Nat) (x : Int) (s : SesS) : SesS := { s with p0 := if n = 0 then x else s.p0, p1 := if n = 1 then x else s.p1, p2 := if n = 2 then x else s.p2, p3 := if n = 3 then x else s.p3 }
theorem past_at {s : SesS} {wv : Value} {n : Int} (h0 : 0 ≤ n) (h3 : n ≤ 3) : (rsesC s wv)[n.toNat]? = some (.int .i64 (depOf n s.p0 s.p1 s.p2 s.p3)) := by
  have hc : n = 0 ∨ n = 1 ∨ n = 2 ∨ n = 3 := by omega
  rcases hc with rfl | rfl | rfl | rfl <;> rfl
theorem ppast_at {s : SesS} {mv : Value} {n : Int} (h0 : 0 ≤ n) (h3 : n ≤ 3) : (psesC s mv)[n.toNat]? = some (.int .i64 (depOf n s.p0 s.p1 s.p2 s.p3)) := by
  have hc : n = 0 ∨ n = 1 ∨ n = 2 ∨ n = 3 := by omega
  rcases hc with rfl | rfl | rfl | rfl <;> rfl
theorem atLeast_eq {site seq : Int} {s : SesS} (h0 : 0 ≤ site) (h3 : site ≤ 3) : atLeast site seq s = pastN site.toNat (maxZ (depOf site s.p0 s.p1 s.p2 s.p3) seq) s := by
  have hc : site = 0 ∨ site = 1 ∨ site = 2 ∨ site = 3 := by omega
  rcases hc with rfl | rfl | rfl | rfl <;> rfl
theorem PSPo.after {w w1 w2 : World} {b : Nat} {G : Nat → Prop} {s : SesS} (h : PSPo w b G s w1) (hb : Below w1.heap.size w1 w2) : PSPo w b G s w2 := by
  obtain ⟨G', h1, h2, h3⟩ := h
  exact ⟨G', h1.later hb, h2, h3.trans (Touch.ofBelow hb)⟩
theorem PSPo.past {w w1 : World} {b : Nat} {G : Nat → Prop} {s : SesS} (hG : G b) (h : PSPo w b G s w1) {n : Nat} (hn : n < 4) (x : Int) : PSPo w b G (pastN n x s) (w1.setCell ⟨b, n, none⟩ (.int .i64 x)) := by
  obtain ⟨G', h1, h2, h3⟩ := h
  exact past_box h1 h2 hG h3 n hn x
theorem tx0_in (w : World) : WrIn w tx0.wa tx0.wc tx0.t.ws := ⟨Nat.le_refl _, by decide, .inl rfl⟩
theorem tx0_blk (k : Nat) : ¬ tx0.blk k := fun h => absurd rfl h.1
theorem scom_yes {S : SiteS} {s : SesS} {now : Int} (ho : s.opn = true) (hl : (allW s.ws).length ≠ 0) :
    scomE S s now = comE S now s.s0 s.s1 s.s2 s.s3 (allW s.ws) ∧ scomT S s now = comT S now s.s0 s.s1 s.s2 s.s3 (allW s.ws) ∧ scomS S s now = comS S now s.s0 s.s1 s.s2 s.s3 (allW s.ws) := by
  have n1 : ¬ s.opn = false := by rw [ho]; decide
  have n2 : ¬ (s.opn = false ∨ (allW s.ws).length = 0) := by rintro (h | h); exact n1 h; exact hl h
  exact ⟨by unfold scomE; rw [if_neg n1, if_neg hl], by unfold scomT; rw [if_neg n2], by unfold scomS; rw [if_neg n2]⟩
theorem scom_none {S : SiteS} {s : SesS} {now : Int} (ho : s.opn = true) (hl : (allW s.ws).length = 0) :
    scomE S s now = 0 ∧ scomT S s now = tx0.t ∧ scomS S s now = S ∧ scomSes S s now = endS s := by
  have n1 : ¬ s.opn = false := by rw [ho]; decide
  have E : scomE S s now = 0 := by unfold scomE; rw [if_neg n1, if_pos hl]
  exact ⟨E, by unfold scomT; rw [if_pos (.inr hl)]; rfl, by unfold scomS; rw [if_pos (.inr hl)], by unfold scomSes; rw [if_neg (by rw [E]; decide), if_pos hl]⟩
theorem scom_shut {S : SiteS} {s : SesS} {now : Int} (ho : s.opn = false) :
    scomE S s now = 6 ∧ scomT S s now = tx0.t ∧ scomS S s now = S ∧ scomSes S s now = s := by
  have E : scomE S s now = 6 := by unfold scomE; rw [if_pos ho]
  exact ⟨E, by unfold scomT; rw [if_pos (.inl ho)]; rfl, by unfold scomS; rw [if_pos (.inl ho)], by unfold scomSes; rw [if_pos (by rw [E]; decide)]⟩
theorem scom_bad {S : SiteS} {s : SesS} {now : Int} (ho : s.opn = true) (hl : (allW s.ws).length ≠ 0) (hE : comE S now s.s0 s.s1 s.s2 s.s3 (allW s.ws) ≠ 0) : scomSes S s now = s ∧ comS S now s.s0 s.s1 s.s2 s.s3 (allW s.ws) = S ∧ comT S now s.s0 s.s1 s.s2 s.s3 (allW s.ws) = tx0.t := by
  refine ⟨by unfold scomSes; rw [if_pos (by rw [(scom_yes ho hl).1]; exact hE)], by unfold comS; rw [if_neg hE], by unfold comT; rw [if_neg hE]; rfl⟩
theorem scom_good {S : SiteS} {s : SesS} {now : Int} (ho : s.opn = true) (hl : (allW s.ws).length ≠ 0) (hE : comE S now s.s0 s.s1 s.s2 s.s3 (allW s.ws) = 0) : scomSes S s now = atLeast (comT S now s.s0 s.s1 s.s2 s.s3 (allW s.ws)).site (comT S now s.s0 s.s1 s.s2 s.s3 (allW s.ws)).seq (endS s) ∧ (comT S now s.s0 s.s1 s.s2 s.s3 (allW s.ws)).site = S.id := by
  have y := scom_yes (S := S) (now := now) ho hl
  refine ⟨by unfold scomSes; rw [if_neg (by rw [y.1, hE]; decide), if_neg hl, y.2.1], by unfold comT; rw [if_pos hE]; rfl⟩
end Go.Proofs.YtoanjdndmlffdaaGreatDoor
