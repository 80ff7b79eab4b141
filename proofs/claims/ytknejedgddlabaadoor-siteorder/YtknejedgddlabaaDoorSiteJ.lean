/-
  All that was committed, one behind the other, and a site that has some of it: what it may take, and what comes of it, in whichever order; no Go in sight.
  What a site takes of all that was committed, in whichever order: each once; in the end it has all; no Go in sight.
  A commit at a site that has all of its own: it is the next of all that was committed; what is told depends on what was applied alone; no Go in sight.
  Several sites that commit, and take what the others committed: what is always so of them all; no Go in sight.
  Towards copsekeep.told: several sites apart, a row of pointers to them, a row of what was committed; what a Take and a Commit do to all that.
  Towards copsekeep.told: one more site is made, and its pointer is behind the others.
  Towards copsekeep.told: what is left of several sites apart where one of them commits, and where the transaction that it told lies in a box.
  Towards SiteOrder: a site that takes all that was committed, in whichever order; no Go in sight.
  Towards SiteOrder: two sites apart, and what is left of both where one takes a transaction.
  What one site commits another one takes (copsekeep.placed), as the model runs it.
-/
import Derived.Test.YtknejedgddlabaaDoorPTake
import Derived.Test.YtknejedgddlabaaDoorSiteI
import Derived.Test.YtknejedgddlabaaDoorPCommit
import Derived.Test.YtknejedgddlabaaDoorSiteD
import Derived.Test.YtknejedgddlabaaDoorSiteB
namespace Go.Proofs.YtknejedgddlabaaDoor
open Go.RowKit

/-- how many are of a site -/
def cnt (H : List TxP) (s : Int) : Nat := H.countP (fun x => decide (x.site = s))
theorem cnt_snoc (H : List TxP) (t : TxP) (s : Int) : cnt (H ++ [t]) s = cnt H s + if t.site = s then 1 else 0 := by
  unfold cnt
  rw [List.countP_append]
  by_cases h : t.site = s <;> simp [h]
/-- what a site has applied of another one's -/
def appl (S : SiteS) (s : Int) : Int := depOf s S.a0 S.a1 S.a2 S.a3
/-- what a transaction is over -/
def over (t : TxP) (s : Int) : Int := depOf s t.d0 t.d1 t.d2 t.d3
/-- all that was committed: each the next of its site, over what was there, later than its site's last -/
inductive Hist : List TxP → Prop
  | nil : Hist []
  | snoc {H : List TxP} {t : TxP} : Hist H → okT t = true → t.seq = cnt H t.site + 1 → (∀ s, 0 ≤ s → s ≤ 3 → over t s ≤ cnt H s) → (∀ x ∈ H, x.site = t.site → cmpS x.wall x.count t.wall t.count < 0) → Hist (H ++ [t])
theorem Hist.ok {H : List TxP} (h : Hist H) : ∀ x ∈ H, okT x = true := by
  induction h with
  | nil => intro x hx; cases hx
  | snoc _ h2 _ _ _ ih =>
    intro x hx
    rcases List.mem_append.1 hx with e | e
    · exact ih x e
    · rw [List.mem_singleton.1 e]; exact h2
theorem Hist.site {H : List TxP} (h : Hist H) {x : TxP} (hx : x ∈ H) : 0 ≤ x.site ∧ x.site ≤ 3 := (okT_parts (h.ok x hx)).1
theorem Hist.seq {H : List TxP} (h : Hist H) : ∀ x ∈ H, 1 ≤ x.seq ∧ x.seq ≤ cnt H x.site := by
  induction h with
  | nil => intro x hx; cases hx
  | @snoc H t _ h2 h3 _ _ ih =>
    intro x hx
    rw [cnt_snoc]
    rcases List.mem_append.1 hx with e | e
    · have := ih x e
      split <;> omega
    · rw [List.mem_singleton.1 e, if_pos rfl]
      omega
theorem Hist.uniq {H : List TxP} (h : Hist H) : ∀ x ∈ H, ∀ y ∈ H, x.site = y.site → x.seq = y.seq → x = y := by
  induction h with
  | nil => intro x hx; cases hx
  | @snoc H t h1 _ h3 _ _ ih =>
    intro x hx y hy e1 e2
    rcases List.mem_append.1 hx with a | a
    · rcases List.mem_append.1 hy with b | b
      · exact ih x a y b e1 e2
      · rw [List.mem_singleton.1 b] at e1 e2
        have := h1.seq x a
        rw [e1] at this
        omega
    · rw [List.mem_singleton.1 a] at e1 e2 ⊢
      rcases List.mem_append.1 hy with b | b
      · have := h1.seq y b
        rw [← e1] at this
        omega
      · rw [List.mem_singleton.1 b]
theorem Hist.all {H : List TxP} (h : Hist H) : ∀ (s n : Int), 1 ≤ n → n ≤ cnt H s → ∃ x ∈ H, x.site = s ∧ x.seq = n := by
  induction h with
  | nil => intro s n h1 h2; simp [cnt] at h2; omega
  | @snoc H t _ _ h3 _ _ ih =>
    intro s n h1 h2
    rw [cnt_snoc] at h2
    by_cases hn : n ≤ cnt H s
    · obtain ⟨x, hx, e⟩ := ih s n h1 hn
      exact ⟨x, List.mem_append.2 (.inl hx), e⟩
    · by_cases hs : t.site = s
      · rw [if_pos hs] at h2
        refine ⟨t, List.mem_append.2 (.inr (List.mem_singleton.2 rfl)), hs, ?_⟩
        rw [h3, hs]
        omega
      · rw [if_neg hs] at h2
        omega
/-- of one site and stamp there is one -/
theorem Hist.stamp {H : List TxP} (h : Hist H) : ∀ x ∈ H, ∀ y ∈ H, x.site = y.site → x.wall = y.wall → x.count = y.count → x = y := by
  have irr : ∀ a b : Int, ¬ cmpS a b a b < 0 := fun a b => by
    rcases cmpS_cases a b a b with ⟨h, e⟩ | ⟨h, e⟩ | ⟨h, e⟩ <;> rw [e] <;> omega
  induction h with
  | nil => intro x hx; cases hx
  | @snoc H t h1 _ h3 _ h5 ih =>
    intro x hx y hy e1 e2 e3
    rcases List.mem_append.1 hx with a | a
    · rcases List.mem_append.1 hy with b | b
      · exact ih x a y b e1 e2 e3
      · rw [List.mem_singleton.1 b] at e1 e2 e3
        have := h5 x a e1
        rw [e2, e3] at this
        exact absurd this (irr _ _)
    · rw [List.mem_singleton.1 a] at e1 e2 e3 ⊢
      rcases List.mem_append.1 hy with b | b
      · have := h5 y b e1.symm
        rw [e2, e3] at this
        exact absurd this (irr _ _)
      · rw [List.mem_singleton.1 b]
/-- each is over what is ahead of it -/
theorem Hist.over {H : List TxP} (h : Hist H) : ∀ x ∈ H, ∀ s, 0 ≤ s → s ≤ 3 → over x s ≤ cnt H s := by
  induction h with
  | nil => intro x hx; cases hx
  | @snoc H t _ _ _ h4 _ ih =>
    intro x hx s h0 h3
    rw [cnt_snoc]
    rcases List.mem_append.1 hx with a | a
    · have := ih x a s h0 h3
      split <;> omega
    · rw [List.mem_singleton.1 a]
      have := h4 s h0 h3
      split <;> omega

/-- a site that has some of it -/
structure Over (H : List TxP) (S : SiteS) : Prop where
  lin : ∀ x ∈ S.log, x ∈ H
  nd : S.log.Nodup
  win : ∀ x ∈ S.waits, x ∈ H
  le : ∀ s, 0 ≤ s → s ≤ 3 → 0 ≤ appl S s ∧ appl S s ≤ cnt H s
  has : ∀ x ∈ H, x ∈ S.log ↔ x.seq ≤ appl S x.site
  wno : ∀ x ∈ S.waits, x ∉ S.log
  clo : ∀ x ∈ S.log, ∀ s, 0 ≤ s → s ≤ 3 → over x s ≤ appl S s
  lst : ∀ x ∈ S.log, cmpS x.wall x.count S.lw S.lc ≤ 0
  vs : ∀ h, h ∈ S.l ↔ ∃ t ∈ S.log, ∃ x ∈ t.ws, h = ⟨x.key, verOf t x⟩
theorem Over.new (H : List TxP) (hH : Hist H) (id : Int) : Over H (newS id) := by
  have e : ∀ s, appl (newS id) s = 0 := fun s => depOf_zero s
  refine ⟨fun x hx => (by cases hx), List.nodup_nil, fun x hx => (by cases hx), fun s _ _ => ⟨by rw [e]; exact Int.le_refl _, by rw [e]; omega⟩, fun x hx => ⟨fun h => (by cases h), fun h => ?_⟩, fun x hx => (by cases hx), fun x hx => (by cases hx), fun x hx => (by cases hx), fun h => ⟨fun hh => (by cases hh), fun hh => ?_⟩⟩
  · rw [e] at h
    have := (hH.seq x hx).1
    omega
  · obtain ⟨t, ht, _⟩ := hh
    cases ht
/-- more is committed, elsewhere -/
theorem Over.grow {H : List TxP} {S : SiteS} (h : Over H S) (hH : Hist H) {t : TxP} (hq : t.seq = cnt H t.site + 1) (ht : 0 ≤ t.site ∧ t.site ≤ 3) : Over (H ++ [t]) S := by
  refine ⟨fun x hx => List.mem_append.2 (.inl (h.lin x hx)), h.nd, fun x hx => List.mem_append.2 (.inl (h.win x hx)), fun s h0 h3 => ?_, fun x hx => ?_, h.wno, h.clo, h.lst, h.vs⟩
  · have := h.le s h0 h3
    rw [cnt_snoc]
    split <;> omega
  · rcases List.mem_append.1 hx with e | e
    · exact h.has x e
    · rw [List.mem_singleton.1 e]
      have l := h.le t.site ht.1 ht.2
      refine ⟨fun hm => ?_, fun hm => by omega⟩
      have := (hH.seq t (h.lin t hm)).2
      omega
/-- what is put of a transaction: all its writes, where none of its stamp and site was there -/
theorem puts_all {t : TxP} : ∀ (ws : List Wr) (l : List Hd), (∀ x ∈ ws, inB x.key 0 7 = true ∧ okVer (verOf t x) = true) → ws.Pairwise (fun x y => x.key ≠ y.key) → (∀ x ∈ ws, ∀ h ∈ l, ¬ (h.key = x.key ∧ Twin h.v (verOf t x))) → ∀ h, h ∈ putsT t ws l ↔ h ∈ l ∨ ∃ x ∈ ws, h = ⟨x.key, verOf t x⟩
  | [], l, _, _, _ => fun h => by simp [putsT]
  | x :: ws, l, ho, hp, hn => fun h => by
    obtain ⟨p1, p2⟩ := List.pairwise_cons.1 hp
    have e0 : putE l x.key (verOf t x) = 0 := by
      unfold putE
      rw [if_pos (ho x (List.mem_cons_self ..)).1, if_pos (ho x (List.mem_cons_self ..)).2, if_neg]
      intro ha
      obtain ⟨y, hy, e⟩ := List.any_eq_true.1 ha
      simp only [twinB, Bool.and_eq_true, decide_eq_true_eq] at e
      exact hn x (List.mem_cons_self ..) y hy ⟨e.1.1, e.1.2.1, e.1.2.2, e.2⟩
    have e1 : putL l x.key (verOf t x) = l ++ [⟨x.key, verOf t x⟩] := by unfold putL; rw [if_pos e0]
    have ih := puts_all ws (l ++ [⟨x.key, verOf t x⟩]) (fun y hy => ho y (List.mem_cons_of_mem _ hy)) p2 (fun y hy k hk => by
      rcases List.mem_append.1 hk with a | a
      · exact hn y (List.mem_cons_of_mem _ hy) k a
      · rw [List.mem_singleton.1 a]
        rintro ⟨e, _⟩
        exact p1 y hy e) h
    show h ∈ putsT t ws (putL l x.key (verOf t x)) ↔ _
    rw [e1, ih]
    constructor
    · rintro (a | ⟨y, hy, e⟩)
      · rcases List.mem_append.1 a with a | a
        · exact .inl a
        · exact .inr ⟨x, List.mem_cons_self .., List.mem_singleton.1 a⟩
      · exact .inr ⟨y, List.mem_cons_of_mem _ hy, e⟩
    · rintro (a | ⟨y, hy, e⟩)
      · exact .inl (List.mem_append.2 (.inl a))
      · rcases List.mem_cons.1 hy with e2 | e2
        · rw [e2] at e
          exact .inl (List.mem_append.2 (.inr (List.mem_singleton.2 e)))
        · exact .inr ⟨y, e2, e⟩
/-- writes that may be: each, and their keys rise -/
theorem okWs_rise {l : List Wr} (h : okWs l = true) : l.Pairwise (fun x y => x.key < y.key) := by
  have each := okWs_each h
  have up : ∀ i j, i < j → j < l.length → (wrAt l i).key < (wrAt l j).key := by
    intro i j hij hj
    induction j with
    | zero => omega
    | succ j ih =>
      have e := each (j + 1) hj
      simp only [okAt, Bool.and_eq_true, Bool.not_eq_true', Bool.and_eq_false_iff, decide_eq_false_iff_not, Nat.add_sub_cancel] at e
      have hk : (wrAt l j).key < (wrAt l (j + 1)).key := by
        rcases e.1.1.2 with e2 | e2
        · exact absurd (Nat.succ_pos j) e2
        · omega
      rcases Nat.lt_or_ge i j with g | g
      · have := ih g (by omega)
        omega
      · have : i = j := by omega
        rw [this]; exact hk
  rw [List.pairwise_iff_getElem]
  intro i j hi hj hij
  have := up i j hij hj
  simpa [wrAt, List.getD, List.getElem?_eq_getElem hi, List.getElem?_eq_getElem hj] using this
theorem okT_ws {t : TxP} (h : okT t = true) : okWs t.ws = true ∧ (timeB t.wall && timeB t.count) = true := by
  simp only [okT, okTx, Bool.and_eq_true] at h
  exact ⟨h.2, by simp [h.1.1.1.2]⟩
theorem okT_ver {t : TxP} (h : okT t = true) : ∀ x ∈ t.ws, inB x.key 0 7 = true ∧ okVer (verOf t x) = true := fun x hx => by
  obtain ⟨i, hi⟩ := List.getElem?_of_mem hx
  have hl : i < t.ws.length := (List.getElem?_eq_some_iff.1 hi).1
  have e : wrAt t.ws i = x := by unfold wrAt; rw [List.getD_eq_getElem?_getD, hi]; rfl
  have o := okWs_each (okT_ws h).1 i hl
  have p := okT_parts h
  have tt := (okT_ws h).2
  simp only [okAt, e, Bool.and_eq_true, decide_eq_true_eq] at o
  refine ⟨o.1.1.1, ?_⟩
  unfold okVer verOf
  simp only [Bool.and_eq_true, decide_eq_true_eq, inB_iff]
  simp only [Bool.and_eq_true] at tt
  exact ⟨⟨⟨⟨tt, p.1⟩, p.2.1⟩, by have := o.1.2; omega⟩, o.2⟩
theorem appl_apply {S : SiteS} {x : TxP} (s : Int) (h0 : 0 ≤ s) (h3 : s ≤ 3) : appl (applyS S x) s = if s = x.site then x.seq else appl S s := setV_dep x s h0 h3
theorem ready_iff {S : SiteS} {x : TxP} (h : readyS S x = true) : x.seq = appl S x.site + 1 ∧ ∀ s, 0 ≤ s → s ≤ 3 → over x s ≤ appl S s := by
  obtain ⟨h1, h2⟩ := readyS_seq h
  refine ⟨h1, fun s h0 h3 => ?_⟩
  rw [covB_iff] at h2
  have hc : s = 0 ∨ s = 1 ∨ s = 2 ∨ s = 3 := by omega
  rcases hc with rfl | rfl | rfl | rfl
  · exact h2.1
  · exact h2.2.1
  · exact h2.2.2.1
  · exact h2.2.2.2
theorem iff_ready {S : SiteS} {x : TxP} (h1 : x.seq = appl S x.site + 1) (h2 : ∀ s, 0 ≤ s → s ≤ 3 → over x s ≤ appl S s) : readyS S x = true := by
  unfold readyS
  rw [Bool.and_eq_true, decide_eq_true_eq]
  exact ⟨h1, covB_iff.2 ⟨h2 0 (by decide) (by decide), h2 1 (by decide) (by decide), h2 2 (by decide) (by decide), h2 3 (by decide) (by decide)⟩⟩
theorem cmp_later {tw tc lw lc xw xc : Int} (h : cmpS xw xc lw lc ≤ 0) : cmpS xw xc (if 0 < cmpS tw tc lw lc then tw else lw) (if 0 < cmpS tw tc lw lc then tc else lc) ≤ 0 := by
  split
  · rename_i g
    rcases cmpS_cases tw tc lw lc with ⟨a, e⟩ | ⟨a, e⟩ | ⟨a, e⟩ <;> rw [e] at g <;> try omega
    rcases cmpS_cases xw xc lw lc with ⟨b, f⟩ | ⟨b, f⟩ | ⟨b, f⟩ <;> rw [f] at h <;> try omega
    · rcases cmpS_cases xw xc tw tc with ⟨c, k⟩ | ⟨c, k⟩ | ⟨c, k⟩ <;> rw [k] <;> omega
    · rcases cmpS_cases xw xc tw tc with ⟨c, k⟩ | ⟨c, k⟩ | ⟨c, k⟩ <;> rw [k] <;> omega
  · exact h
theorem cmp_self (tw tc lw lc : Int) : cmpS tw tc (if 0 < cmpS tw tc lw lc then tw else lw) (if 0 < cmpS tw tc lw lc then tc else lc) ≤ 0 := by
  split
  · rcases cmpS_cases tw tc tw tc with ⟨c, k⟩ | ⟨c, k⟩ | ⟨c, k⟩ <;> rw [k] <;> omega
  · omega
/-- one that may be applied is -/
theorem Over.apply {H : List TxP} {S : SiteS} (h : Over H S) (hH : Hist H) {x : TxP} (hx : x ∈ H) (hr : readyS S x = true) (hw : ∀ y ∈ S.waits, y ≠ x) : Over H (applyS S x) := by
  obtain ⟨r1, r2⟩ := ready_iff hr
  have hs := hH.site hx
  have hq := hH.seq x hx
  have nx : x ∉ S.log := fun e => by have := (h.has x hx).1 e; omega
  have ap := fun s h0 h3 => appl_apply (S := S) (x := x) s h0 h3
  refine ⟨fun y hy => ?_, ?_, h.win, fun s h0 h3 => ?_, fun y hy => ?_, fun y hy e => ?_, fun y hy s h0 h3 => ?_, fun y hy => ?_, ?_⟩
  · rcases List.mem_append.1 (show y ∈ S.log ++ [x] from hy) with e | e
    · exact h.lin y e
    · rw [List.mem_singleton.1 e]; exact hx
  · show (S.log ++ [x]).Nodup
    rw [List.nodup_append]
    exact ⟨h.nd, by simp, fun a ha b hb e => nx (by rw [← List.mem_singleton.1 hb, ← e]; exact ha)⟩
  · rw [ap s h0 h3]
    split
    · rename_i e
      rw [e]
      omega
    · exact h.le s h0 h3
  · have hys := hH.site hy
    rw [ap y.site hys.1 hys.2]
    show y ∈ S.log ++ [x] ↔ _
    rw [List.mem_append, List.mem_singleton, h.has y hy]
    constructor
    · rintro (e | rfl)
      · split
        · rename_i e2
          rw [e2] at e
          omega
        · exact e
      · rw [if_pos rfl]
        exact Int.le_refl _
    · intro e
      split at e
      · rename_i e2
        by_cases e3 : y.seq ≤ appl S y.site
        · exact .inl e3
        · refine .inr (hH.uniq y hy x hx e2 ?_)
          rw [e2] at e3
          omega
      · exact .inl e
  · rcases List.mem_append.1 (show y ∈ S.log ++ [x] from e) with e | e
    · exact h.wno y hy e
    · exact hw y hy (List.mem_singleton.1 e)
  · have up : appl S s ≤ appl (applyS S x) s := by
      rw [ap s h0 h3]
      split
      · rename_i e; rw [e]; omega
      · exact Int.le_refl _
    rcases List.mem_append.1 (show y ∈ S.log ++ [x] from hy) with e | e
    · exact Int.le_trans (h.clo y e s h0 h3) up
    · rw [List.mem_singleton.1 e]; exact Int.le_trans (r2 s h0 h3) up
  · rcases List.mem_append.1 (show y ∈ S.log ++ [x] from hy) with e | e
    · exact cmp_later (h.lst y e)
    · rw [List.mem_singleton.1 e]; exact cmp_self _ _ _ _
  · have ok := hH.ok x hx
    have P := puts_all (t := x) x.ws S.l (okT_ver ok) ((okWs_rise (okT_ws ok).1).imp (fun e => Int.ne_of_lt e)) (fun a ha k hk => by
      rintro ⟨_, e1, e2, e3⟩
      obtain ⟨t, ht, y, _, rfl⟩ := (h.vs k).1 hk
      exact nx (by rw [← hH.stamp t (h.lin t ht) x hx e3 e1 e2]; exact ht))
    intro k
    show k ∈ putsT x x.ws S.l ↔ _
    rw [P k, h.vs k]
    constructor
    · rintro (⟨t, ht, e⟩ | e)
      · exact ⟨t, List.mem_append.2 (.inl ht), e⟩
      · exact ⟨x, List.mem_append.2 (.inr (List.mem_singleton.2 rfl)), e⟩
    · rintro ⟨t, ht, e⟩
      rcases List.mem_append.1 (show t ∈ S.log ++ [x] from ht) with a | a
      · exact .inl ⟨t, a, e⟩
      · rw [List.mem_singleton.1 a] at e
        exact .inr e

end Go.Proofs.YtknejedgddlabaaDoor

namespace Go.Proofs.YtknejedgddlabaaDoor
open Go.RowKit

theorem Over.fewer {H : List TxP} {S : SiteS} (h : Over H S) {l : List TxP} (hl : ∀ x ∈ l, x ∈ S.waits) : Over H { S with waits := l } := ⟨h.lin, h.nd, fun x hx => h.win x (hl x hx), h.le, h.has, fun x hx => h.wno x (hl x hx), h.clo, h.lst, h.vs⟩
theorem Over.wait {H : List TxP} {S : SiteS} (h : Over H S) {t : TxP} (ht : t ∈ H) (hn : t ∉ S.log) : Over H { S with waits := S.waits ++ [t] } := by
  refine ⟨h.lin, h.nd, fun x hx => ?_, h.le, h.has, fun x hx => ?_, h.clo, h.lst, h.vs⟩
  · rcases List.mem_append.1 hx with e | e
    · exact h.win x e
    · rw [List.mem_singleton.1 e]; exact ht
  · rcases List.mem_append.1 hx with e | e
    · exact h.wno x e
    · rw [List.mem_singleton.1 e]; exact hn
theorem Over.gone {H : List TxP} {S : SiteS} (h : Over H S) (hH : Hist H) {x : TxP} (hx : x ∈ S.waits) (hr : readyS S x = true) : Over H (goneS S x) := by
  have h1 : Over H { S with waits := dropW S.waits x } := h.fewer (fun y hy => (mem_dropW.1 hy).1)
  refine h1.apply hH (h.win x hx) hr (fun y hy e => ?_)
  have := (mem_dropW.1 hy).2
  rw [e] at this
  simp [isNum] at this
/-- it came: it is applied, or waits -/
def Came (S : SiteS) (x : TxP) : Prop := x ∈ S.log ∨ x ∈ S.waits
theorem came_gone {H : List TxP} {S : SiteS} (h : Over H S) (hH : Hist H) {x : TxP} (hx : x ∈ S.waits) {y : TxP} (hy : y ∈ H) : Came (goneS S x) y ↔ Came S y := by
  show (y ∈ S.log ++ [x] ∨ y ∈ dropW S.waits x) ↔ (y ∈ S.log ∨ y ∈ S.waits)
  rw [mem_dropW, List.mem_append, List.mem_singleton]
  constructor
  · rintro ((e | rfl) | ⟨e, _⟩)
    · exact .inl e
    · exact .inr hx
    · exact .inr e
  · rintro (e | e)
    · exact .inl (.inl e)
    · by_cases q : y = x
      · exact .inl (.inr q)
      · refine .inr ⟨e, ?_⟩
        cases hi : isNum y x with
        | false => rfl
        | true =>
          obtain ⟨a, b⟩ := isNum_iff.1 hi
          exact absurd (hH.uniq y hy x (h.win x hx) a b) q
theorem nextS_none {S : SiteS} (h : nextS S = none) : ∀ x ∈ S.waits, 0 ≤ x.site → x.site ≤ 3 → readyS S x = false := by
  have hp : pickS S 0 = none ∧ pickS S 1 = none ∧ pickS S 2 = none ∧ pickS S 3 = none := by
    unfold nextS at h
    split at h
    · cases h
    · rename_i p0
      split at h
      · cases h
      · rename_i p1
        split at h
        · cases h
        · rename_i p2
          exact ⟨p0, p1, p2, h⟩
  intro x hx h0 h3
  have hc : x.site = 0 ∨ x.site = 1 ∨ x.site = 2 ∨ x.site = 3 := by omega
  rcases hc with e | e | e | e
  · exact pickS_none hp.1 x hx e
  · exact pickS_none hp.2.1 x hx e
  · exact pickS_none hp.2.2.1 x hx e
  · exact pickS_none hp.2.2.2 x hx e
/-- all that may be applied is -/
theorem Goes.over {H : List TxP} (hH : Hist H) {S S' : SiteS} (h : Goes S S') : Over H S → Nums S.waits → Over H S' ∧ (∀ x ∈ H, Came S' x ↔ Came S x) ∧ S'.id = S.id ∧ S'.log.length + S'.waits.length = S.log.length + S.waits.length ∧ (S.log.length + S.waits.length < 200 → nextS S' = Option.none) := by
  induction h with
  | full hf => exact fun ho _ => ⟨ho, fun _ _ => Iff.rfl, rfl, rfl, fun hl => by omega⟩
  | none hn => exact fun ho _ => ⟨ho, fun _ _ => Iff.rfl, rfl, rfl, fun _ => hn⟩
  | @step S S' x h1 h2 _ ih =>
    intro ho hN
    obtain ⟨m1, m2⟩ := nextS_mem h2
    obtain ⟨r1, r2, r3, r4, r5⟩ := ih (ho.gone hH m1 m2) (hN.drop x)
    have hl : (goneS S x).log.length + (goneS S x).waits.length = S.log.length + S.waits.length := by
      have := dropW_length hN m1
      show (S.log ++ [x]).length + (dropW S.waits x).length = _
      simp
      omega
    exact ⟨r1, fun y hy => (r2 y hy).trans (came_gone ho hH m1 hy), r3, by rw [r4, hl], fun q => r5 (by rw [hl]; exact q)⟩
/-- whatever comes of a Take of what was committed -/
theorem Over.takes {H : List TxP} {S S' : SiteS} {t : TxP} (h : Over H S) (hH : Hist H) (hI : InvS S) (ht : t ∈ H) (hT : TakesTo S t S') : Over H S' ∧ S'.id = S.id := by
  rcases hT with ⟨_, rfl⟩ | ⟨e, hg⟩
  · exact ⟨h, rfl⟩
  · obtain ⟨p1, p2, p3, p4, _⟩ := takeE_zero e
    have hn : t ∉ S.log := fun q => p3 ((h.has t ht).1 q)
    have r := hg.over hH (h.wait ht hn) (hI.nums.snoc p4)
    exact ⟨r.1, r.2.2.1⟩
/-- one that has not come is taken -/
theorem Over.take_new {H : List TxP} {S S' : SiteS} {t : TxP} (h : Over H S) (hH : Hist H) (hI : InvS S) (ht : t ∈ H) (hid : t.site ≠ S.id) (hc : ¬ Came S t) (hl : S.log.length + S.waits.length < 40) :
    takeE S t = 0 ∧ (TakesTo S t S' → Over H S' ∧ (∀ x ∈ H, Came S' x ↔ (Came S x ∨ x = t)) ∧ S'.id = S.id ∧ S'.log.length + S'.waits.length = S.log.length + S.waits.length + 1 ∧ nextS S' = none) := by
  have hn : t ∉ S.log := fun q => hc (.inl q)
  have hw : ∀ x ∈ S.waits, isNum x t = false := fun x hx => by
    cases hi : isNum x t with
    | false => rfl
    | true =>
      obtain ⟨a, b⟩ := isNum_iff.1 hi
      have := hH.uniq x (h.win x hx) t ht a b
      rw [this] at hx
      exact absurd (.inr hx) hc
  have e : takeE S t = 0 := by
    unfold takeE
    rw [if_neg (by rw [hH.ok t ht]; decide), if_neg hid, if_neg (show ¬ t.seq ≤ depOf t.site S.a0 S.a1 S.a2 S.a3 from fun q => hn ((h.has t ht).2 q)), if_neg, if_neg (by omega), if_neg (by omega)]
    intro q
    obtain ⟨x, hx, hi⟩ := List.any_eq_true.1 q
    rw [hw x hx] at hi
    cases hi
  refine ⟨e, fun hT => ?_⟩
  rcases hT with ⟨q, _⟩ | ⟨_, hg⟩
  · exact absurd e q
  · obtain ⟨r1, r2, r3, r4, r5⟩ := hg.over hH (h.wait ht hn) (hI.nums.snoc hw)
    have hlen : (S.waits ++ [t]).length = S.waits.length + 1 := by simp
    refine ⟨r1, fun x hx => (r2 x hx).trans ?_, r3, ?_, r5 ?_⟩
    · show (x ∈ S.log ∨ x ∈ S.waits ++ [t]) ↔ ((x ∈ S.log ∨ x ∈ S.waits) ∨ x = t)
      rw [List.mem_append, List.mem_singleton, or_assoc]
    · rw [r4]
      show S.log.length + (S.waits ++ [t]).length = _
      omega
    · show S.log.length + (S.waits ++ [t]).length < 200
      omega
/-- one that came is told so -/
theorem Over.take_twice {H : List TxP} {S : SiteS} {t : TxP} (h : Over H S) (hH : Hist H) (ht : t ∈ H) (hid : t.site ≠ S.id) (hc : Came S t) : takeE S t = 9 := by
  unfold takeE
  rw [if_neg (by rw [hH.ok t ht]; decide), if_neg hid]
  rcases hc with q | q
  · rw [if_pos (show t.seq ≤ depOf t.site S.a0 S.a1 S.a2 S.a3 from (h.has t ht).1 q)]
  · by_cases hs : t.seq ≤ depOf t.site S.a0 S.a1 S.a2 S.a3
    · rw [if_pos hs]
    · rw [if_neg hs, if_pos (List.any_eq_true.2 ⟨t, q, by simp [isNum]⟩)]
/-- who has all, and applies all that may be, has applied all -/
theorem Over.all {H : List TxP} {S : SiteS} (h : Over H S) (hH : Hist H) (hn : nextS S = none) (hc : ∀ x ∈ H, Came S x) : (∀ x ∈ H, x ∈ S.log) ∧ S.waits = [] ∧ ∀ s, 0 ≤ s → s ≤ 3 → appl S s = cnt H s := by
  have low : ∀ H', Hist H' → (∀ x ∈ H', x ∈ H) → (∀ x ∈ H', x ∈ S.log) → ∀ s, 0 ≤ s → s ≤ 3 → cnt H' s ≤ appl S s := fun H' g hs hlog s h0 h3 => by
    by_cases hz : cnt H' s = 0
    · rw [hz]
      exact (h.le s h0 h3).1
    · obtain ⟨x, hx, e1, e2⟩ := g.all s (cnt H' s) (by omega) (Int.le_refl _)
      have := (h.has x (hs x hx)).1 (hlog x hx)
      rw [e1, e2] at this
      exact this
  have main : ∀ H', Hist H' → (∀ x ∈ H', x ∈ H) → ∀ x ∈ H', x ∈ S.log := by
    intro H' g
    induction g with
    | nil => intro _ x hx; cases hx
    | @snoc H' t g1 g2 g3 g4 _ ih =>
      intro hs x hx
      have hs' : ∀ x ∈ H', x ∈ H := fun y hy => hs y (List.mem_append.2 (.inl hy))
      have hl := ih hs'
      rcases List.mem_append.1 hx with e | e
      · exact hl x e
      · rw [List.mem_singleton.1 e]
        have ht : t ∈ H := hs t (List.mem_append.2 (.inr (List.mem_singleton.2 rfl)))
        have st := hH.site ht
        rcases hc t ht with q | q
        · exact q
        · exfalso
          have nl := h.wno t q
          have na : ¬ t.seq ≤ appl S t.site := fun z => nl ((h.has t ht).2 z)
          have lo := low H' g1 hs' hl
          have r := iff_ready (S := S) (x := t) (by have := lo t.site st.1 st.2; omega) (fun s h0 h3 => Int.le_trans (g4 s h0 h3) (lo s h0 h3))
          rw [nextS_none hn t q st.1 st.2] at r
          cases r
  have hall := main H hH (fun x hx => hx)
  refine ⟨hall, ?_, fun s h0 h3 => Int.le_antisymm (h.le s h0 h3).2 (low H hH (fun x hx => hx) hall s h0 h3)⟩
  cases hw : S.waits with
  | nil => rfl
  | cons y l =>
    have hy : y ∈ S.waits := by rw [hw]; exact List.mem_cons_self ..
    exact absurd (hall y (h.win y hy)) (h.wno y hy)

end Go.Proofs.YtknejedgddlabaaDoor

namespace Go.Proofs.YtknejedgddlabaaDoor
open Go.RowKit

theorem nextP_ok {lw lc now : Int} (h : (nextP lw lc now).2.2 = 0) : timeB (nextP lw lc now).1 = true ∧ timeB (nextP lw lc now).2.1 = true ∧ cmpS lw lc (nextP lw lc now).1 (nextP lw lc now).2.1 < 0 := by
  unfold nextP at h ⊢
  split
  · rename_i g
    rw [if_pos g] at h
    cases h
  · rename_i g
    rw [if_neg g] at h
    have g' : (timeB lw && timeB lc) = true := by simpa using g
    rw [Bool.and_eq_true, timeB_iff, timeB_iff] at g'
    split
    · rename_i g2
      rw [if_pos g2] at h
      cases h
    · rename_i g2
      rw [if_neg g2] at h
      have g2' : timeB now = true := by simpa using g2
      split
      · rename_i g3
        show timeB now = true ∧ timeB 0 = true ∧ cmpS lw lc now 0 < 0
        refine ⟨g2', timeB_true (by decide) (by decide), ?_⟩
        rcases cmpS_cases lw lc now 0 with ⟨a, e⟩ | ⟨a, e⟩ | ⟨a, e⟩ <;> simp only [e] <;> omega
      · rename_i g3
        rw [if_neg g3] at h
        split
        · rename_i g4
          rw [if_pos g4] at h
          cases h
        · rename_i g4
          show timeB lw = true ∧ timeB (lc + 1) = true ∧ cmpS lw lc lw (lc + 1) < 0
          refine ⟨timeB_true g'.1.1 g'.1.2, timeB_true (by omega) (by omega), ?_⟩
          rcases cmpS_cases lw lc lw (lc + 1) with ⟨a, e⟩ | ⟨a, e⟩ | ⟨a, e⟩ <;> simp only [e] <;> omega
theorem depOf_set (i q d0 d1 d2 d3 s : Int) (h0 : 0 ≤ s) (h3 : s ≤ 3) : depOf s (setV0 i q d0) (setV1 i q d1) (setV2 i q d2) (setV3 i q d3) = if s = i then q else depOf s d0 d1 d2 d3 := by
  have hc : s = 0 ∨ s = 1 ∨ s = 2 ∨ s = 3 := by omega
  rcases hc with rfl | rfl | rfl | rfl <;> simp [depOf, setV0, setV1, setV2, setV3, eq_comm]
theorem cov_dep {a0 a1 a2 a3 d0 d1 d2 d3 : Int} (h : covB a0 a1 a2 a3 d0 d1 d2 d3 = true) (s : Int) (h0 : 0 ≤ s) (h3 : s ≤ 3) : depOf s d0 d1 d2 d3 ≤ depOf s a0 a1 a2 a3 := by
  rw [covB_iff] at h
  have hc : s = 0 ∨ s = 1 ∨ s = 2 ∨ s = 3 := by omega
  rcases hc with rfl | rfl | rfl | rfl
  · exact h.1
  · exact h.2.1
  · exact h.2.2.1
  · exact h.2.2.2
/-- who has all of its own has as many as there are -/
theorem Over.own {H : List TxP} {S : SiteS} (h : Over H S) (hH : Hist H) (hI : InvS S) (own : ∀ x ∈ H, x.site = S.id → x ∈ S.log) : appl S S.id = cnt H S.id := by
  have l := h.le S.id hI.id0 hI.id3
  by_cases hz : cnt H S.id = 0
  · omega
  · obtain ⟨x, hx, e1, e2⟩ := hH.all S.id (cnt H S.id) (by omega) (Int.le_refl _)
    have := (h.has x hx).1 (own x hx e1)
    rw [e1, e2] at this
    omega
theorem Over.commit {H : List TxP} {S : SiteS} {now d0 d1 d2 d3 : Int} {ws : List Wr} (h : Over H S) (hH : Hist H) (hI : InvS S) (own : ∀ x ∈ H, x.site = S.id → x ∈ S.log) (hE : comE S now d0 d1 d2 d3 ws = 0) :
    Hist (H ++ [commitT S now d0 d1 d2 d3 ws]) ∧ Over (H ++ [commitT S now d0 d1 d2 d3 ws]) (applyS S (commitT S now d0 d1 d2 d3 ws)) ∧ ∀ x ∈ H ++ [commitT S now d0 d1 d2 d3 ws], x.site = S.id → x ∈ (applyS S (commitT S now d0 d1 d2 d3 ws)).log := by
  obtain ⟨z1, z2, z3, z4, z5⟩ := commitE_zero hE
  obtain ⟨n1, n2, n3⟩ := nextP_ok z5
  have ho := h.own hH hI own
  have hsm := hI.own
  have ha : appl S S.id ≤ 200 := by have := hI.log; show depOf S.id _ _ _ _ ≤ 200; omega
  have hge := (h.le S.id hI.id0 hI.id3).1
  have ov : ∀ s, 0 ≤ s → s ≤ 3 → over (commitT S now d0 d1 d2 d3 ws) s ≤ appl S s := fun s h0 h3 => by
    show depOf s (setV0 S.id (appl S S.id) d0) (setV1 S.id (appl S S.id) d1) (setV2 S.id (appl S S.id) d2) (setV3 S.id (appl S S.id) d3) ≤ appl S s
    rw [depOf_set _ _ _ _ _ _ s h0 h3]
    split
    · rename_i e; rw [e]; exact Int.le_refl _
    · exact cov_dep z3 s h0 h3
  have okd : timesB (setV0 S.id (appl S S.id) d0) (setV1 S.id (appl S S.id) d1) (setV2 S.id (appl S S.id) d2) (setV3 S.id (appl S S.id) d3) = true := by
    have ta : timeB (appl S S.id) = true := timeB_true hge (by omega)
    simp only [timesB, Bool.and_eq_true] at z2 ⊢
    refine ⟨⟨⟨?_, ?_⟩, ?_⟩, ?_⟩
    · unfold setV0; split; exact ta; exact z2.1.1.1
    · unfold setV1; split; exact ta; exact z2.1.1.2
    · unfold setV2; split; exact ta; exact z2.1.2
    · unfold setV3; split; exact ta; exact z2.2
  have ok : okT (commitT S now d0 d1 d2 d3 ws) = true := by
    show okTx S.id (appl S S.id + 1) (nextP S.lw S.lc now).1 (nextP S.lw S.lc now).2.1 (setV0 S.id (appl S S.id) d0) (setV1 S.id (appl S S.id) d1) (setV2 S.id (appl S S.id) d2) (setV3 S.id (appl S S.id) d3) ws = true
    unfold okTx
    simp only [Bool.and_eq_true, inB_iff, decide_eq_true_eq]
    refine ⟨⟨⟨⟨⟨⟨hI.id0, hI.id3⟩, ⟨by omega, by omega⟩⟩, ⟨n1, n2⟩⟩, okd⟩, ?_⟩, z1⟩
    rw [depOf_set _ _ _ _ _ _ S.id hI.id0 hI.id3, if_pos rfl]
    omega
  have hq : (commitT S now d0 d1 d2 d3 ws).seq = cnt H (commitT S now d0 d1 d2 d3 ws).site + 1 := by
    show appl S S.id + 1 = cnt H S.id + 1
    rw [ho]
  have hH' : Hist (H ++ [commitT S now d0 d1 d2 d3 ws]) := by
    refine .snoc hH ok hq (fun s h0 h3 => Int.le_trans (ov s h0 h3) (h.le s h0 h3).2) (fun x hx e => ?_)
    have l := h.lst x (own x hx e)
    show cmpS x.wall x.count (nextP S.lw S.lc now).1 (nextP S.lw S.lc now).2.1 < 0
    rcases cmpS_cases x.wall x.count S.lw S.lc with ⟨a, e1⟩ | ⟨a, e1⟩ | ⟨a, e1⟩ <;> rw [e1] at l <;> try omega
    · rcases cmpS_cases S.lw S.lc (nextP S.lw S.lc now).1 (nextP S.lw S.lc now).2.1 with ⟨b, e2⟩ | ⟨b, e2⟩ | ⟨b, e2⟩ <;> rw [e2] at n3 <;> try omega
      rcases cmpS_cases x.wall x.count (nextP S.lw S.lc now).1 (nextP S.lw S.lc now).2.1 with ⟨c, e3⟩ | ⟨c, e3⟩ | ⟨c, e3⟩ <;> rw [e3] <;> omega
    · rw [a.1, a.2]
      exact n3
  have nT : commitT S now d0 d1 d2 d3 ws ∉ H := fun e => by
    have := (hH.seq _ e).2
    rw [hq] at this
    omega
  have g := h.grow hH hq ⟨hI.id0, hI.id3⟩
  refine ⟨hH', g.apply hH' (List.mem_append.2 (.inr (List.mem_singleton.2 rfl))) (iff_ready rfl ov) (fun y hy e => nT (by rw [← e]; exact h.win y hy)), fun x hx e => ?_⟩
  show x ∈ S.log ++ [commitT S now d0 d1 d2 d3 ws]
  rcases List.mem_append.1 hx with q | q
  · exact List.mem_append.2 (.inl (own x q e))
  · exact List.mem_append.2 (.inr q)
/-- the last one of a key depends on what is held alone -/
theorem lastV_set {key a0 a1 a2 a3 : Int} {l l' : List Hd} (hl : Apart l) (hl' : Apart l') (h : ∀ x, x ∈ l ↔ x ∈ l') : lastV key a0 a1 a2 a3 l = lastV key a0 a1 a2 a3 l' := by
  have tr : ∀ v, IsLast key a0 a1 a2 a3 l v ↔ IsLast key a0 a1 a2 a3 l' v := fun v => by
    constructor
    · rintro ⟨⟨x, hx, e⟩, a⟩
      exact ⟨⟨x, (h x).1 hx, e⟩, fun y hy => a y ((h y).2 hy)⟩
    · rintro ⟨⟨x, hx, e⟩, a⟩
      exact ⟨⟨x, (h x).2 hx, e⟩, fun y hy => a y ((h y).1 hy)⟩
  cases e : lastV key a0 a1 a2 a3 l with
  | some v => exact ((lastV_iff hl').2 ((tr v).1 ((lastV_iff hl).1 e))).symm
  | none =>
    cases e' : lastV key a0 a1 a2 a3 l' with
    | none => rfl
    | some v =>
      have := (lastV_iff hl).2 ((tr v).2 ((lastV_iff hl').1 e'))
      rw [e] at this
      cases this
theorem told_same {H : List TxP} {S S' : SiteS} (h : Over H S) (h' : Over H S') (hI : InvS S) (hI' : InvS S') (hs : ∀ x, x ∈ S.log ↔ x ∈ S'.log) (a0 a1 a2 a3 key : Int) : toldV a0 a1 a2 a3 S.l key = toldV a0 a1 a2 a3 S'.l key := by
  have e : lastV key a0 a1 a2 a3 S.l = lastV key a0 a1 a2 a3 S'.l := lastV_set hI.apart hI'.apart (fun x => by
    rw [h.vs x, h'.vs x]
    constructor
    · rintro ⟨t, ht, q⟩; exact ⟨t, (hs t).1 ht, q⟩
    · rintro ⟨t, ht, q⟩; exact ⟨t, (hs t).2 ht, q⟩)
  unfold toldV readV
  rw [e]

end Go.Proofs.YtknejedgddlabaaDoor

namespace Go.Proofs.YtknejedgddlabaaDoor
open Go.RowKit

def setK (f : Nat → SiteS) (i : Nat) (S : SiteS) : Nat → SiteS := fun j => if j = i then S else f j
theorem setK_same (f : Nat → SiteS) (i : Nat) (S : SiteS) : setK f i S i = S := by simp [setK]
theorem setK_ne (f : Nat → SiteS) {i j : Nat} (S : SiteS) (h : j ≠ i) : setK f i S j = f j := by simp [setK, h]
theorem Goes.log {S S' : SiteS} (h : Goes S S') : (∀ x ∈ S.log, x ∈ S'.log) ∧ S'.waits.length ≤ S.waits.length := by
  induction h with
  | full _ => exact ⟨fun _ h => h, Nat.le_refl _⟩
  | none _ => exact ⟨fun _ h => h, Nat.le_refl _⟩
  | step _ _ _ ih => exact ⟨fun x hx => ih.1 x (List.mem_append.2 (.inl hx)), Nat.le_trans ih.2 (List.length_filter_le _ _)⟩
theorem TakesTo.log {S S' : SiteS} {t : TxP} (h : TakesTo S t S') : (∀ x ∈ S.log, x ∈ S'.log) ∧ S'.waits.length ≤ S.waits.length + 1 := by
  rcases h with ⟨_, rfl⟩ | ⟨_, h⟩
  · exact ⟨fun _ h => h, by omega⟩
  · have := h.log
    exact ⟨this.1, by have := this.2; simpa using this⟩
/-- n sites over all that was committed; each has all of its own; k: how many wait at most -/
structure Knit (n : Nat) (H : List TxP) (S : Nat → SiteS) (k : Nat) : Prop where
  hist : Hist H
  inv : ∀ i, i < n → InvS (S i)
  id : ∀ i, i < n → (S i).id = i
  ov : ∀ i, i < n → Over H (S i)
  own : ∀ i, i < n → ∀ x ∈ H, x.site = i → x ∈ (S i).log
  wt : ∀ i, i < n → (S i).waits.length ≤ k
  low : ∀ x ∈ H, x.site < n
theorem Knit.new {n : Nat} (hn : n ≤ 4) : Knit n [] (fun i => newS i) 0 :=
  ⟨.nil, fun i hi => InvS.new (by omega) (by omega), fun i hi => rfl, fun i hi => Over.new [] .nil i, fun i hi x hx => (by cases hx), fun i hi => Nat.le_refl _, fun x hx => (by cases hx)⟩
theorem Knit.more {n k k' : Nat} {H : List TxP} {S : Nat → SiteS} (h : Knit n H S k) (hk : k ≤ k') : Knit n H S k' := ⟨h.hist, h.inv, h.id, h.ov, h.own, fun i hi => Nat.le_trans (h.wt i hi) hk, h.low⟩
theorem Knit.take {n k i : Nat} {H : List TxP} {S : Nat → SiteS} {S' : SiteS} {t : TxP} (h : Knit n H S k) (hi : i < n) (ht : t ∈ H) (hT : TakesTo (S i) t S') : Knit n H (setK S i S') (k + 1) := by
  obtain ⟨o, e⟩ := (h.ov i hi).takes h.hist (h.inv i hi) ht hT
  have l := hT.log
  refine ⟨h.hist, fun j hj => ?_, fun j hj => ?_, fun j hj => ?_, fun j hj x hx ex => ?_, fun j hj => ?_, h.low⟩ <;> by_cases q : j = i
  · subst q; rw [setK_same]; exact hT.inv (h.inv j hj)
  · rw [setK_ne _ _ q]; exact h.inv j hj
  · subst q; rw [setK_same, e]; exact h.id j hj
  · rw [setK_ne _ _ q]; exact h.id j hj
  · subst q; rw [setK_same]; exact o
  · rw [setK_ne _ _ q]; exact h.ov j hj
  · subst q; rw [setK_same]; exact l.1 x (h.own j hj x hx ex)
  · rw [setK_ne _ _ q]; exact h.own j hj x hx ex
  · subst q; rw [setK_same]; have := l.2; have := h.wt j hj; omega
  · rw [setK_ne _ _ q]; have := h.wt j hj; omega
theorem Knit.commit {n k i : Nat} {H : List TxP} {S : Nat → SiteS} {now d0 d1 d2 d3 : Int} {ws : List Wr} (h : Knit n H S k) (hn : n ≤ 4) (hi : i < n) (hE : comE (S i) now d0 d1 d2 d3 ws = 0) : Knit n (H ++ [commitT (S i) now d0 d1 d2 d3 ws]) (setK S i (applyS (S i) (commitT (S i) now d0 d1 d2 d3 ws))) k := by
  have hid := h.id i hi
  obtain ⟨c1, c2, c3⟩ := (h.ov i hi).commit h.hist (h.inv i hi) (fun x hx e => h.own i hi x hx (by rw [e, hid])) hE
  have hq : (commitT (S i) now d0 d1 d2 d3 ws).seq = cnt H (commitT (S i) now d0 d1 d2 d3 ws).site + 1 := by
    have := (h.ov i hi).own h.hist (h.inv i hi) (fun x hx e => h.own i hi x hx (by rw [e, hid]))
    show appl (S i) (S i).id + 1 = cnt H (S i).id + 1
    rw [this]
  have es : (commitT (S i) now d0 d1 d2 d3 ws).site = i := hid
  refine ⟨c1, fun j hj => ?_, fun j hj => ?_, fun j hj => ?_, fun j hj x hx ex => ?_, fun j hj => ?_, fun x hx => ?_⟩
  · by_cases q : j = i
    · subst q; rw [setK_same]; exact (commitT_ok (h.inv j hj) hE).1
    · rw [setK_ne _ _ q]; exact h.inv j hj
  · by_cases q : j = i
    · subst q; rw [setK_same]; exact h.id j hj
    · rw [setK_ne _ _ q]; exact h.id j hj
  · by_cases q : j = i
    · subst q; rw [setK_same]; exact c2
    · rw [setK_ne _ _ q]; exact (h.ov j hj).grow h.hist hq (by rw [es]; omega)
  · by_cases q : j = i
    · subst q; rw [setK_same]; exact c3 x hx (by rw [ex, hid])
    · rw [setK_ne _ _ q]
      rcases List.mem_append.1 hx with e | e
      · exact h.own j hj x e ex
      · rw [List.mem_singleton.1 e, es] at ex
        omega
  · by_cases q : j = i
    · subst q; rw [setK_same]; exact h.wt j hj
    · rw [setK_ne _ _ q]; exact h.wt j hj
  · rcases List.mem_append.1 hx with e | e
    · exact h.low x e
    · rw [List.mem_singleton.1 e, es]; omega

end Go.Proofs.YtknejedgddlabaaDoor

namespace Go.Proofs.YtknejedgddlabaaDoor
open Go.RowKit

/-- a slice that holds pointers to boxes -/
structure PtrIn (w : World) (a : Option Addr) (cap : Nat) (L : List Nat) : Prop where
  len : L.length ≤ cap
  cap : cap ≤ 9223372036854775807
  held : L = [] ∨ ∃ b off, a = some ⟨b, off, none⟩ ∧ ∀ i u, L[i]? = some u → w.cell? ⟨b, off + i, none⟩ = some (.pointer (some ⟨u, 0, none⟩))
def ptrL (L : List Nat) : List Value := L.map (fun u => Value.pointer (some ⟨u, 0, none⟩))
theorem ptrIn_own {w : World} {B : Nat} {T : TypeId} {v : Value} {L : List Nat} (h : w.ownsRow B T 1 v L.length (ptrL L)) : ∃ a cap, v = .slice a L.length cap ∧ PtrIn w a cap L := by
  rcases h.2 with ⟨rfl, h0⟩ | ⟨g, cap, cur, rfl, hb, hg, hnc, hm, hs, ht⟩
  · exact ⟨none, 0, by rw [h0], ⟨by omega, by omega, .inl (List.eq_nil_of_length_eq_zero h0)⟩⟩
  · refine ⟨_, cap, rfl, ⟨hnc, by simp only [maxLen] at hm; omega, .inr ⟨g, 0, rfl, fun i u hu => ?_⟩⟩⟩
    have hc := h.cells (g := g) rfl i (.pointer (some ⟨u, 0, none⟩)) (by unfold ptrL; rw [List.getElem?_map, hu]; rfl)
    rw [addr_add] at hc
    rw [Nat.zero_add]
    exact hc
/-- blocks that are nobody's: what was there, the rows', and the writes' of what was committed -/
def ToldX (n0 : Nat) (xv av : Value) (all : List TxM) : Nat → Prop := fun j => j < n0 ∨ xv.ownBlock = some j ∨ av.ownBlock = some j ∨ ∃ m ∈ all, m.blk j
/-- all of it -/
structure TSt (w0 : World) (n : Nat) (bp : Nat → Nat) (xv av : Value) (S : Nat → SiteS) (all : List TxM) (wr : World) : Prop where
  fam : Aside wr n (fun j => siteP (bp j) (S j)) (ToldX w0.heap.size xv av all) n NoY
  xr : wr.ownsRow w0.heap.size 101 1 xv n (ptrL ((List.range n).map bp))
  ar : wr.ownsRow w0.heap.size 40 9 av all.length (txsC all)
  wi : ∀ m ∈ all, WrIn wr m.wa m.wc m.t.ws
  hb : Below w0.heap.size w0 wr
  sep : ∀ k, av.ownBlock = some k → xv.ownBlock ≠ some k ∧ ∀ m ∈ all, ¬ m.blk k
section
variable {w0 wr w' : World} {n : Nat} {bp : Nat → Nat} {xv av : Value} {S : Nat → SiteS} {all : List TxM}
theorem TSt.later (h : TSt w0 n bp xv av S all wr) (hb : Below wr.heap.size wr w') : TSt w0 n bp xv av S all w' :=
  ⟨h.fam.later hb, own_keptN h.xr (fun k e => hb.block k (h.xr.lt k e).2), own_keptN h.ar (fun k e => hb.block k (h.ar.lt k e).2), fun m hm => (h.wi m hm).later hb, behind h.hb hb, h.sep⟩
theorem TSt.keep {X : Nat → Prop} {S' : Nat → SiteS} (h : TSt w0 n bp xv av S all wr) (hK : Keeps (ToldX w0.heap.size xv av all) wr w') (hf : Aside w' n (fun j => siteP (bp j) (S' j)) X n NoY) (hX : ∀ k, ToldX w0.heap.size xv av all k → X k) : TSt w0 n bp xv av S' all w' :=
  ⟨hf.less hX, own_keptN h.xr (fun k e => hK.block k (.inr (.inl e))), own_keptN h.ar (fun k e => hK.block k (.inr (.inr (.inl e)))), fun m hm => WrIn.kept (h.wi m hm) (fun k e => hK.block k (.inr (.inr (.inr ⟨m, hm, e⟩)))), h.hb.trans (hK.below (fun _ hk => .inl hk)), h.sep⟩
theorem TSt.take (h : TSt w0 n bp xv av S all wr) {i : Nat} (hi : i < n) (hI : InvS (S i)) (hn : (S i).waits.length ≤ 990) {m : TxM} (hm : m ∈ all) :
    Calls Tryd.prog 48 #[.pointer (some ⟨bp i, 0, none⟩), txV m] wr fun e w' => e = .returned (errV (takeE (S i) m.t)) ∧ ∃ S', Hid (TakesTo (S i) m.t S') ∧ TSt w0 n bp xv av (setK S i S') all w' := by
  obtain ⟨Gs, f⟩ := h.fam
  refine (take_site m wr (f.is i hi) hI hn (h.wi m hm)).mono fun e w' ⟨he, S', hT, hp⟩ => ?_
  obtain ⟨h1, h2⟩ := f.step (ps' := fun j => siteP (bp j) (setK S i S' j)) hi (p := siteP (bp i) S') hp (by rw [setK_same]) (fun j _ hj => by rw [setK_ne _ _ hj]) (by omega)
  exact ⟨he, S', hT, h.keep ⟨h2.os, h2.tape, h2.output, h2.size, fun k hk => h2.block k (.inl hk)⟩ h1 (fun k hk => hk)⟩
end

end Go.Proofs.YtknejedgddlabaaDoor

namespace Go.Proofs.YtknejedgddlabaaDoor
open Go.RowKit

/-- one more thing, apart -/
theorem Aside.add {w w' : World} {n : Nat} {ps ps' : Nat → Part} {X X' G : Nat → Prop} (h : Aside w n ps X n NoY) (hb : ∀ k, k < w.heap.size → (∀ i, i < n → ∀ Gs : Nat → Nat → Prop, AsideAt w n ps Gs X n NoY → Gs i k → w'.heap[k]? = w.heap[k]?)) (hs : w.heap.size ≤ w'.heap.size) (hp : (ps' n).is w' G) (hG : ∀ k, G k → w.heap.size ≤ k) (he : ∀ i, i < n → ps' i = ps i)
    (hX : ∀ k, X' k → (X k ∨ w.heap.size ≤ k) ∧ k < w'.heap.size ∧ ¬ G k) : Aside w' (n + 1) ps' X' (n + 1) NoY := by
  obtain ⟨Gs, f⟩ := h
  refine ⟨fun j => if j = n then G else Gs j, fun j hj => ?_, fun a b k ha hb' hab hk hk2 => ?_, fun k hk => ⟨(hX k hk).2.1, fun j hj hg => ?_⟩, fun k hk => hk.elim⟩
  · by_cases q : j = n
    · rw [if_pos q, q]; exact hp
    · have hj' : j < n := by omega
      rw [if_neg q, he j hj']
      exact (ps j).kept _ _ _ (f.is j hj') (fun k hk => hb k ((ps j).lt _ _ (f.is j hj') k hk) j hj' Gs f hk) hs
  · by_cases qa : a = n
    · rw [if_pos qa] at hk
      have qb : b ≠ n := fun e => hab (qa.trans e.symm)
      rw [if_neg qb] at hk2
      have := (ps b).lt _ _ (f.is b (by omega)) k hk2
      have := hG k hk
      omega
    · rw [if_neg qa] at hk
      by_cases qb : b = n
      · rw [if_pos qb] at hk2
        have := (ps a).lt _ _ (f.is a (by omega)) k hk
        have := hG k hk2
        omega
      · rw [if_neg qb] at hk2
        exact f.apart a b k (by omega) (by omega) hab hk hk2
  · by_cases q : j = n
    · rw [if_pos q] at hg
      exact (hX k hk).2.2 hg
    · rw [if_neg q] at hg
      have hj' : j < n := by omega
      rcases (hX k hk).1 with e | e
      · exact (f.free k e).2 j hj' hg
      · have := (ps j).lt _ _ (f.is j hj') k hg
        omega

theorem ptrL_next (k : Nat) (bp : Nat → Nat) (u : Nat) : ptrL ((List.range (k + 1)).map (fun j => if j = k then u else bp j)) = ptrL ((List.range k).map bp) ++ [.pointer (some ⟨u, 0, none⟩)] := by
  unfold ptrL
  rw [List.range_succ, List.map_append, List.map_append]
  congr 1
  · congr 1
    refine List.map_congr_left (fun j hj => ?_)
    have := List.mem_range.1 hj
    rw [if_neg (by omega)]
  · simp
theorem TSt.add {w0 wr w2 w3 wE : World} {k g cap9 : Nat} {bp : Nat → Nat} {xv : Value} (h : TSt w0 k bp xv (.slice none 0 0) (fun i => newS i) [] wr) (hP : PS w2 (wr.heap.size + 1) (fun q => q = wr.heap.size + 1 ∨ q = wr.heap.size) (newS k)) (hb2 : Below wr.heap.size wr w2) (hb3 : Below w2.heap.size w2 w3)
    (own : wE.ownsRow w0.heap.size 101 1 (.slice (some ⟨g, 0, none⟩) (k + 1) cap9) (k + 1) (ptrL ((List.range k).map bp) ++ [.pointer (some ⟨wr.heap.size + 1, 0, none⟩)])) (gr : w3.grownBy wE xv.ownBlock) (eg : xv.ownBlock = some g ∨ g = w3.heap.size) (hlt : g < wE.heap.size) :
    TSt w0 (k + 1) (fun j => if j = k then wr.heap.size + 1 else bp j) (.slice (some ⟨g, 0, none⟩) (k + 1) cap9) (.slice none 0 0) (fun i => newS i) [] wE := by
  have s2 : wr.heap.size + 1 < w2.heap.size := hP.lt _ (.inl rfl)
  have s3 := hb3.size
  have sE := gr.size
  have hs := h.hb.size
  have xlt : ∀ q, xv.ownBlock = some q → w0.heap.size ≤ q ∧ q < wr.heap.size := fun q e => h.xr.lt q e
  have gb : (Value.slice (some ⟨g, 0, none⟩) (k + 1) cap9).ownBlock = some g := rfl
  refine ⟨h.fam.add (G := fun q => q = wr.heap.size + 1 ∨ q = wr.heap.size) (fun q hq i hi Gs f hg => ?_) (by omega) ?_ (fun q hq => by omega) (fun i hi => by rw [if_neg (by omega)]) (fun q hq => ?_), ?_, World.ownsRow_nil _ _ _ _, fun m hm => (by cases hm), ?_, fun k e => by cases e⟩
  · have nx : some q ≠ xv.ownBlock := fun e => (f.free q (.inr (.inl e.symm))).2 i hi hg
    exact (gr.block q (by omega) nx).trans ((hb3.block q (by omega)).trans (hb2.block q hq))
  · rw [if_pos rfl]
    exact hP.kept (fun q hq => (gr.block q (by omega) (fun e => by have := xlt q e.symm; omega)).trans (hb3.block q (by omega))) (by omega)
  · rcases hq with e | e | e | ⟨m, hm, _⟩
    · exact ⟨.inl (.inl e), by omega, by omega⟩
    · rw [gb] at e
      injection e with e
      subst e
      rcases eg with x | x
      · have := xlt g x
        exact ⟨.inl (.inr (.inl x)), hlt, by omega⟩
      · exact ⟨.inr (by omega), hlt, by omega⟩
    · cases e
    · cases hm
  · rw [ptrL_next]
    exact own
  · exact (behind (behind h.hb hb2) hb3).grown gr (by omega) (fun j hj => (xlt j hj).1)

end Go.Proofs.YtknejedgddlabaaDoor

namespace Go.Proofs.YtknejedgddlabaaDoor
open Go.RowKit

theorem Aside.touch {w w' : World} {n o : Nat} {ps : Nat → Part} {X Y : Nat → Prop} (h : Aside w n ps X o Y) (t : Touch X w w') : Aside w' n ps X o Y := by
  obtain ⟨Gs, h⟩ := h
  exact ⟨Gs, fun i hi => (ps i).kept _ _ _ (h.is i hi) (fun k hk => t.block k ((ps i).lt _ _ (h.is i hi) k hk) (fun e => (h.free k e).2 i hi hk)) t.size, h.apart, fun k hk => ⟨Nat.lt_of_lt_of_le (h.free k hk).1 t.size, (h.free k hk).2⟩, fun k hk => ⟨Nat.lt_of_lt_of_le (h.half k hk).1 t.size, (h.half k hk).2⟩⟩
theorem setTx_touch {F : Nat → Prop} {W : World} {b : Nat} (hB : F b) (x0 x1 x2 x3 x4 x5 x6 x7 : Int) (v : Value) : Touch F W (setTx W b x0 x1 x2 x3 x4 x5 x6 x7 v) :=
  (((((((((Touch.ofBelow (Below.refl _ W)).trans (Touch.setCell _ _ _ hB)).trans (Touch.setCell _ _ _ hB)).trans (Touch.setCell _ _ _ hB)).trans (Touch.setCell _ _ _ hB)).trans (Touch.setCell _ _ _ hB)).trans (Touch.setCell _ _ _ hB)).trans (Touch.setCell _ _ _ hB)).trans (Touch.setCell _ _ _ hB)).trans (Touch.setCell _ _ _ hB)
theorem setTx_keeps {X : Nat → Prop} {w W : World} {b : Nat} (h : Keeps X w W) (hB : ¬ X b) (hX : ∀ k, X k → k < W.heap.size) (x0 x1 x2 x3 x4 x5 x6 x7 : Int) (v : Value) : Keeps X w (setTx W b x0 x1 x2 x3 x4 x5 x6 x7 v) := by
  have t := setTx_touch (F := fun k => k = b) (W := W) (b := b) rfl x0 x1 x2 x3 x4 x5 x6 x7 v
  obtain ⟨Z, hZ⟩ : ∃ Z, setTx W b x0 x1 x2 x3 x4 x5 x6 x7 v = Z := ⟨_, rfl⟩
  rw [hZ] at t ⊢
  exact ⟨t.os.trans h.os, t.tape.trans h.tape, t.output.trans h.output, Nat.le_trans h.size t.size, fun k hk => (t.block k (hX k hk) (fun e => hB (e ▸ hk))).trans (h.block k hk)⟩
/-- what a Commit told, where it lies, and what is left; X: blocks that are nobody's -/
def ComHid (wr : World) (n : Nat) (bp : Nat → Nat) (S : Nat → SiteS) (X : Nat → Prop) (i : Nat) (now d0 d1 d2 d3 : Int) (ws : List Wr) (m : TxM) (ce : Int) (w' : World) : Prop :=
  Hid (ce = comE (S i) now d0 d1 d2 d3 ws ∧ m.t = comT (S i) now d0 d1 d2 d3 ws ∧ WrIn w' m.wa m.wc m.t.ws ∧ Aside w' n (fun j => siteP (bp j) (setK S i (comS (S i) now d0 d1 d2 d3 ws) j)) (fun k => X k ∨ m.blk k) n NoY ∧ Keeps X wr w' ∧ ∀ k, m.blk k → wr.heap.size ≤ k)
theorem aside_commit {wr : World} {n : Nat} {bp : Nat → Nat} {S : Nat → SiteS} {X : Nat → Prop} (h : Aside wr n (fun j => siteP (bp j) (S j)) X n NoY) {i : Nat} (hi : i < n) (hI : InvS (S i)) (now d0 d1 d2 d3 : Int) {a : Option Addr} {cap : Nat} {ws : List Wr} (hW : WrIn wr a cap ws) (hA : ∀ k off, ws ≠ [] → a = some ⟨k, off, none⟩ → X k) :
    Calls Tryd.prog 83 #[.pointer (some ⟨bp i, 0, none⟩), .int .i64 now, .agg #[.int .i64 d0, .int .i64 d1, .int .i64 d2, .int .i64 d3], .slice a ws.length cap] wr fun e w' => ∃ (m0 m1 m2 m3 m4 m5 m6 m7 : Int) (mws : List Wr) (ma : Option Addr) (mc : Nat) (ce : Int), e = .returned (.tuple #[.agg #[.int .i64 m0, .int .i64 m1, .int .i64 m2, .int .i64 m3, .int .i64 m4, .int .i64 m5, .int .i64 m6, .int .i64 m7, .slice ma mws.length mc], errV ce]) ∧ ComHid wr n bp S X i now d0 d1 d2 d3 ws ⟨⟨m0, m1, m2, m3, m4, m5, m6, m7, mws⟩, ma, mc⟩ ce w' := by
  obtain ⟨Gs, f⟩ := h
  refine (commit_apart now d0 d1 d2 d3 wr (f.is i hi) hI hW (fun k off e1 e2 hg => (f.free k (hA k off e1 e2)).2 i hi hg)).mono fun e w' ⟨m, G', he, hm, hh⟩ => ?_
  obtain ⟨q1, q2, q3, q4, q5⟩ := hh.out
  obtain ⟨h1, h2⟩ := f.stepX (ps' := fun j => siteP (bp j) (setK S i (comS (S i) now d0 d1 d2 d3 ws) j)) (Z := m.blk) hi (p := siteP (bp i) (comS (S i) now d0 d1 d2 d3 ws)) q2 q3 q4 (fun k hk => ⟨(q5 k hk).1, q1.blk_lt k hk, (q5 k hk).2⟩) (by rw [setK_same]) (fun j _ hj => by rw [setK_ne _ _ hj]) (by omega)
  exact ⟨m.t.site, m.t.seq, m.t.wall, m.t.count, m.t.d0, m.t.d1, m.t.d2, m.t.d3, m.t.ws, m.wa, m.wc, _, he, rfl, hm, q1, h1, h2, fun k hk => (q5 k hk).1⟩
/-- behind a Commit in a round: what was told lies in the box mb -/
def Told18 (w0 : World) (n : Nat) (bp : Nat → Nat) (xv av : Value) (S : Nat → SiteS) (all : List TxM) (i : Nat) (ws : List Wr) (ce : Int) (m : TxM) (mb : Nat) (wc : World) : Prop :=
  RowL wc mb (txC m) ∧ ∃ now d0 d1 d2 d3, ce = comE (S i) now d0 d1 d2 d3 ws ∧ m.t = comT (S i) now d0 d1 d2 d3 ws ∧ WrIn wc m.wa m.wc m.t.ws ∧ Aside wc n (fun j => siteP (bp j) (setK S i (comS (S i) now d0 d1 d2 d3 ws) j)) (fun k => ToldX w0.heap.size xv av all k ∨ m.blk k) n NoY ∧ TSt w0 n bp xv av (setK S i (comS (S i) now d0 d1 d2 d3 ws)) all wc ∧ ∀ k, m.blk k → av.ownBlock ≠ some k
section
variable {w0 W0 W w4 : World} {n : Nat} {bp : Nat → Nat} {xv av : Value} {S : Nat → SiteS} {all : List TxM} {i b1 : Nat} {now d0 d1 d2 d3 ce : Int} {ws : List Wr} {m0 m1 m2 m3 m4 m5 m6 m7 : Int} {mws : List Wr} {ma : Option Addr} {mc : Nat}
theorem told18_pre (T : TSt w0 n bp xv av S all W0) (hb : Below W0.heap.size W0 W) (h1 : W0.heap.size ≤ b1) (h2 : b1 < W.heap.size) : Aside W n (fun j => siteP (bp j) (S j)) (fun k => ToldX w0.heap.size xv av all k ∨ k = b1) n NoY :=
  (T.fam.more hb).less (fun k hk => hk.elim .inl (fun e => .inr (by omega)))
theorem TSt.off (T : TSt w0 n bp xv av S all W0) (h1 : W0.heap.size ≤ b1) : ¬ ToldX w0.heap.size xv av all b1 := fun h => by
  obtain ⟨Gs, f⟩ := T.fam
  have := (f.free b1 h).1
  omega
theorem told18_a (T : TSt w0 n bp xv av S all W0) (hb : Below W0.heap.size W0 W) {zs : List Value} (R1 : RowL W b1 zs) (hz : zs.length = 9) (h1 : W0.heap.size ≤ b1)
    (HC : ComHid W n bp S (fun k => ToldX w0.heap.size xv av all k ∨ k = b1) i now d0 d1 d2 d3 ws ⟨⟨m0, m1, m2, m3, m4, m5, m6, m7, mws⟩, ma, mc⟩ ce w4) : Told18 w0 n bp xv av S all i ws ce ⟨⟨m0, m1, m2, m3, m4, m5, m6, m7, mws⟩, ma, mc⟩ b1 (setTx w4 b1 m0 m1 m2 m3 m4 m5 m6 m7 (.slice ma mws.length mc)) := by
  obtain ⟨c1, c2, c3, c4, c5, c6⟩ := HC.out
  have T1 := T.later hb
  have hl := R1.lt
  have R4 : RowL w4 b1 zs := R1.keeps c5 (.inr rfl)
  have KT : Keeps (ToldX w0.heap.size xv av all) W (setTx w4 b1 m0 m1 m2 m3 m4 m5 m6 m7 (.slice ma mws.length mc)) := setTx_keeps ⟨c5.os, c5.tape, c5.output, c5.size, fun k hk => c5.block k (.inl hk)⟩ (T.off h1) (fun k hk => by obtain ⟨Gs, f⟩ := c4; exact (f.free k (.inl (.inl hk))).1) _ _ _ _ _ _ _ _ _
  have A4 := c4.touch (setTx_touch (W := w4) (b := b1) (.inl (.inr rfl)) m0 m1 m2 m3 m4 m5 m6 m7 (.slice ma mws.length mc))
  exact ⟨tx_set R4 hz _ _ _ _ _ _ _ _ _, now, d0, d1, d2, d3, c1, c2, WrIn.kept c3 (fun k hk => setTx_block (fun e => by have := c6 k hk; omega) _ _ _ _ _ _ _ _ _), A4.less (fun k hk => hk.elim (fun e => .inl (.inl e)) .inr), T1.keep KT A4 (fun k hk => .inl (.inl hk)), fun k hk e => by have := c6 k hk; have := (T1.ar.lt k e).2; omega⟩
theorem told18_b (T : TSt w0 n bp xv av S all W0) (hb : Below W0.heap.size W0 W)
    (HC : ComHid W n bp S (ToldX w0.heap.size xv av all) i now d0 d1 d2 d3 ws ⟨⟨m0, m1, m2, m3, m4, m5, m6, m7, mws⟩, ma, mc⟩ ce w4) (Ty : TypeId) : Told18 w0 n bp xv av S all i ws ce ⟨⟨m0, m1, m2, m3, m4, m5, m6, m7, mws⟩, ma, mc⟩ w4.heap.size (w4.alloc (.cells #[.int .i64 m0, .int .i64 m1, .int .i64 m2, .int .i64 m3, .int .i64 m4, .int .i64 m5, .int .i64 m6, .int .i64 m7, .slice ma mws.length mc] Ty)) := by
  obtain ⟨c1, c2, c3, c4, c5, c6⟩ := HC.out
  have T1 := T.later hb
  have hx := boxed (Below.refl _ w4) (.cells #[.int .i64 m0, .int .i64 m1, .int .i64 m2, .int .i64 m3, .int .i64 m4, .int .i64 m5, .int .i64 m6, .int .i64 m7, .slice ma mws.length mc] Ty)
  exact ⟨RowL.new (w := w4) (T := Ty) [.int .i64 m0, .int .i64 m1, .int .i64 m2, .int .i64 m3, .int .i64 m4, .int .i64 m5, .int .i64 m6, .int .i64 m7, .slice ma mws.length mc] rfl, now, d0, d1, d2, d3, c1, c2, c3.later hx, c4.later hx, (T1.keep c5 c4 (fun k hk => .inl hk)).later hx, fun k hk e => by have := c6 k hk; have := (T1.ar.lt k e).2; omega⟩
end
/-- one more was told: it is behind the others -/
theorem TSt.push {w0 wr w3 wE : World} {n g cap9 : Nat} {bp : Nat → Nat} {xv av : Value} {S : Nat → SiteS} {all : List TxM} {m : TxM} (h : TSt w0 n bp xv av S all wr) (hf : Aside wr n (fun j => siteP (bp j) (S j)) (fun k => ToldX w0.heap.size xv av all k ∨ m.blk k) n NoY) (hW : WrIn wr m.wa m.wc m.t.ws) (hne : ∀ k, m.blk k → av.ownBlock ≠ some k) (hb3 : Below wr.heap.size wr w3)
    (own : wE.ownsRow w0.heap.size 40 9 (.slice (some ⟨g, 0, none⟩) (all.length + 1) cap9) (all.length + 1) (txsC all ++ txC m)) (gr : w3.grownBy wE av.ownBlock) (eg : av.ownBlock = some g ∨ g = w3.heap.size) (hlt : g < wE.heap.size) :
    TSt w0 n bp xv (.slice (some ⟨g, 0, none⟩) (all.length + 1) cap9) S (all ++ [m]) wE := by
  have s3 := hb3.size
  have sE := gr.size
  have hs := h.hb.size
  have alt : ∀ q, av.ownBlock = some q → w0.heap.size ≤ q ∧ q < wr.heap.size := fun q e => h.ar.lt q e
  have kp : ∀ k, k < wr.heap.size → av.ownBlock ≠ some k → wE.heap[k]? = wr.heap[k]? := fun k hk hn => (gr.block k (by omega) (fun e => hn e.symm)).trans (hb3.block k hk)
  have gb : (Value.slice (some ⟨g, 0, none⟩) (all.length + 1) cap9).ownBlock = some g := rfl
  refine ⟨?_, own_keptN h.xr (fun k e => kp k (h.xr.lt k e).2 (fun e2 => (h.sep k e2).1 e)), ?_, fun x hx => ?_, (behind h.hb hb3).grown gr (by omega) (fun j hj => (alt j hj).1), fun k e => ?_⟩
  · obtain ⟨Gs, f⟩ := hf
    refine ⟨Gs, fun i hi => (siteP (bp i) (S i)).kept _ _ _ (f.is i hi) (fun k hk => kp k ((siteP (bp i) (S i)).lt _ _ (f.is i hi) k hk) (fun e => (f.free k (.inl (.inr (.inr (.inl e))))).2 i hi hk)) (by omega), f.apart, fun k hk => ?_, fun k hk => hk.elim⟩
    have old : (ToldX w0.heap.size xv av all k ∨ m.blk k) → k < wE.heap.size ∧ ∀ i, i < n → ¬ Gs i k := fun e => ⟨by have := (f.free k e).1; omega, (f.free k e).2⟩
    rcases hk with e | e | e | ⟨x, hx, e⟩
    · exact old (.inl (.inl e))
    · exact old (.inl (.inr (.inl e)))
    · rw [gb] at e
      injection e with e
      subst e
      rcases eg with x | x
      · exact old (.inl (.inr (.inr (.inl x))))
      · exact ⟨hlt, fun i hi hg => by have := (siteP (bp i) (S i)).lt _ _ (f.is i hi) g hg; omega⟩
    · rcases List.mem_append.1 hx with q | q
      · exact old (.inl (.inr (.inr (.inr ⟨x, q, e⟩))))
      · rw [List.mem_singleton.1 q] at e
        exact old (.inr e)
  · rw [txsC_snoc, List.length_append]
    exact own
  · rcases List.mem_append.1 hx with q | q
    · exact WrIn.kept (h.wi x q) (fun k hk => kp k ((h.wi x q).blk_lt k hk) (fun e2 => (h.sep k e2).2 x q hk))
    · rw [List.mem_singleton.1 q]
      exact WrIn.kept hW (fun k hk => kp k (hW.blk_lt k hk) (hne k hk))
  · rw [gb] at e
    injection e with e
    subst e
    refine ⟨fun e2 => ?_, fun x hx hk => ?_⟩
    · rcases eg with q | q
      · exact (h.sep g q).1 e2
      · have := (h.xr.lt g e2).2; omega
    · rcases List.mem_append.1 hx with y | y
      · rcases eg with q | q
        · exact (h.sep g q).2 x y hk
        · have := (h.wi x y).blk_lt g hk; omega
      · rw [List.mem_singleton.1 y] at hk
        rcases eg with q | q
        · exact hne g hk q
        · have := hW.blk_lt g hk; omega

end Go.Proofs.YtknejedgddlabaaDoor

namespace Go.Proofs.YtknejedgddlabaaDoor
open Go.RowKit

theorem Hist.nodup {H : List TxP} (h : Hist H) : H.Nodup := by
  induction h with
  | nil => exact List.nodup_nil
  | @snoc H t g1 g2 g3 g4 g5 ih =>
    refine List.nodup_append.2 ⟨ih, by simp, fun x hx y hy e => ?_⟩
    rw [List.mem_singleton.1 hy] at e
    subst e
    have := (g1.seq x hx).2
    omega
/-- a site that has some of H; what is left has not come -/
structure Got (H : List TxP) (S : SiteS) (left : List TxP) : Prop where
  ov : Over H S
  inv : InvS S
  id : S.id = 3
  nx : nextS S = none
  came : ∀ x ∈ H, Came S x ↔ x ∉ left
  nd : left.Nodup
  sub : ∀ x ∈ left, x ∈ H
  len : S.log.length + S.waits.length + left.length = H.length
theorem Got.new {H : List TxP} (h : Hist H) : Got H (newS 3) H :=
  ⟨Over.new H h 3, InvS.new (by omega) (by omega), rfl, rfl, fun x hx => ⟨fun q => (by rcases q with q | q <;> cases q), fun q => absurd hx q⟩, h.nodup, fun _ h => h, by show 0 + 0 + _ = _; omega⟩
theorem Got.take {H : List TxP} {S : SiteS} {left : List TxP} (g : Got H S left) (hH : Hist H) (hl : H.length ≤ 30) {k : Nat} {t : TxP} (hk : left[k]? = some t) (ht : t.site < 3) :
    takeE S t = 0 ∧ ∀ S', TakesTo S t S' → Got H S' (left.eraseIdx k) ∧ takeE S' t = 9 := by
  have hm : t ∈ left := List.mem_of_getElem? hk
  have hin := g.sub t hm
  have hlen := g.len
  have hid : t.site ≠ S.id := by rw [g.id]; omega
  have hpos : 0 < left.length := List.length_pos_of_mem hm
  have hk' : k < left.length := (List.getElem?_eq_some_iff.1 hk).1
  have hne : ¬ Came S t := fun q => (g.came t hin).1 q hm
  have main : ∀ S', takeE S t = 0 ∧ (TakesTo S t S' → Over H S' ∧ (∀ x ∈ H, Came S' x ↔ (Came S x ∨ x = t)) ∧ S'.id = S.id ∧ S'.log.length + S'.waits.length = S.log.length + S.waits.length + 1 ∧ nextS S' = none) := fun S' => g.ov.take_new hH g.inv hin hid hne (by omega)
  refine ⟨(main S).1, fun S' hT => ?_⟩
  obtain ⟨r1, r2, r3, r4, r5⟩ := (main S').2 hT
  have hmem : ∀ x, x ∈ left.eraseIdx k ↔ x ∈ left ∧ x ≠ t := fun x => by
    constructor
    · intro hx
      refine ⟨List.mem_of_mem_eraseIdx hx, fun e => ?_⟩
      subst e
      obtain ⟨i, hne', he⟩ := List.mem_eraseIdx_iff_getElem?.1 hx
      have hi' : i < left.length := (List.getElem?_eq_some_iff.1 he).1
      have := (List.getElem?_inj hi' g.nd).1 (he.trans hk.symm)
      exact hne' this
    · rintro ⟨hx, hn⟩
      obtain ⟨i, he⟩ := List.mem_iff_getElem?.1 hx
      refine List.mem_eraseIdx_iff_getElem?.2 ⟨i, fun e => hn ?_, he⟩
      subst e
      rw [hk] at he
      exact (Option.some.inj he).symm
  refine ⟨⟨r1, hT.inv g.inv, by rw [r3]; exact g.id, r5, fun x hx => ?_, g.nd.sublist (List.eraseIdx_sublist left k), fun x hx => g.sub x ((hmem x).1 hx).1, ?_⟩, r1.take_twice hH hin (by rw [r3]; exact hid) ((r2 t hin).2 (.inr rfl))⟩
  · rw [r2 x hx, g.came x hx, hmem x]
    constructor
    · rintro (q | q) ⟨h1, h2⟩
      · exact q h1
      · exact h2 q
    · intro q
      by_cases e : x = t
      · exact .inr e
      · exact .inl (fun h => q ⟨h, e⟩)
  · rw [List.length_eraseIdx, if_pos hk', r4]
    omega
theorem TakesTo.twice {S S' : SiteS} {t : TxP} (h : TakesTo S t S') (e : takeE S t = 9) : S' = S := by
  rcases h with ⟨_, h⟩ | ⟨q, _⟩
  · exact h
  · rw [e] at q
    omega
theorem covB_of {a0 a1 a2 a3 d0 d1 d2 d3 : Int} (h : ∀ s, 0 ≤ s → s ≤ 3 → depOf s d0 d1 d2 d3 ≤ depOf s a0 a1 a2 a3) : covB a0 a1 a2 a3 d0 d1 d2 d3 = true := by
  have h0 := h 0 (by omega) (by omega)
  have h1 := h 1 (by omega) (by omega)
  have h2 := h 2 (by omega) (by omega)
  have h3 := h 3 (by omega) (by omega)
  simp [depOf] at h0 h1 h2 h3
  simp [covB]
  omega
/-- what is applied is closed -/
theorem Got.closed {H : List TxP} {S : SiteS} {left : List TxP} (g : Got H S left) {x : TxP} (hx : x ∈ H) (hs : x.seq ≤ depOf x.site S.a0 S.a1 S.a2 S.a3) : covB S.a0 S.a1 S.a2 S.a3 x.d0 x.d1 x.d2 x.d3 = true :=
  covB_of (g.ov.clo x ((g.ov.has x hx).2 hs))
theorem Got.nil {H : List TxP} {S : SiteS} (g : Got H S []) (hH : Hist H) : (∀ x ∈ H, x ∈ S.log) ∧ S.waits = [] ∧ (∀ s, 0 ≤ s → s ≤ 3 → appl S s = cnt H s) ∧ S.log.length = H.length := by
  obtain ⟨h1, h2, h3⟩ := g.ov.all hH g.nx (fun x hx => (g.came x hx).2 (by simp))
  have := g.len
  rw [h2] at this
  exact ⟨h1, h2, h3, by simpa using this⟩
/-- both have the same -/
theorem Got.same {H : List TxP} {A B : SiteS} (a : Got H A []) (b : Got H B []) (hH : Hist H) : A.a0 = B.a0 ∧ A.a1 = B.a1 ∧ A.a2 = B.a2 ∧ A.a3 = B.a3 ∧ B.waits.length = 0 ∧ (∀ x0 x1 x2 x3 n, toldC x0 x1 x2 x3 A.l n = toldC x0 x1 x2 x3 B.l n) ∧ (missP B 0 0 0 0).length = H.length := by
  obtain ⟨a1, a2, a3, a4⟩ := a.nil hH
  obtain ⟨b1, b2, b3, b4⟩ := b.nil hH
  have e : ∀ s, 0 ≤ s → s ≤ 3 → appl A s = appl B s := fun s h0 h3 => (a3 s h0 h3).trans (b3 s h0 h3).symm
  have e0 := e 0 (by omega) (by omega)
  have e1 := e 1 (by omega) (by omega)
  have e2 := e 2 (by omega) (by omega)
  have e3 := e 3 (by omega) (by omega)
  simp [appl, depOf] at e0 e1 e2 e3
  refine ⟨e0, e1, e2, e3, by rw [b2]; rfl, fun x0 x1 x2 x3 n => ?_, ?_⟩
  · have hs : ∀ x, x ∈ A.log ↔ x ∈ B.log := fun x => ⟨fun h => b1 x (a.ov.lin x h), fun h => a1 x (b.ov.lin x h)⟩
    unfold toldC
    refine List.map_congr_left (fun k _ => ?_)
    rw [told_same a.ov b.ov a.inv b.inv hs]
  · unfold missP
    rw [List.filter_eq_self.2 (fun t ht => ?_), b4]
    have := (hH.seq t (b.ov.lin t ht)).1
    have e : depOf t.site 0 0 0 0 = 0 := by unfold depOf; split <;> first | rfl | (split <;> first | rfl | (split <;> rfl))
    rw [e]
    exact decide_eq_true (by omega)

end Go.Proofs.YtknejedgddlabaaDoor

namespace Go.Proofs.YtknejedgddlabaaDoor
open Go.RowKit

def soP (ba bb : Nat) (A B : SiteS) : Nat → Part := fun j => if j = 0 then siteP ba A else siteP bb B
theorem soP_ne {ba bb : Nat} {A B S' : SiteS} {j : Nat} (hj : j < 2) (hn : j ≠ 1) : soP ba bb A S' j = soP ba bb A B j := by
  have h : j = 0 := by omega
  rw [h]
  rfl
section
variable {w w' wr : World} {ba bb : Nat} {A B : SiteS} {X : Nat → Prop}
theorem so_isA (h : Aside w 2 (soP ba bb A B) X 2 NoY) : ∃ G, PS w ba G A := by
  obtain ⟨Gs, f⟩ := h
  exact ⟨_, f.is 0 (by omega)⟩
theorem so_isB (h : Aside w 2 (soP ba bb A B) X 2 NoY) : ∃ G, PS w bb G B := by
  obtain ⟨Gs, f⟩ := h
  exact ⟨_, f.is 1 (by omega)⟩
theorem so_new {w0 w1 w2 : World} (hA : PS w1 (w0.heap.size + 1) (fun k => k = w0.heap.size + 1 ∨ k = w0.heap.size) A) (hB : PS w2 (w1.heap.size + 1) (fun k => k = w1.heap.size + 1 ∨ k = w1.heap.size) B) (hb : Below w1.heap.size w1 w2) : Aside w2 2 (soP (w0.heap.size + 1) (w1.heap.size + 1) A B) (fun k => k < w0.heap.size) 2 NoY := by
  have l1 := hA.lt _ (.inl rfl)
  have l2 := hB.lt _ (.inl rfl)
  have s1 := hb.size
  refine ⟨fun j => if j = 0 then (fun k => k = w0.heap.size + 1 ∨ k = w0.heap.size) else (fun k => k = w1.heap.size + 1 ∨ k = w1.heap.size), fun i hi => ?_, fun i j k hi hj hij h1 h2 => ?_, fun k hk => ⟨by omega, fun i hi h1 => ?_⟩, fun k hk => hk.elim⟩
  · by_cases q : i = 0
    · subst q
      exact hA.later hb
    · have q : i = 1 := by omega
      subst q
      exact hB
  · have e : (i = 0 ∧ j = 1) ∨ (i = 1 ∧ j = 0) := by omega
    rcases e with ⟨rfl, rfl⟩ | ⟨rfl, rfl⟩ <;> simp at h1 h2 <;> omega
  · have e : i = 0 ∨ i = 1 := by omega
    rcases e with rfl | rfl <;> simp at h1 <;> omega
/-- what comes of a Take -/
def SoTake (ba bb : Nat) (A B : SiteS) (X : Nat → Prop) (wr w' : World) : Prop := Hid (Aside w' 2 (soP ba bb A B) X 2 NoY ∧ Keeps X wr w')
theorem so_takeA (h : Aside wr 2 (soP ba bb A B) X 2 NoY) (hI : InvS A) (hn : A.waits.length ≤ 990) {m : TxM} (hW : WrIn wr m.wa m.wc m.t.ws) :
    Calls Tryd.prog 48 #[.pointer (some ⟨ba, 0, none⟩), txV m] wr fun e w' => e = .returned (errV (takeE A m.t)) ∧ ∃ A', Hid (TakesTo A m.t A') ∧ SoTake ba bb A' B X wr w' := by
  obtain ⟨Gs, f⟩ := h
  refine (take_site m wr (f.is 0 (by omega)) hI hn hW).mono fun e w' ⟨he, S', hT, hp⟩ => ?_
  obtain ⟨h1, h2⟩ := f.step (ps' := soP ba bb S' B) (i := 0) (by omega) (p := siteP ba S') hp rfl (fun j _ hj => by unfold soP; rw [if_neg hj, if_neg hj]) (by omega)
  exact ⟨he, S', hT, h1, ⟨h2.os, h2.tape, h2.output, h2.size, fun k hk => h2.block k (.inl hk)⟩⟩
theorem so_takeB (h : Aside wr 2 (soP ba bb A B) X 2 NoY) (hI : InvS B) (hn : B.waits.length ≤ 990) {m : TxM} (hW : WrIn wr m.wa m.wc m.t.ws) :
    Calls Tryd.prog 48 #[.pointer (some ⟨bb, 0, none⟩), txV m] wr fun e w' => e = .returned (errV (takeE B m.t)) ∧ ∃ B', Hid (TakesTo B m.t B') ∧ SoTake ba bb A B' X wr w' := by
  obtain ⟨Gs, f⟩ := h
  refine (take_site m wr (f.is 1 (by omega)) hI hn hW).mono fun e w' ⟨he, S', hT, hp⟩ => ?_
  obtain ⟨h1, h2⟩ := f.step (ps' := soP ba bb A S') (i := 1) (by omega) (p := siteP bb S') hp rfl (fun j hj hj1 => soP_ne hj hj1) (by omega)
  exact ⟨he, S', hT, h1, ⟨h2.os, h2.tape, h2.output, h2.size, fun k hk => h2.block k (.inl hk)⟩⟩
end
/-- the transactions as they lie, and what they are -/
theorem map_eraseIdx' (l : List TxM) (k : Nat) : (l.take k ++ l.drop (k + 1)).map (·.t) = (l.map (·.t)).eraseIdx k := by
  rw [List.eraseIdx_eq_take_drop_succ]
  simp

end Go.Proofs.YtknejedgddlabaaDoor

namespace Go.Proofs.YtknejedgddlabaaDoor
open Go.RowKit

def plW : List Wr := [⟨1, ⟨#[120]⟩, false⟩]
def plT : TxP := ⟨0, 1, 7, 0, 0, 0, 0, 0, plW⟩
theorem pl_comE : comE (newS 0) 7 0 0 0 0 plW = 0 := by rfl
theorem pl_comT : comT (newS 0) 7 0 0 0 0 plW = plT := by rfl
theorem pl_takeE : takeE (newS 1) plT = 0 := by rfl
def plS : SiteS := goneS { newS 1 with waits := [plT] } plT
theorem pl_takes {S' : SiteS} (h : TakesTo (newS 1) plT S') : S' = plS :=
  h.det (.inr ⟨pl_takeE, .step (x := plT) (by decide) (by rfl) (.none (by rfl))⟩)
theorem pl_read : readS plS 1 1 0 0 0 = (⟨7, 0, 0, 1, ⟨#[120]⟩, false⟩, 0) := by rfl

theorem Touch.below {F : Nat → Prop} {n : Nat} {w w1 w2 : World} (hb : Below n w w1) (h : Touch F w1 w2) (hF : ∀ k, F k → n ≤ k) (hn : n ≤ w1.heap.size) : Below n w w2 :=
  ⟨h.os.trans hb.os, h.tape.trans hb.tape, h.output.trans hb.output, Nat.le_trans hb.size h.size, fun k hk => (h.block k (by omega) (fun e => by have := hF k e; omega)).trans (hb.block k hk)⟩
set_option maxRecDepth 100000 in
set_option maxHeartbeats 8000000 in
theorem placed_any (w : World) : Calls Tryd.prog 45 #[] w fun e w' => e = .returned (.bool true) ∧ Below w.heap.size w w' := by
  have N1 := new_any 0 w (by decide) (by decide)
  go_enter Tryd.func45, Tryd.ntmps45
  go_wp2_with fail
  refine N1.mono ?_
  rintro e w1 ⟨rfl, P1, hb1⟩
  have N2 := new_any 1 w1 (by decide) (by decide)
  clear N1
  go_wp2_with fail
  refine N2.mono ?_
  rintro e w2 ⟨rfl, P2, hb2⟩
  have l1 := P1.lt _ (.inl rfl)
  have s2 := hb2.size
  have l2 := P2.lt _ (.inl rfl)
  have bz := boxed (Below.refl _ w2) (.cells #[.int .i64 1, .string ⟨#[120]⟩, .bool false] 115)
  have hb3 := behind (behind hb1 hb2) bz
  have P1c := (P1.later hb2).later bz
  have P2c := P2.later bz
  have WI : WrIn (w2.alloc (.cells #[.int .i64 1, .string ⟨#[120]⟩, .bool false] 115)) (some ⟨w2.heap.size, 0, none⟩) 1 plW := by
    refine ⟨by simp [plW], by omega, .inr ⟨w2.heap.size, 0, rfl, fun i hi => ?_⟩⟩
    obtain rfl : i = 0 := by simpa [plW] using hi
    refine ⟨?_, ?_, ?_⟩ <;> (go_simp; rfl)
  have CM := commit_apart 7 0 0 0 0 _ P1c (InvS.new (by decide) (by decide)) WI (fun k off _ e hg => by
    injection e with e
    injection e with e
    rcases hg with h | h <;> omega)
  clear N2 P1 P2 WI
  go_wp2_with fail
  refine CM.mono ?_
  rintro e w4 ⟨⟨mt, ma, mc⟩, G', rfl, hmt, hh⟩
  rw [pl_comT] at hmt
  simp only at hmt
  subst hmt
  obtain ⟨hW4, hP4, hsub, tt, hnew⟩ := hh.out
  rw [pl_comE, show errV 0 = .nilIface from rfl, show txV ⟨plT, ma, mc⟩ = .agg #[.int .i64 0, .int .i64 1, .int .i64 7, .int .i64 0, .int .i64 0, .int .i64 0, .int .i64 0, .int .i64 0, .slice ma 1 mc] from rfl]
  have hb4 : Below w.heap.size w w4 := Touch.below hb3 tt (fun k e => by rcases e with h | h <;> omega) (by have := hb3.size; omega)
  have P2d := P2c.kept (fun k hk => tt.block k (P2c.lt k hk) (fun e => by rcases hk with h | h <;> rcases e with g | g <;> omega)) tt.size
  have bm := boxed (Below.refl _ w4) (.cells #[.int .i64 0, .int .i64 1, .int .i64 7, .int .i64 0, .int .i64 0, .int .i64 0, .int .i64 0, .int .i64 0, .slice ma 1 mc] 40)
  have RM := RowL.new (w := w4) (T := 40) [.int .i64 0, .int .i64 1, .int .i64 7, .int .i64 0, .int .i64 0, .int .i64 0, .int .i64 0, .int .i64 0, .slice ma 1 mc] rfl
  change RowL (w4.alloc (.cells #[.int .i64 0, .int .i64 1, .int .i64 7, .int .i64 0, .int .i64 0, .int .i64 0, .int .i64 0, .int .i64 0, .slice ma 1 mc] 40)) w4.heap.size [.int .i64 0, .int .i64 1, .int .i64 7, .int .i64 0, .int .i64 0, .int .i64 0, .int .i64 0, .int .i64 0, .slice ma 1 mc] at RM
  have hb5 := boxed hb4 (.cells #[.int .i64 0, .int .i64 1, .int .i64 7, .int .i64 0, .int .i64 0, .int .i64 0, .int .i64 0, .int .i64 0, .slice ma 1 mc] 40)
  have TK := take_site ⟨plT, ma, mc⟩ _ (P2d.later bm) (InvS.new (by decide) (by decide)) (by decide) (hW4.later bm)
  rw [show txV ⟨plT, ma, mc⟩ = .agg #[.int .i64 0, .int .i64 1, .int .i64 7, .int .i64 0, .int .i64 0, .int .i64 0, .int .i64 0, .int .i64 0, .slice ma 1 mc] from rfl, pl_takeE, show errV 0 = .nilIface from rfl] at TK
  clear CM hh hW4 hP4 hsub hnew P1c P2c
  have x0 := RM.cell 0 _ rfl
  have x1 := RM.cell 1 _ rfl
  have x2 := RM.cell 2 _ rfl
  have x3 := RM.cell 3 _ rfl
  have x4 := RM.cell 4 _ rfl
  have x5 := RM.cell 5 _ rfl
  have x6 := RM.cell 6 _ rfl
  have x7 := RM.cell 7 _ rfl
  have x8 := RM.cell 8 _ rfl
  go_wp2_with fail
  refine TK.mono ?_
  rintro e w6 ⟨rfl, S', hT, hp⟩
  obtain rfl := pl_takes hT
  obtain ⟨G6, P6, sub6, t6⟩ := hp
  have hb6 : Below w.heap.size w w6 := Touch.below hb5 t6 (fun k e => by rcases e with h | h <;> omega) hb5.size
  have RD := pread_site 1 1 0 0 0 w6 P6 (hT.inv (InvS.new (by decide) (by decide)))
  rw [pl_read] at RD
  clear TK x0 x1 x2 x3 x4 x5 x6 x7 x8 RM
  go_wp2_with fail
  refine RD.mono ?_
  rintro e w7 ⟨rfl, hb7⟩
  rw [show verL ((⟨7, 0, 0, 1, ⟨#[120]⟩, false⟩, 0) : Ver × Int).1 = [.int .i64 7, .int .i64 0, .int .i64 0, .int .i64 1, .string ⟨#[120]⟩, .bool false] from rfl, show errV ((⟨7, 0, 0, 1, ⟨#[120]⟩, false⟩, 0) : Ver × Int).2 = .nilIface from rfl]
  have bv := boxed (Below.refl _ w7) (.cells #[.int .i64 7, .int .i64 0, .int .i64 0, .int .i64 1, .string ⟨#[120]⟩, .bool false] 71)
  have RV := RowL.new (w := w7) (T := 71) [.int .i64 7, .int .i64 0, .int .i64 0, .int .i64 1, .string ⟨#[120]⟩, .bool false] rfl
  change RowL (w7.alloc (.cells #[.int .i64 7, .int .i64 0, .int .i64 0, .int .i64 1, .string ⟨#[120]⟩, .bool false] 71)) w7.heap.size [.int .i64 7, .int .i64 0, .int .i64 0, .int .i64 1, .string ⟨#[120]⟩, .bool false] at RV
  have hb8 := boxed (behind hb6 hb7) (.cells #[.int .i64 7, .int .i64 0, .int .i64 0, .int .i64 1, .string ⟨#[120]⟩, .bool false] 71)
  have AP := applied_any _ ((P6.later hb7).later bv)
  rw [show plS.a0 = 1 from rfl, show plS.a1 = 0 from rfl, show plS.a2 = 0 from rfl, show plS.a3 = 0 from rfl] at AP
  have y4 := RV.cell 4 _ rfl
  have ev := eqVecB 1 0 0 0 1 0 0 0
  clear RD
  go_wp2_with fail
  refine AP.mono ?_
  rintro e w9 ⟨rfl, hb9⟩
  clear AP y4 RV
  go_wp2_with fail
  go_ret
  exact ⟨rfl, behind hb8 hb9⟩

end Go.Proofs.YtknejedgddlabaaDoor
