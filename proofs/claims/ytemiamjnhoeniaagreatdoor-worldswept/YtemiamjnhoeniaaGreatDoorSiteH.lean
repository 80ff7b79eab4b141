/-
  All that was committed, one behind the other, and a site that has some of it: what it may take, and what comes of it, in whichever order; no Go in sight.
  What a site takes of all that was committed, in whichever order: each once; in the end it has all; no Go in sight.
  A commit at a site that has all of its own: it is the next of all that was committed; what is told depends on what was applied alone; no Go in sight.
  Several sites that commit, and take what the others committed: what is always so of them all; no Go in sight.
  A world, what it is: sites, walls, clients and where they are, what is under way; and what is done to it. No Go in sight.
  A world of the program in memory (world.World): its box, its rows, what is under way, its sites and sessions, all apart.
  What comes of a Commit of the program's session.
  Towards a Commit of a session: what is left of the session and of the site, step by step; one cell of what it has seen.
  A site's log is in an order of its own: each the next of its site, over what stands ahead of it. No Go in sight.
  Towards WorldMeets: one that is ready is applied when it comes. No Go in sight.
  A site that sweeps, beside one that never does: they are the same but for what they hold, and what is behind. No Go in sight.
-/
import Derived.Test.YtemiamjnhoeniaaGreatDoorPTake
import Derived.Test.YtemiamjnhoeniaaGreatDoorSiteG
import Derived.Test.YtemiamjnhoeniaaGreatDoorSiteB
import Derived.Test.YtemiamjnhoeniaaGreatDoorSiteA
import Derived.Maps.AppendAt
import Derived.Test.YtemiamjnhoeniaaGreatDoorChecked
import Derived.Test.YtemiamjnhoeniaaGreatDoorSiteC
namespace Go.Proofs.YtemiamjnhoeniaaGreatDoor
open Go.RowKit

def cnt (H : List TxP) (s : Int) : Nat := H.countP (fun x => decide (x.site = s))
theorem cnt_snoc (H : List TxP) (t : TxP) (s : Int) : cnt (H ++ [t]) s = cnt H s + if t.site = s then 1 else 0 := by
  unfold cnt
  rw [List.countP_append]
  by_cases h : t.site = s <;> simp [h]
def appl (S : SiteS) (s : Int) : Int := depOf s S.a0 S.a1 S.a2 S.a3
def over (t : TxP) (s : Int) : Int := depOf s t.d0 t.d1 t.d2 t.d3
inductive Hist : List TxP → Prop
  | nil : Hist []
  | snoc {H : List TxP} {t : TxP} : Hist H → okT t = true → t.seq = cnt H t.site + 1 → (∀ s, 0 ≤ s → s ≤ 3 → over t s ≤ cnt H s) → (∀ x ∈ H, x.site = t.site → cmpS x.wall x.count t.wall t.count < 0) → Hist (H ++ [t])
theorem Hist.ok {H : List TxP} (h : Hist H) : ∀ x ∈ H, okT x = true := by
  induction h with
  | nil => intro x hx; cases hx
  | snoc _ h2 _ _ _ ih =>
    intro x hx
    rcases List.mem_append.1 hx with e | e
    · exact ih x e
    · rw [List.mem_singleton.1 e]; exact h2
theorem Hist.site {H : List TxP} (h : Hist H) {x : TxP} (hx : x ∈ H) : 0 ≤ x.site ∧ x.site ≤ 3 := (okT_parts (h.ok x hx)).1
theorem Hist.seq {H : List TxP} (h : Hist H) : ∀ x ∈ H, 1 ≤ x.seq ∧ x.seq ≤ cnt H x.site := by
  induction h with
  | nil => intro x hx; cases hx
  | @snoc H t _ h2 h3 _ _ ih =>
    intro x hx
    rw [cnt_snoc]
    rcases List.mem_append.1 hx with e | e
    · have := ih x e
      split <;> omega
    · rw [List.mem_singleton.1 e, if_pos rfl]
      omega
theorem Hist.uniq {H : List TxP} (h : Hist H) : ∀ x ∈ H, ∀ y ∈ H, x.site = y.site → x.seq = y.seq → x = y := by
  induction h with
  | nil => intro x hx; cases hx
  | @snoc H t h1 _ h3 _ _ ih =>
    intro x hx y hy e1 e2
    rcases List.mem_append.1 hx with a | a
    · rcases List.mem_append.1 hy with b | b
      · exact ih x a y b e1 e2
      · rw [List.mem_singleton.1 b] at e1 e2
        have := h1.seq x a
        rw [e1] at this
        omega
    · rw [List.mem_singleton.1 a] at e1 e2 ⊢
      rcases List.mem_append.1 hy with b | b
      · have := h1.seq y b
        rw [← e1] at this
        omega
      · rw [List.mem_singleton.1 b]
theorem Hist.all {H : List TxP} (h : Hist H) : ∀ (s n : Int), 1 ≤ n → n ≤ cnt H s → ∃ x ∈ H, x.site = s ∧ x.seq = n := by
  induction h with
  | nil => intro s n h1 h2; simp [cnt] at h2; omega
  | @snoc H t _ _ h3 _ _ ih =>
    intro s n h1 h2
    rw [cnt_snoc] at h2
    by_cases hn : n ≤ cnt H s
    · obtain ⟨x, hx, e⟩ := ih s n h1 hn
      exact ⟨x, List.mem_append.2 (.inl hx), e⟩
    · by_cases hs : t.site = s
      · rw [if_pos hs] at h2
        refine ⟨t, List.mem_append.2 (.inr (List.mem_singleton.2 rfl)), hs, ?_⟩
        rw [h3, hs]
        omega
      · rw [if_neg hs] at h2
        omega
theorem Hist.stamp {H : List TxP} (h : Hist H) : ∀ x ∈ H, ∀ y ∈ H, x.site = y.site → x.wall = y.wall → x.count = y.count → x = y := by
  have irr : ∀ a b : Int, ¬ cmpS a b a b < 0 := fun a b => by
    rcases cmpS_cases a b a b with ⟨h, e⟩ | ⟨h, e⟩ | ⟨h, e⟩ <;> rw [e] <;> omega
  induction h with
  | nil => intro x hx; cases hx
  | @snoc H t h1 _ h3 _ h5 ih =>
    intro x hx y hy e1 e2 e3
    rcases List.mem_append.1 hx with a | a
    · rcases List.mem_append.1 hy with b | b
      · exact ih x a y b e1 e2 e3
      · rw [List.mem_singleton.1 b] at e1 e2 e3
        have := h5 x a e1
        rw [e2, e3] at this
        exact absurd this (irr _ _)
    · rw [List.mem_singleton.1 a] at e1 e2 e3 ⊢
      rcases List.mem_append.1 hy with b | b
      · have := h5 y b e1.symm
        rw [e2, e3] at this
        exact absurd this (irr _ _)
      · rw [List.mem_singleton.1 b]
theorem Hist.over {H : List TxP} (h : Hist H) : ∀ x ∈ H, ∀ s, 0 ≤ s → s ≤ 3 → over x s ≤ cnt H s := by
  induction h with
  | nil => intro x hx; cases hx
  | @snoc H t _ _ _ h4 _ ih =>
    intro x hx s h0 h3
    rw [cnt_snoc]
    rcases List.mem_append.1 hx with a | a
    · have := ih x a s h0 h3
      split <;> omega
    · rw [List.mem_singleton.1 a]
      have := h4 s h0 h3
      split <;> omega

structure Over (H : List TxP) (S : SiteS) : Prop where
  lin : ∀ x ∈ S.log, x ∈ H
  nd : S.log.Nodup
  win : ∀ x ∈ S.waits, x ∈ H
  le : ∀ s, 0 ≤ s → s ≤ 3 → 0 ≤ appl S s ∧ appl S s ≤ cnt H s
  has : ∀ x ∈ H, x ∈ S.log ↔ x.seq ≤ appl S x.site
  wno : ∀ x ∈ S.waits, x ∉ S.log
  clo : ∀ x ∈ S.log, ∀ s, 0 ≤ s → s ≤ 3 → over x s ≤ appl S s
  lst : ∀ x ∈ S.log, cmpS x.wall x.count S.lw S.lc ≤ 0
  vs : ∀ h, h ∈ S.l ↔ ∃ t ∈ S.log, ∃ x ∈ t.ws, h = ⟨x.key, verOf t x⟩
theorem Over.new (H : List TxP) (hH : Hist H) (id : Int) : Over H (newS id) := by
  have e : ∀ s, appl (newS id) s = 0 := fun s => depOf_zero s
  refine ⟨fun x hx => (by cases hx), List.nodup_nil, fun x hx => (by cases hx), fun s _ _ => ⟨by rw [e]; exact Int.le_refl _, by rw [e]; omega⟩, fun x hx => ⟨fun h => (by cases h), fun h => ?_⟩, fun x hx => (by cases hx), fun x hx => (by cases hx), fun x hx => (by cases hx), fun h => ⟨fun hh => (by cases hh), fun hh => ?_⟩⟩
  · rw [e] at h
    have := (hH.seq x hx).1
    omega
  · obtain ⟨t, ht, _⟩ := hh
    cases ht
theorem Over.grow {H : List TxP} {S : SiteS} (h : Over H S) (hH : Hist H) {t : TxP} (hq : t.seq = cnt H t.site + 1) (ht : 0 ≤ t.site ∧ t.site ≤ 3) : Over (H ++ [t]) S := by
  refine ⟨fun x hx => List.mem_append.2 (.inl (h.lin x hx)), h.nd, fun x hx => List.mem_append.2 (.inl (h.win x hx)), fun s h0 h3 => ?_, fun x hx => ?_, h.wno, h.clo, h.lst, h.vs⟩
  · have := h.le s h0 h3
    rw [cnt_snoc]
    split <;> omega
  · rcases List.mem_append.1 hx with e | e
    · exact h.has x e
    · rw [List.mem_singleton.1 e]
      have l := h.le t.site ht.1 ht.2
      refine ⟨fun hm => ?_, fun hm => by omega⟩
      have := (hH.seq t (h.lin t hm)).2
      omega
theorem puts_all {t : TxP} : ∀ (ws : List Wr) (l : List Hd), (∀ x ∈ ws, inB x.key 0 7 = true ∧ okVer (verOf t x) = true) → ws.Pairwise (fun x y => x.key ≠ y.key) → (∀ x ∈ ws, ∀ h ∈ l, ¬ (h.key = x.key ∧ Twin h.v (verOf t x))) → ∀ h, h ∈ putsT t ws l ↔ h ∈ l ∨ ∃ x ∈ ws, h = ⟨x.key, verOf t x⟩
  | [], l, _, _, _ => fun h => by simp [putsT]
  | x :: ws, l, ho, hp, hn => fun h => by
    obtain ⟨p1, p2⟩ := List.pairwise_cons.1 hp
    have e0 : putE l x.key (verOf t x) = 0 := by
      unfold putE
      rw [if_pos (ho x (List.mem_cons_self ..)).1, if_pos (ho x (List.mem_cons_self ..)).2, if_neg]
      intro ha
      obtain ⟨y, hy, e⟩ := List.any_eq_true.1 ha
      simp only [twinB, Bool.and_eq_true, decide_eq_true_eq] at e
      exact hn x (List.mem_cons_self ..) y hy ⟨e.1.1, e.1.2.1, e.1.2.2, e.2⟩
    have e1 : putL l x.key (verOf t x) = l ++ [⟨x.key, verOf t x⟩] := by unfold putL; rw [if_pos e0]
    have ih := puts_all ws (l ++ [⟨x.key, verOf t x⟩]) (fun y hy => ho y (List.mem_cons_of_mem _ hy)) p2 (fun y hy k hk => by
      rcases List.mem_append.1 hk with a | a
      · exact hn y (List.mem_cons_of_mem _ hy) k a
      · rw [List.mem_singleton.1 a]
        rintro ⟨e, _⟩
        exact p1 y hy e) h
    show h ∈ putsT t ws (putL l x.key (verOf t x)) ↔ _
    rw [e1, ih]
    constructor
    · rintro (a | ⟨y, hy, e⟩)
      · rcases List.mem_append.1 a with a | a
        · exact .inl a
        · exact .inr ⟨x, List.mem_cons_self .., List.mem_singleton.1 a⟩
      · exact .inr ⟨y, List.mem_cons_of_mem _ hy, e⟩
    · rintro (a | ⟨y, hy, e⟩)
      · exact .inl (List.mem_append.2 (.inl a))
      · rcases List.mem_cons.1 hy with e2 | e2
        · rw [e2] at e
          exact .inl (List.mem_append.2 (.inr (List.mem_singleton.2 e)))
        · exact .inr ⟨y, e2, e⟩
theorem okWs_rise {l : List Wr} (h : okWs l = true) : l.Pairwise (fun x y => x.key < y.key) := by
  have each := okWs_each h
  have up : ∀ i j, i < j → j < l.length → (wrAt l i).key < (wrAt l j).key := by
    intro i j hij hj
    induction j with
    | zero => omega
    | succ j ih =>
      have e := each (j + 1) hj
      simp only [okAt, Bool.and_eq_true, Bool.not_eq_true', Bool.and_eq_false_iff, decide_eq_false_iff_not, Nat.add_sub_cancel] at e
      have hk : (wrAt l j).key < (wrAt l (j + 1)).key := by
        rcases e.1.1.2 with e2 | e2
        · exact absurd (Nat.succ_pos j) e2
        · omega
      rcases Nat.lt_or_ge i j with g | g
      · have := ih g (by omega)
        omega
      · have : i = j := by omega
        rw [this]; exact hk
  rw [List.pairwise_iff_getElem]
  intro i j hi hj hij
  have := up i j hij hj
  simpa [wrAt, List.getD, List.getElem?_eq_getElem hi, List.getElem?_eq_getElem hj] using this
theorem okT_ws {t : TxP} (h : okT t = true) : okWs t.ws = true ∧ (timeB t.wall && timeB t.count) = true := by
  simp only [okT, okTx, Bool.and_eq_true] at h
  exact ⟨h.2, by simp [h.1.1.1.2]⟩
theorem okT_ver {t : TxP} (h : okT t = true) : ∀ x ∈ t.ws, inB x.key 0 7 = true ∧ okVer (verOf t x) = true := fun x hx => by
  obtain ⟨i, hi⟩ := List.getElem?_of_mem hx
  have hl : i < t.ws.length := (List.getElem?_eq_some_iff.1 hi).1
  have e : wrAt t.ws i = x := by unfold wrAt; rw [List.getD_eq_getElem?_getD, hi]; rfl
  have o := okWs_each (okT_ws h).1 i hl
  have p := okT_parts h
  have tt := (okT_ws h).2
  simp only [okAt, e, Bool.and_eq_true, decide_eq_true_eq] at o
  refine ⟨o.1.1.1, ?_⟩
  unfold okVer verOf
  simp only [Bool.and_eq_true, decide_eq_true_eq, inB_iff]
  simp only [Bool.and_eq_true] at tt
  exact ⟨⟨⟨⟨tt, p.1⟩, p.2.1⟩, by have := o.1.2; omega⟩, o.2⟩
theorem appl_apply {S : SiteS} {x : TxP} (s : Int) (h0 : 0 ≤ s) (h3 : s ≤ 3) : appl (applyS S x) s = if s = x.site then x.seq else appl S s := setV_dep x s h0 h3
theorem ready_iff {S : SiteS} {x : TxP} (h : readyS S x = true) : x.seq = appl S x.site + 1 ∧ ∀ s, 0 ≤ s → s ≤ 3 → over x s ≤ appl S s := by
  obtain ⟨h1, h2⟩ := readyS_seq h
  refine ⟨h1, fun s h0 h3 => ?_⟩
  rw [covB_iff] at h2
  have hc : s = 0 ∨ s = 1 ∨ s = 2 ∨ s = 3 := by omega
  rcases hc with rfl | rfl | rfl | rfl
  · exact h2.1
  · exact h2.2.1
  · exact h2.2.2.1
  · exact h2.2.2.2
theorem iff_ready {S : SiteS} {x : TxP} (h1 : x.seq = appl S x.site + 1) (h2 : ∀ s, 0 ≤ s → s ≤ 3 → over x s ≤ appl S s) : readyS S x = true := by
  unfold readyS
  rw [Bool.and_eq_true, decide_eq_true_eq]
  exact ⟨h1, covB_iff.2 ⟨h2 0 (by decide) (by decide), h2 1 (by decide) (by decide), h2 2 (by decide) (by decide), h2 3 (by decide) (by decide)⟩⟩
theorem cmp_later {tw tc lw lc xw xc : Int} (h : cmpS xw xc lw lc ≤ 0) : cmpS xw xc (if 0 < cmpS tw tc lw lc then tw else lw) (if 0 < cmpS tw tc lw lc then tc else lc) ≤ 0 := by
  split
  · rename_i g
    rcases cmpS_cases tw tc lw lc with ⟨a, e⟩ | ⟨a, e⟩ | ⟨a, e⟩ <;> rw [e] at g <;> try omega
    rcases cmpS_cases xw xc lw lc with ⟨b, f⟩ | ⟨b, f⟩ | ⟨b, f⟩ <;> rw [f] at h <;> try omega
    · rcases cmpS_cases xw xc tw tc with ⟨c, k⟩ | ⟨c, k⟩ | ⟨c, k⟩ <;> rw [k] <;> omega
    · rcases cmpS_cases xw xc tw tc with ⟨c, k⟩ | ⟨c, k⟩ | ⟨c, k⟩ <;> rw [k] <;> omega
  · exact h
theorem cmp_self (tw tc lw lc : Int) : cmpS tw tc (if 0 < cmpS tw tc lw lc then tw else lw) (if 0 < cmpS tw tc lw lc then tc else lc) ≤ 0 := by
  split
  · rcases cmpS_cases tw tc tw tc with ⟨c, k⟩ | ⟨c, k⟩ | ⟨c, k⟩ <;> rw [k] <;> omega
  · omega
theorem Over.apply {H : List TxP} {S : SiteS} (h : Over H S) (hH : Hist H) {x : TxP} (hx : x ∈ H) (hr : readyS S x = true) (hw : ∀ y ∈ S.waits, y ≠ x) : Over H (applyS S x) := by
  obtain ⟨r1, r2⟩ := ready_iff hr
  have hs := hH.site hx
  have hq := hH.seq x hx
  have nx : x ∉ S.log := fun e => by have := (h.has x hx).1 e; omega
  have ap := fun s h0 h3 => appl_apply (S := S) (x := x) s h0 h3
  refine ⟨fun y hy => ?_, ?_, h.win, fun s h0 h3 => ?_, fun y hy => ?_, fun y hy e => ?_, fun y hy s h0 h3 => ?_, fun y hy => ?_, ?_⟩
  · rcases List.mem_append.1 (show y ∈ S.log ++ [x] from hy) with e | e
    · exact h.lin y e
    · rw [List.mem_singleton.1 e]; exact hx
  · show (S.log ++ [x]).Nodup
    rw [List.nodup_append]
    exact ⟨h.nd, by simp, fun a ha b hb e => nx (by rw [← List.mem_singleton.1 hb, ← e]; exact ha)⟩
  · rw [ap s h0 h3]
    split
    · rename_i e
      rw [e]
      omega
    · exact h.le s h0 h3
  · have hys := hH.site hy
    rw [ap y.site hys.1 hys.2]
    show y ∈ S.log ++ [x] ↔ _
    rw [List.mem_append, List.mem_singleton, h.has y hy]
    constructor
    · rintro (e | rfl)
      · split
        · rename_i e2
          rw [e2] at e
          omega
        · exact e
      · rw [if_pos rfl]
        exact Int.le_refl _
    · intro e
      split at e
      · rename_i e2
        by_cases e3 : y.seq ≤ appl S y.site
        · exact .inl e3
        · refine .inr (hH.uniq y hy x hx e2 ?_)
          rw [e2] at e3
          omega
      · exact .inl e
  · rcases List.mem_append.1 (show y ∈ S.log ++ [x] from e) with e | e
    · exact h.wno y hy e
    · exact hw y hy (List.mem_singleton.1 e)
  · have up : appl S s ≤ appl (applyS S x) s := by
      rw [ap s h0 h3]
      split
      · rename_i e; rw [e]; omega
      · exact Int.le_refl _
    rcases List.mem_append.1 (show y ∈ S.log ++ [x] from hy) with e | e
    · exact Int.le_trans (h.clo y e s h0 h3) up
    · rw [List.mem_singleton.1 e]; exact Int.le_trans (r2 s h0 h3) up
  · rcases List.mem_append.1 (show y ∈ S.log ++ [x] from hy) with e | e
    · exact cmp_later (h.lst y e)
    · rw [List.mem_singleton.1 e]; exact cmp_self _ _ _ _
  · have ok := hH.ok x hx
    have P := puts_all (t := x) x.ws S.l (okT_ver ok) ((okWs_rise (okT_ws ok).1).imp (fun e => Int.ne_of_lt e)) (fun a ha k hk => by
      rintro ⟨_, e1, e2, e3⟩
      obtain ⟨t, ht, y, _, rfl⟩ := (h.vs k).1 hk
      exact nx (by rw [← hH.stamp t (h.lin t ht) x hx e3 e1 e2]; exact ht))
    intro k
    show k ∈ putsT x x.ws S.l ↔ _
    rw [P k, h.vs k]
    constructor
    · rintro (⟨t, ht, e⟩ | e)
      · exact ⟨t, List.mem_append.2 (.inl ht), e⟩
      · exact ⟨x, List.mem_append.2 (.inr (List.mem_singleton.2 rfl)), e⟩
    · rintro ⟨t, ht, e⟩
      rcases List.mem_append.1 (show t ∈ S.log ++ [x] from ht) with a | a
      · exact .inl ⟨t, a, e⟩
      · rw [List.mem_singleton.1 a] at e
        exact .inr e

end Go.Proofs.YtemiamjnhoeniaaGreatDoor


namespace Go.Proofs.YtemiamjnhoeniaaGreatDoor
open Go.RowKit

theorem Over.fewer {H : List TxP} {S : SiteS} (h : Over H S) {l : List TxP} (hl : ∀ x ∈ l, x ∈ S.waits) : Over H { S with waits := l } := ⟨h.lin, h.nd, fun x hx => h.win x (hl x hx), h.le, h.has, fun x hx => h.wno x (hl x hx), h.clo, h.lst, h.vs⟩
theorem Over.wait {H : List TxP} {S : SiteS} (h : Over H S) {t : TxP} (ht : t ∈ H) (hn : t ∉ S.log) : Over H { S with waits := S.waits ++ [t] } := by
  refine ⟨h.lin, h.nd, fun x hx => ?_, h.le, h.has, fun x hx => ?_, h.clo, h.lst, h.vs⟩
  · rcases List.mem_append.1 hx with e | e
    · exact h.win x e
    · rw [List.mem_singleton.1 e]; exact ht
  · rcases List.mem_append.1 hx with e | e
    · exact h.wno x e
    · rw [List.mem_singleton.1 e]; exact hn
theorem Over.gone {H : List TxP} {S : SiteS} (h : Over H S) (hH : Hist H) {x : TxP} (hx : x ∈ S.waits) (hr : readyS S x = true) : Over H (goneS S x) := by
  have h1 : Over H { S with waits := dropW S.waits x } := h.fewer (fun y hy => (mem_dropW.1 hy).1)
  refine h1.apply hH (h.win x hx) hr (fun y hy e => ?_)
  have := (mem_dropW.1 hy).2
  rw [e] at this
  simp [isNum] at this
def Came (S : SiteS) (x : TxP) : Prop := x ∈ S.log ∨ x ∈ S.waits
theorem came_gone {H : List TxP} {S : SiteS} (h : Over H S) (hH : Hist H) {x : TxP} (hx : x ∈ S.waits) {y : TxP} (hy : y ∈ H) : Came (goneS S x) y ↔ Came S y := by
  show (y ∈ S.log ++ [x] ∨ y ∈ dropW S.waits x) ↔ (y ∈ S.log ∨ y ∈ S.waits)
  rw [mem_dropW, List.mem_append, List.mem_singleton]
  constructor
  · rintro ((e | rfl) | ⟨e, _⟩)
    · exact .inl e
    · exact .inr hx
    · exact .inr e
  · rintro (e | e)
    · exact .inl (.inl e)
    · by_cases q : y = x
      · exact .inl (.inr q)
      · refine .inr ⟨e, ?_⟩
        cases hi : isNum y x with
        | false => rfl
        | true =>
          obtain ⟨a, b⟩ := isNum_iff.1 hi
          exact absurd (hH.uniq y hy x (h.win x hx) a b) q
theorem nextS_none {S : SiteS} (h : nextS S = none) : ∀ x ∈ S.waits, 0 ≤ x.site → x.site ≤ 3 → readyS S x = false := by
  have hp : pickS S 0 = none ∧ pickS S 1 = none ∧ pickS S 2 = none ∧ pickS S 3 = none := by
    unfold nextS at h
    split at h
    · cases h
    · rename_i p0
      split at h
      · cases h
      · rename_i p1
        split at h
        · cases h
        · rename_i p2
          exact ⟨p0, p1, p2, h⟩
  intro x hx h0 h3
  have hc : x.site = 0 ∨ x.site = 1 ∨ x.site = 2 ∨ x.site = 3 := by omega
  rcases hc with e | e | e | e
  · exact pickS_none hp.1 x hx e
  · exact pickS_none hp.2.1 x hx e
  · exact pickS_none hp.2.2.1 x hx e
  · exact pickS_none hp.2.2.2 x hx e
theorem Goes.over {H : List TxP} (hH : Hist H) {S S' : SiteS} (h : Goes S S') : Over H S → Nums S.waits → Over H S' ∧ (∀ x ∈ H, Came S' x ↔ Came S x) ∧ S'.id = S.id ∧ S'.log.length + S'.waits.length = S.log.length + S.waits.length ∧ (S.log.length + S.waits.length < 200 → nextS S' = Option.none) := by
  induction h with
  | full hf => exact fun ho _ => ⟨ho, fun _ _ => Iff.rfl, rfl, rfl, fun hl => by omega⟩
  | none hn => exact fun ho _ => ⟨ho, fun _ _ => Iff.rfl, rfl, rfl, fun _ => hn⟩
  | @step S S' x h1 h2 _ ih =>
    intro ho hN
    obtain ⟨m1, m2⟩ := nextS_mem h2
    obtain ⟨r1, r2, r3, r4, r5⟩ := ih (ho.gone hH m1 m2) (hN.drop x)
    have hl : (goneS S x).log.length + (goneS S x).waits.length = S.log.length + S.waits.length := by
      have := dropW_length hN m1
      show (S.log ++ [x]).length + (dropW S.waits x).length = _
      simp
      omega
    exact ⟨r1, fun y hy => (r2 y hy).trans (came_gone ho hH m1 hy), r3, by rw [r4, hl], fun q => r5 (by rw [hl]; exact q)⟩
theorem Over.takes {H : List TxP} {S S' : SiteS} {t : TxP} (h : Over H S) (hH : Hist H) (hI : InvS S) (ht : t ∈ H) (hT : TakesTo S t S') : Over H S' ∧ S'.id = S.id := by
  rcases hT with ⟨_, rfl⟩ | ⟨e, hg⟩
  · exact ⟨h, rfl⟩
  · obtain ⟨p1, p2, p3, p4, _⟩ := takeE_zero e
    have hn : t ∉ S.log := fun q => p3 ((h.has t ht).1 q)
    have r := hg.over hH (h.wait ht hn) (hI.nums.snoc p4)
    exact ⟨r.1, r.2.2.1⟩
theorem Over.all {H : List TxP} {S : SiteS} (h : Over H S) (hH : Hist H) (hn : nextS S = none) (hc : ∀ x ∈ H, Came S x) : (∀ x ∈ H, x ∈ S.log) ∧ S.waits = [] ∧ ∀ s, 0 ≤ s → s ≤ 3 → appl S s = cnt H s := by
  have low : ∀ H', Hist H' → (∀ x ∈ H', x ∈ H) → (∀ x ∈ H', x ∈ S.log) → ∀ s, 0 ≤ s → s ≤ 3 → cnt H' s ≤ appl S s := fun H' g hs hlog s h0 h3 => by
    by_cases hz : cnt H' s = 0
    · rw [hz]
      exact (h.le s h0 h3).1
    · obtain ⟨x, hx, e1, e2⟩ := g.all s (cnt H' s) (by omega) (Int.le_refl _)
      have := (h.has x (hs x hx)).1 (hlog x hx)
      rw [e1, e2] at this
      exact this
  have main : ∀ H', Hist H' → (∀ x ∈ H', x ∈ H) → ∀ x ∈ H', x ∈ S.log := by
    intro H' g
    induction g with
    | nil => intro _ x hx; cases hx
    | @snoc H' t g1 g2 g3 g4 _ ih =>
      intro hs x hx
      have hs' : ∀ x ∈ H', x ∈ H := fun y hy => hs y (List.mem_append.2 (.inl hy))
      have hl := ih hs'
      rcases List.mem_append.1 hx with e | e
      · exact hl x e
      · rw [List.mem_singleton.1 e]
        have ht : t ∈ H := hs t (List.mem_append.2 (.inr (List.mem_singleton.2 rfl)))
        have st := hH.site ht
        rcases hc t ht with q | q
        · exact q
        · exfalso
          have nl := h.wno t q
          have na : ¬ t.seq ≤ appl S t.site := fun z => nl ((h.has t ht).2 z)
          have lo := low H' g1 hs' hl
          have r := iff_ready (S := S) (x := t) (by have := lo t.site st.1 st.2; omega) (fun s h0 h3 => Int.le_trans (g4 s h0 h3) (lo s h0 h3))
          rw [nextS_none hn t q st.1 st.2] at r
          cases r
  have hall := main H hH (fun x hx => hx)
  refine ⟨hall, ?_, fun s h0 h3 => Int.le_antisymm (h.le s h0 h3).2 (low H hH (fun x hx => hx) hall s h0 h3)⟩
  cases hw : S.waits with
  | nil => rfl
  | cons y l =>
    have hy : y ∈ S.waits := by rw [hw]; exact List.mem_cons_self ..
    exact absurd (hall y (h.win y hy)) (h.wno y hy)

end Go.Proofs.YtemiamjnhoeniaaGreatDoor


namespace Go.Proofs.YtemiamjnhoeniaaGreatDoor
open Go.RowKit

theorem nextP_ok {lw lc now : Int} (h : (nextP lw lc now).2.2 = 0) : timeB (nextP lw lc now).1 = true ∧ timeB (nextP lw lc now).2.1 = true ∧ cmpS lw lc (nextP lw lc now).1 (nextP lw lc now).2.1 < 0 := by
  unfold nextP at h ⊢
  split
  · rename_i g
    rw [if_pos g] at h
    cases h
  · rename_i g
    rw [if_neg g] at h
    have g' : (timeB lw && timeB lc) = true := by simpa using g
    rw [Bool.and_eq_true, timeB_iff, timeB_iff] at g'
    split
    · rename_i g2
      rw [if_pos g2] at h
      cases h
    · rename_i g2
      rw [if_neg g2] at h
      have g2' : timeB now = true := by simpa using g2
      split
      · rename_i g3
        show timeB now = true ∧ timeB 0 = true ∧ cmpS lw lc now 0 < 0
        refine ⟨g2', timeB_true (by decide) (by decide), ?_⟩
        rcases cmpS_cases lw lc now 0 with ⟨a, e⟩ | ⟨a, e⟩ | ⟨a, e⟩ <;> simp only [e] <;> omega
      · rename_i g3
        rw [if_neg g3] at h
        split
        · rename_i g4
          rw [if_pos g4] at h
          cases h
        · rename_i g4
          show timeB lw = true ∧ timeB (lc + 1) = true ∧ cmpS lw lc lw (lc + 1) < 0
          refine ⟨timeB_true g'.1.1 g'.1.2, timeB_true (by omega) (by omega), ?_⟩
          rcases cmpS_cases lw lc lw (lc + 1) with ⟨a, e⟩ | ⟨a, e⟩ | ⟨a, e⟩ <;> simp only [e] <;> omega
theorem depOf_set (i q d0 d1 d2 d3 s : Int) (h0 : 0 ≤ s) (h3 : s ≤ 3) : depOf s (setV0 i q d0) (setV1 i q d1) (setV2 i q d2) (setV3 i q d3) = if s = i then q else depOf s d0 d1 d2 d3 := by
  have hc : s = 0 ∨ s = 1 ∨ s = 2 ∨ s = 3 := by omega
  rcases hc with rfl | rfl | rfl | rfl <;> simp [depOf, setV0, setV1, setV2, setV3, eq_comm]
theorem cov_dep {a0 a1 a2 a3 d0 d1 d2 d3 : Int} (h : covB a0 a1 a2 a3 d0 d1 d2 d3 = true) (s : Int) (h0 : 0 ≤ s) (h3 : s ≤ 3) : depOf s d0 d1 d2 d3 ≤ depOf s a0 a1 a2 a3 := by
  rw [covB_iff] at h
  have hc : s = 0 ∨ s = 1 ∨ s = 2 ∨ s = 3 := by omega
  rcases hc with rfl | rfl | rfl | rfl
  · exact h.1
  · exact h.2.1
  · exact h.2.2.1
  · exact h.2.2.2
theorem Over.own {H : List TxP} {S : SiteS} (h : Over H S) (hH : Hist H) (hI : InvS S) (own : ∀ x ∈ H, x.site = S.id → x ∈ S.log) : appl S S.id = cnt H S.id := by
  have l := h.le S.id hI.id0 hI.id3
  by_cases hz : cnt H S.id = 0
  · omega
  · obtain ⟨x, hx, e1, e2⟩ := hH.all S.id (cnt H S.id) (by omega) (Int.le_refl _)
    have := (h.has x hx).1 (own x hx e1)
    rw [e1, e2] at this
    omega
theorem Over.commit {H : List TxP} {S : SiteS} {now d0 d1 d2 d3 : Int} {ws : List Wr} (h : Over H S) (hH : Hist H) (hI : InvS S) (own : ∀ x ∈ H, x.site = S.id → x ∈ S.log) (hE : comE S now d0 d1 d2 d3 ws = 0) :
    Hist (H ++ [commitT S now d0 d1 d2 d3 ws]) ∧ Over (H ++ [commitT S now d0 d1 d2 d3 ws]) (applyS S (commitT S now d0 d1 d2 d3 ws)) ∧ ∀ x ∈ H ++ [commitT S now d0 d1 d2 d3 ws], x.site = S.id → x ∈ (applyS S (commitT S now d0 d1 d2 d3 ws)).log := by
  obtain ⟨z1, z2, z3, z4, z5⟩ := commitE_zero hE
  obtain ⟨n1, n2, n3⟩ := nextP_ok z5
  have ho := h.own hH hI own
  have hsm := hI.own
  have ha : appl S S.id ≤ 200 := by have := hI.log; show depOf S.id _ _ _ _ ≤ 200; omega
  have hge := (h.le S.id hI.id0 hI.id3).1
  have ov : ∀ s, 0 ≤ s → s ≤ 3 → over (commitT S now d0 d1 d2 d3 ws) s ≤ appl S s := fun s h0 h3 => by
    show depOf s (setV0 S.id (appl S S.id) d0) (setV1 S.id (appl S S.id) d1) (setV2 S.id (appl S S.id) d2) (setV3 S.id (appl S S.id) d3) ≤ appl S s
    rw [depOf_set _ _ _ _ _ _ s h0 h3]
    split
    · rename_i e; rw [e]; exact Int.le_refl _
    · exact cov_dep z3 s h0 h3
  have okd : timesB (setV0 S.id (appl S S.id) d0) (setV1 S.id (appl S S.id) d1) (setV2 S.id (appl S S.id) d2) (setV3 S.id (appl S S.id) d3) = true := by
    have ta : timeB (appl S S.id) = true := timeB_true hge (by omega)
    simp only [timesB, Bool.and_eq_true] at z2 ⊢
    refine ⟨⟨⟨?_, ?_⟩, ?_⟩, ?_⟩
    · unfold setV0; split; exact ta; exact z2.1.1.1
    · unfold setV1; split; exact ta; exact z2.1.1.2
    · unfold setV2; split; exact ta; exact z2.1.2
    · unfold setV3; split; exact ta; exact z2.2
  have ok : okT (commitT S now d0 d1 d2 d3 ws) = true := by
    show okTx S.id (appl S S.id + 1) (nextP S.lw S.lc now).1 (nextP S.lw S.lc now).2.1 (setV0 S.id (appl S S.id) d0) (setV1 S.id (appl S S.id) d1) (setV2 S.id (appl S S.id) d2) (setV3 S.id (appl S S.id) d3) ws = true
    unfold okTx
    simp only [Bool.and_eq_true, inB_iff, decide_eq_true_eq]
    refine ⟨⟨⟨⟨⟨⟨hI.id0, hI.id3⟩, ⟨by omega, by omega⟩⟩, ⟨n1, n2⟩⟩, okd⟩, ?_⟩, z1⟩
    rw [depOf_set _ _ _ _ _ _ S.id hI.id0 hI.id3, if_pos rfl]
    omega
  have hq : (commitT S now d0 d1 d2 d3 ws).seq = cnt H (commitT S now d0 d1 d2 d3 ws).site + 1 := by
    show appl S S.id + 1 = cnt H S.id + 1
    rw [ho]
  have hH' : Hist (H ++ [commitT S now d0 d1 d2 d3 ws]) := by
    refine .snoc hH ok hq (fun s h0 h3 => Int.le_trans (ov s h0 h3) (h.le s h0 h3).2) (fun x hx e => ?_)
    have l := h.lst x (own x hx e)
    show cmpS x.wall x.count (nextP S.lw S.lc now).1 (nextP S.lw S.lc now).2.1 < 0
    rcases cmpS_cases x.wall x.count S.lw S.lc with ⟨a, e1⟩ | ⟨a, e1⟩ | ⟨a, e1⟩ <;> rw [e1] at l <;> try omega
    · rcases cmpS_cases S.lw S.lc (nextP S.lw S.lc now).1 (nextP S.lw S.lc now).2.1 with ⟨b, e2⟩ | ⟨b, e2⟩ | ⟨b, e2⟩ <;> rw [e2] at n3 <;> try omega
      rcases cmpS_cases x.wall x.count (nextP S.lw S.lc now).1 (nextP S.lw S.lc now).2.1 with ⟨c, e3⟩ | ⟨c, e3⟩ | ⟨c, e3⟩ <;> rw [e3] <;> omega
    · rw [a.1, a.2]
      exact n3
  have nT : commitT S now d0 d1 d2 d3 ws ∉ H := fun e => by
    have := (hH.seq _ e).2
    rw [hq] at this
    omega
  have g := h.grow hH hq ⟨hI.id0, hI.id3⟩
  refine ⟨hH', g.apply hH' (List.mem_append.2 (.inr (List.mem_singleton.2 rfl))) (iff_ready rfl ov) (fun y hy e => nT (by rw [← e]; exact h.win y hy)), fun x hx e => ?_⟩
  show x ∈ S.log ++ [commitT S now d0 d1 d2 d3 ws]
  rcases List.mem_append.1 hx with q | q
  · exact List.mem_append.2 (.inl (own x q e))
  · exact List.mem_append.2 (.inr q)
end Go.Proofs.YtemiamjnhoeniaaGreatDoor


namespace Go.Proofs.YtemiamjnhoeniaaGreatDoor
open Go.RowKit

theorem Goes.log {S S' : SiteS} (h : Goes S S') : (∀ x ∈ S.log, x ∈ S'.log) ∧ S'.waits.length ≤ S.waits.length := by
  induction h with
  | full _ => exact ⟨fun _ h => h, Nat.le_refl _⟩
  | none _ => exact ⟨fun _ h => h, Nat.le_refl _⟩
  | step _ _ _ ih => exact ⟨fun x hx => ih.1 x (List.mem_append.2 (.inl hx)), Nat.le_trans ih.2 (List.length_filter_le _ _)⟩
theorem TakesTo.log {S S' : SiteS} {t : TxP} (h : TakesTo S t S') : (∀ x ∈ S.log, x ∈ S'.log) ∧ S'.waits.length ≤ S.waits.length + 1 := by
  rcases h with ⟨_, rfl⟩ | ⟨_, h⟩
  · exact ⟨fun _ h => h, by omega⟩
  · have := h.log
    exact ⟨this.1, by have := this.2; simpa using this⟩
end Go.Proofs.YtemiamjnhoeniaaGreatDoor


namespace Go.Proofs.YtemiamjnhoeniaaGreatDoor
open Go.RowKit

inductive GrB
  | tx (t : TxP)
  | ask (site a0 a1 a2 a3 : Int)
structure GrS where
  to : Nat
  body : GrB
structure WoS where
  n : Nat
  c : Nat
  S : Nat → SiteS
  wall : Nat → Int
  ses : Nat → SesS
  at_ : Nat → Nat
  net : List GrS
  lost : Int
def setN {α : Type} (f : Nat → α) (i : Nat) (x : α) : Nat → α := fun j => if j = i then x else f j
theorem setN_same {α : Type} (f : Nat → α) (i : Nat) (x : α) : setN f i x i = x := by simp [setN]
theorem setN_ne {α : Type} (f : Nat → α) {i j : Nat} (x : α) (h : j ≠ i) : setN f i x j = f j := by simp [setN, h]
def newW (n c : Nat) : WoS := ⟨n, c, fun i => newS i, fun _ => 0, fun _ => newSes, fun _ => 0, [], 0⟩
def setSite (W : WoS) (i : Nat) (S' : SiteS) : WoS := { W with S := setN W.S i S' }
def setSes (W : WoS) (k : Nat) (s' : SesS) : WoS := { W with ses := setN W.ses k s' }
def sendW (W : WoS) (g : GrS) : WoS := if 300 ≤ W.net.length then { W with lost := wrap64 (W.lost + 1) } else { W with net := W.net ++ [g] }
def tellW (t : TxP) : Nat → WoS → WoS
  | 0, W => W
  | k + 1, W => if (k : Int) = t.site then tellW t k W else sendW (tellW t k W) ⟨k, .tx t⟩
def sendsW (other : Nat) : List TxP → WoS → WoS
  | [], W => W
  | t :: l, W => sendsW other l (if t.site = (other : Int) then W else sendW W ⟨other, .tx t⟩)
def answerW (W : WoS) (k other : Nat) (v0 v1 v2 v3 : Int) : WoS :=
  sendsW other (missP (W.S k) v0 v1 v2 v3) (setSite W k (knowsS (W.S k) other v0 v1 v2 v3))
def askW (W : WoS) (k other : Nat) : WoS := sendW W ⟨other, .ask k (W.S k).a0 (W.S k).a1 (W.S k).a2 (W.S k).a3⟩
def ComeTo (W : WoS) (g : GrS) (W' : WoS) : Prop :=
  match g.body with
  | .tx t => ∃ S', TakesTo (W.S g.to) t S' ∧ W' = setSite W g.to S'
  | .ask site v0 v1 v2 v3 => if 0 ≤ site ∧ site < (W.n : Int) then W' = answerW W g.to site.toNat v0 v1 v2 v3 else W' = W
def dropW' (W : WoS) (i : Nat) : WoS := { W with net := W.net.eraseIdx i }
def DeliverTo (W : WoS) (i : Nat) (W' : WoS) : Prop := ∃ g, W.net[i]? = some g ∧ ComeTo (dropW' W i) g W'
inductive BringTo : WoS → WoS → Prop
  | none {W : WoS} : W.net = [] → BringTo W W
  | step {W W1 W' : WoS} : W.net ≠ [] → DeliverTo W 0 W1 → BringTo W1 W' → BringTo W W'
inductive AsksTo (k : Nat) : Nat → WoS → WoS → Prop
  | zero {W : WoS} : AsksTo k 0 W W
  | self {W W' : WoS} {m : Nat} : AsksTo k m W W' → m = k → AsksTo k (m + 1) W W'
  | ask {W W1 W' : WoS} {m : Nat} : AsksTo k m W W1 → m ≠ k → BringTo (askW W1 k m) W' → AsksTo k (m + 1) W W'
inductive RoundTo : Nat → WoS → WoS → Prop
  | zero {W : WoS} : RoundTo 0 W W
  | next {W W1 W' : WoS} {m : Nat} : RoundTo m W W1 → AsksTo m W1.n W1 W' → RoundTo (m + 1) W W'
def CalmTo (W W' : WoS) : Prop := ∃ W1, BringTo W W1 ∧ RoundTo W1.n W1 W'

section
variable {W W' : WoS} {g : GrS} {t : TxP} {k other : Nat}
structure SameW (W W' : WoS) : Prop where
  n : W'.n = W.n
  c : W'.c = W.c
  S : W'.S = W.S
  wall : W'.wall = W.wall
  ses : W'.ses = W.ses
  at_ : W'.at_ = W.at_
theorem SameW.refl (W : WoS) : SameW W W := ⟨rfl, rfl, rfl, rfl, rfl, rfl⟩
theorem SameW.trans {A B C : WoS} (h : SameW A B) (k : SameW B C) : SameW A C := ⟨k.n.trans h.n, k.c.trans h.c, k.S.trans h.S, k.wall.trans h.wall, k.ses.trans h.ses, k.at_.trans h.at_⟩
theorem sendW_same (W : WoS) (g : GrS) : SameW W (sendW W g) := by
  unfold sendW
  split <;> exact ⟨rfl, rfl, rfl, rfl, rfl, rfl⟩
theorem sendW_net (h : W.net.length < 300) : (sendW W g).net = W.net ++ [g] := by
  unfold sendW
  rw [if_neg (by omega)]
theorem sendW_mem {x : GrS} (h : x ∈ (sendW W g).net) : x ∈ W.net ∨ x = g := by
  unfold sendW at h
  split at h
  · exact .inl h
  · simpa using h
theorem tellW_same (t : TxP) : ∀ (k : Nat) (W : WoS), SameW W (tellW t k W)
  | 0, W => SameW.refl W
  | k + 1, W => by
    unfold tellW
    split
    · exact tellW_same t k W
    · exact (tellW_same t k W).trans (sendW_same _ _)
theorem tellW_mem {x : GrS} : ∀ (k : Nat), x ∈ (tellW t k W).net → x ∈ W.net ∨ (x.to < k ∧ x.body = .tx t)
  | 0, h => .inl h
  | k + 1, h => by
    unfold tellW at h
    split at h
    · rcases tellW_mem k h with q | ⟨q, r⟩
      · exact .inl q
      · exact .inr ⟨by omega, r⟩
    · rcases sendW_mem h with q | q
      · rcases tellW_mem k q with q | ⟨q, r⟩
        · exact .inl q
        · exact .inr ⟨by omega, r⟩
      · rw [q]
        exact .inr ⟨by show k < k + 1; omega, rfl⟩
theorem sendsW_same (other : Nat) : ∀ (l : List TxP) (W : WoS), SameW W (sendsW other l W)
  | [], W => SameW.refl W
  | t :: l, W => by
    unfold sendsW
    refine SameW.trans ?_ (sendsW_same other l _)
    split
    · exact SameW.refl _
    · exact sendW_same _ _
theorem sendsW_mem {x : GrS} : ∀ (l : List TxP) (W : WoS), x ∈ (sendsW other l W).net → x ∈ W.net ∨ (x.to = other ∧ ∃ t ∈ l, t.site ≠ (other : Int) ∧ x.body = .tx t)
  | [], W, h => .inl h
  | t :: l, W, h => by
    unfold sendsW at h
    rcases sendsW_mem l _ h with q | ⟨q, y, hy, r⟩
    · split at q
      · exact .inl q
      · rename_i hn
        rcases sendW_mem q with q | q
        · exact .inl q
        · rw [q]
          exact .inr ⟨rfl, t, List.mem_cons_self, hn, rfl⟩
    · exact .inr ⟨q, y, List.mem_cons_of_mem _ hy, r⟩
theorem sendsW_net : ∀ (l : List TxP) (W : WoS), W.net.length + l.length ≤ 300 → (sendsW other l W).net = W.net ++ (l.filter (fun t => decide (t.site ≠ (other : Int)))).map (fun t => ⟨other, .tx t⟩)
  | [], W, _ => by simp [sendsW]
  | t :: l, W, h => by
    have hl : (t :: l).length = l.length + 1 := rfl
    unfold sendsW
    by_cases q : t.site = (other : Int)
    · rw [if_pos q, sendsW_net l W (by omega)]
      simp [q]
    · have e := sendW_net (W := W) (g := ⟨other, .tx t⟩) (by omega)
      rw [if_neg q, sendsW_net l _ (by rw [e]; simp; omega), e]
      simp [q]
end

end Go.Proofs.YtemiamjnhoeniaaGreatDoor


namespace Go.Proofs.YtemiamjnhoeniaaGreatDoor
open Go.RowKit

def pairC (b : Nat) (x : Int) : List Value := [.pointer (some ⟨b, 0, none⟩), .int .i64 x]
def pairsC (bp : Nat → Nat) (x : Nat → Int) (n : Nat) : List Value := (List.range n).flatMap (fun i => pairC (bp i) (x i))
structure GrM where
  g : GrS
  blk : Nat
  cap : Nat
  S : ByteArray
def gramC (m : GrM) : List Value := [.int .i64 m.g.to, .slice (some ⟨m.blk, 0, none⟩) m.S.size m.cap]
def netC (l : List GrM) : List Value := l.flatMap gramC
def txv (t : TxP) : TxV := ⟨t.site, t.seq, t.wall, t.count, t.d0, t.d1, t.d2, t.d3, t.ws⟩
def isGram (L : List UInt8) : GrB → Prop
  | .tx t => Good L (txv t)
  | .ask site a0 a1 a2 a3 => GoodAsk L ⟨site, a0, a1, a2, a3⟩
structure GrM.Ok (w : World) (m : GrM) : Prop where
  own : Own w 0 m.blk m.cap m.S
  size : m.S.size ≤ 1000000
  is : isGram (toL m.S) m.g.body
theorem GrM.Ok.kept {w w' : World} {m : GrM} (h : m.Ok w) (hb : w'.heap[m.blk]? = w.heap[m.blk]?) (hs : w.heap.size ≤ w'.heap.size) : m.Ok w' := ⟨h.own.kept hb hs, h.size, h.is⟩

theorem flat2_at {α : Type} (f : α → List Value) (hf : ∀ x, (f x).length = 2) : ∀ (l : List α) (i r : Nat) (x : α) (u : Value), l[i]? = some x → (f x)[r]? = some u → (l.flatMap f)[i * 2 + r]? = some u
  | [], i, r, x, u, h, _ => by simp at h
  | y :: l, 0, r, x, u, h, hu => by
    have e : y = x := by simpa using h
    subst e
    have hr : r < 2 := by have := (List.getElem?_eq_some_iff.1 hu).1; rw [hf] at this; exact this
    rw [List.flatMap_cons, Nat.zero_mul, Nat.zero_add, List.getElem?_append_left (by rw [hf]; exact hr)]
    exact hu
  | y :: l, i + 1, r, x, u, h, hu => by
    have h' : l[i]? = some x := by simpa using h
    rw [List.flatMap_cons, List.getElem?_append_right (by rw [hf]; omega), hf, show (i + 1) * 2 + r - 2 = i * 2 + r by omega]
    exact flat2_at f hf l i r x u h' hu
theorem pairs_at {bp : Nat → Nat} {x : Nat → Int} {n i : Nat} (hi : i < n) : (pairsC bp x n)[i * 2]? = some (.pointer (some ⟨bp i, 0, none⟩)) ∧ (pairsC bp x n)[i * 2 + 1]? = some (.int .i64 (x i)) :=
  ⟨flat2_at _ (fun _ => rfl) _ i 0 i _ (List.getElem?_range hi) rfl, flat2_at _ (fun _ => rfl) _ i 1 i _ (List.getElem?_range hi) rfl⟩
theorem net_at {l : List GrM} {i : Nat} {m : GrM} (hi : l[i]? = some m) : (netC l)[i * 2]? = some (.int .i64 m.g.to) ∧ (netC l)[i * 2 + 1]? = some (.slice (some ⟨m.blk, 0, none⟩) m.S.size m.cap) :=
  ⟨flat2_at _ (fun _ => rfl) _ i 0 m _ hi rfl, flat2_at _ (fun _ => rfl) _ i 1 m _ hi rfl⟩
theorem pairsC_length (bp : Nat → Nat) (x : Nat → Int) : ∀ n, (pairsC bp x n).length = n * 2
  | 0 => rfl
  | n + 1 => by
    unfold pairsC
    rw [List.range_succ, List.flatMap_append, List.length_append]
    have := pairsC_length bp x n
    unfold pairsC at this
    rw [this]
    simp [pairC]
    omega
theorem netC_length (l : List GrM) : (netC l).length = l.length * 2 := by
  induction l with
  | nil => rfl
  | cons x l ih =>
    show (gramC x ++ netC l).length = _
    rw [List.length_append, ih]
    simp [gramC]
    omega
structure RowIn (w : World) (a : Option Addr) (cap n : Nat) (L : List Value) : Prop where
  len : n ≤ cap
  cap : cap ≤ 9223372036854775807
  held : n = 0 ∨ ∃ g, a = some ⟨g, 0, none⟩ ∧ g < w.heap.size ∧ ∀ j u, L[j]? = some u → w.cell? ⟨g, j, none⟩ = some u
theorem rowIn_own {w : World} {B k : Nat} {T : TypeId} {v : Value} {n : Nat} {L : List Value} (h : w.ownsRow B T k v n L) : ∃ a cap, v = .slice a n cap ∧ RowIn w a cap n L := by
  have h' := h
  rcases h.2 with ⟨rfl, h0⟩ | ⟨g, cap, cur, rfl, hb, hg, hnc, hm, hs, ht⟩
  · exact ⟨none, 0, by rw [h0], ⟨by omega, by omega, .inl h0⟩⟩
  · refine ⟨_, cap, rfl, ⟨hnc, by simp only [maxLen] at hm; omega, .inr ⟨g, rfl, (h'.lt g rfl).2, fun j u hu => ?_⟩⟩⟩
    have hc := h'.cells (g := g) rfl j u hu
    rw [addr_add] at hc
    exact hc

structure WoM where
  pv : Value
  cv : Value
  nv : Value
  bp : Nat → Nat
  bs : Nat → Nat
  l : List GrM
def footW (b : Nat) (M : WoM) (k : Nat) : Prop := k = b ∨ M.pv.ownBlock = some k ∨ M.cv.ownBlock = some k ∨ M.nv.ownBlock = some k ∨ ∃ m ∈ M.l, m.blk = k
def woParts (M : WoM) (W : WoS) : Nat → Part := fun i => if i < W.n then siteP (M.bp i) (W.S i) else sesP (M.bs (i - W.n)) (W.ses (i - W.n))
structure PWo (w : World) (b : Nat) (M : WoM) (W : WoS) (Gs : Nat → Nat → Prop) : Prop where
  box : RowL w b [M.pv, M.cv, M.nv, .int .i64 W.lost]
  pr : w.ownsRow 0 99 2 M.pv W.n (pairsC M.bp W.wall W.n)
  cr : w.ownsRow 0 103 2 M.cv W.c (pairsC M.bs (fun k => (W.at_ k : Int)) W.c)
  nr : w.ownsRow 0 168 2 M.nv M.l.length (netC M.l)
  nl : M.l.map (·.g) = W.net
  gr : ∀ m ∈ M.l, m.Ok w
  fam : AsideAt w (W.n + W.c) (woParts M W) Gs (footW b M) (W.n + W.c) NoY
  sb : M.pv.ownBlock ≠ some b ∧ M.cv.ownBlock ≠ some b ∧ M.nv.ownBlock ≠ some b
  sr : ∀ k, (M.pv.ownBlock = some k → M.cv.ownBlock ≠ some k ∧ M.nv.ownBlock ≠ some k) ∧ (M.cv.ownBlock = some k → M.nv.ownBlock ≠ some k)
  sg : ∀ m ∈ M.l, m.blk ≠ b ∧ M.pv.ownBlock ≠ some m.blk ∧ M.cv.ownBlock ≠ some m.blk ∧ M.nv.ownBlock ≠ some m.blk
section
variable {w w' : World} {b : Nat} {M : WoM} {W : WoS} {Gs : Nat → Nat → Prop}
theorem PWo.site (h : PWo w b M W Gs) {i : Nat} (hi : i < W.n) : PS w (M.bp i) (Gs i) (W.S i) := by
  have := h.fam.is i (by omega)
  unfold woParts at this
  rw [if_pos hi] at this
  exact this
theorem PWo.sess (h : PWo w b M W Gs) {k : Nat} (hk : k < W.c) : PSe w (M.bs k) (Gs (W.n + k)) (W.ses k) := by
  have := h.fam.is (W.n + k) (by omega)
  unfold woParts at this
  rw [if_neg (by omega), show W.n + k - W.n = k by omega] at this
  exact this
theorem PWo.keep (h : PWo w b M W Gs) {W' : WoS} {Gs' : Nat → Nat → Prop} (hk : Keeps (footW b M) w w') (hf : AsideAt w' (W.n + W.c) (woParts M W') Gs' (footW b M) (W.n + W.c) NoY) (en : W'.n = W.n) (ec : W'.c = W.c) (ew : W'.wall = W.wall) (ea : W'.at_ = W.at_) (et : W'.net = W.net) (el : W'.lost = W.lost) : PWo w' b M W' Gs' := by
  refine ⟨?_, ?_, ?_, own_keptN h.nr (fun k e => hk.block k (.inr (.inr (.inr (.inl e))))), by rw [et]; exact h.nl, fun m hm => (h.gr m hm).kept (hk.block _ (.inr (.inr (.inr (.inr ⟨m, hm, rfl⟩))))) hk.size, by rw [en, ec]; exact hf, h.sb, h.sr, h.sg⟩
  · rw [el]
    exact h.box.keeps hk (.inl rfl)
  · rw [en, ew]
    exact own_keptN h.pr (fun k e => hk.block k (.inr (.inl e)))
  · rw [ec, ea]
    exact own_keptN h.cr (fun k e => hk.block k (.inr (.inr (.inl e))))
end
def allG (b : Nat) (M : WoM) (N : Nat) (Gs : Nat → Nat → Prop) (k : Nat) : Prop := footW b M k ∨ ∃ i, i < N ∧ Gs i k
def PW (w : World) (b : Nat) (G : Nat → Prop) (W : WoS) : Prop := ∃ M Gs, PWo w b M W Gs ∧ ∀ k, G k ↔ allG b M (W.n + W.c) Gs k
section
variable {w w' : World} {b : Nat} {G : Nat → Prop} {M : WoM} {W : WoS} {Gs : Nat → Nat → Prop}
theorem PWo.ltF (h : PWo w b M W Gs) : ∀ k, footW b M k → k < w.heap.size := fun k hk => (h.fam.free k hk).1
theorem PWo.ltG (h : PWo w b M W Gs) {i k : Nat} (hi : i < W.n + W.c) (hk : Gs i k) : k < w.heap.size := (woParts M W i).lt _ _ (h.fam.is i hi) k hk
theorem PW.lt (h : PW w b G W) : ∀ k, G k → k < w.heap.size := by
  obtain ⟨M, Gs, h, hG⟩ := h
  intro k hk
  rcases (hG k).1 hk with q | ⟨i, hi, q⟩
  · exact h.ltF k q
  · exact h.ltG hi q
theorem PW.kept (h : PW w b G W) (hk : ∀ k, G k → w'.heap[k]? = w.heap[k]?) (hs : w.heap.size ≤ w'.heap.size) : PW w' b G W := by
  obtain ⟨M, Gs, h, hG⟩ := h
  have kF : ∀ k, footW b M k → w'.heap[k]? = w.heap[k]? := fun k q => hk k ((hG k).2 (.inl q))
  refine ⟨M, Gs, ⟨h.box.kept (kF b (.inl rfl)) hs, own_keptN h.pr (fun k e => kF k (.inr (.inl e))), own_keptN h.cr (fun k e => kF k (.inr (.inr (.inl e)))), own_keptN h.nr (fun k e => kF k (.inr (.inr (.inr (.inl e))))), h.nl, fun m hm => (h.gr m hm).kept (kF _ (.inr (.inr (.inr (.inr ⟨m, hm, rfl⟩))))) hs, h.fam.to (fun j k hj e => hk k ((hG k).2 (.inr ⟨j, hj, e⟩))) hs (fun k e => ⟨.inl e, Nat.lt_of_lt_of_le (h.ltF k e) hs⟩), h.sb, h.sr, h.sg⟩, hG⟩
theorem PW.later (h : PW w b G W) (hb : Below w.heap.size w w') : PW w' b G W := h.kept (fun k hk => hb.block k (h.lt k hk)) hb.size
end
def woP (b : Nat) (W : WoS) : Part := ⟨fun w G => PW w b G W, fun _ _ h => h.lt, fun _ _ _ h => h.kept⟩
def PWPo (w : World) (b : Nat) (G : Nat → Prop) (W' : WoS) (w' : World) : Prop := Left (woP b W') w G w'
section
variable {w w' : World} {b : Nat} {G : Nat → Prop} {M : WoM} {W : WoS} {Gs : Nat → Nat → Prop}
theorem PWPo.same (h : PW w b G W) (hb : Below w.heap.size w w') : PWPo w b G W w' := ⟨G, h.later hb, fun _ hk => .inl hk, Touch.ofBelow hb⟩
theorem PWo.stepS (h : PWo w b M W Gs) (hG : ∀ k, G k ↔ allG b M (W.n + W.c) Gs k) {i : Nat} (hi : i < W.n) {S' : SiteS} (hl : PPo w (M.bp i) (Gs i) S' w') : PWPo w b G (setSite W i S') w' := by
  obtain ⟨Gs', f, g, kp, tt⟩ := h.fam.stepG (ps' := woParts M (setSite W i S')) (i := i) (by omega) (p := siteP (M.bp i) S') hl (by show (if i < W.n then _ else _) = _; rw [if_pos hi]; show siteP (M.bp i) (setN W.S i S' i) = _; rw [setN_same]) (fun j hj hji => by
    show (if j < W.n then siteP (M.bp j) (setN W.S i S' j) else _) = (if j < W.n then _ else _)
    rw [setN_ne _ _ hji]
    rfl)
  refine ⟨allG b M (W.n + W.c) Gs', ⟨M, Gs', h.keep kp f rfl rfl rfl rfl rfl rfl, fun _ => Iff.rfl⟩, fun k hk => ?_, ⟨tt.os, tt.tape, tt.output, tt.size, fun k hk hn => tt.block k hk (fun e => hn ((hG k).2 (.inr ⟨i, by omega, e⟩)))⟩⟩
  rcases hk with q | ⟨j, hj, q⟩
  · exact .inl ((hG k).2 (.inl q))
  · rcases g j k q with r | r
    · exact .inl ((hG k).2 (.inr ⟨j, hj, r⟩))
    · exact .inr r
theorem PWo.stepC (h : PWo w b M W Gs) (hG : ∀ k, G k ↔ allG b M (W.n + W.c) Gs k) {i : Nat} (hi : i < W.c) {s' : SesS} (hl : PSPo w (M.bs i) (Gs (W.n + i)) s' w') : PWPo w b G (setSes W i s') w' := by
  obtain ⟨Gs', f, g, kp, tt⟩ := h.fam.stepG (ps' := woParts M (setSes W i s')) (i := W.n + i) (by omega) (p := sesP (M.bs i) s') hl (by show (if W.n + i < W.n then _ else _) = _; rw [if_neg (by omega)]; show sesP (M.bs (W.n + i - W.n)) (setN W.ses i s' (W.n + i - W.n)) = _; rw [show W.n + i - W.n = i by omega, setN_same]) (fun j hj hji => by
    show (if j < W.n then _ else sesP (M.bs (j - W.n)) (setN W.ses i s' (j - W.n))) = (if j < W.n then _ else _)
    by_cases q : j < W.n
    · rw [if_pos q, if_pos q]; rfl
    · rw [if_neg q, if_neg q, setN_ne _ _ (by omega)])
  refine ⟨allG b M (W.n + W.c) Gs', ⟨M, Gs', h.keep kp f rfl rfl rfl rfl rfl rfl, fun _ => Iff.rfl⟩, fun k hk => ?_, ⟨tt.os, tt.tape, tt.output, tt.size, fun k hk hn => tt.block k hk (fun e => hn ((hG k).2 (.inr ⟨W.n + i, by omega, e⟩)))⟩⟩
  rcases hk with q | ⟨j, hj, q⟩
  · exact .inl ((hG k).2 (.inl q))
  · rcases g j k q with r | r
    · exact .inl ((hG k).2 (.inr ⟨j, hj, r⟩))
    · exact .inr r
end

end Go.Proofs.YtemiamjnhoeniaaGreatDoor


namespace Go.Proofs.YtemiamjnhoeniaaGreatDoor
open Go.RowKit

def siteX (b : Nat) (S : SiteS) (Y : Nat → Prop) : Part := ⟨fun w G => PS w b G S ∧ ∀ k, Y k → ¬ G k, fun _ _ h => h.1.lt, fun _ _ _ h a c => ⟨h.1.kept a c, h.2⟩⟩
def PSCommitA (w : World) (b bx : Nat) (G Gx : Nat → Prop) (S : SiteS) (s : SesS) (now : Int) (e : Ending) (w' : World) : Prop :=
  ∃ m : TxM, e = .returned (.tuple #[txV m, errV (scomE S s now)]) ∧ m.t = scomT S s now ∧ Hid (WrIn w' m.wa m.wc m.t.ws ∧ Left2 (sesP b (scomSes S s now)) (siteX bx (scomS S s now) m.blk) w G Gx m.blk w')
section
variable {p : Part} {w w' : World} {G Gx Y Z : Nat → Prop} {bx : Nat} {S : SiteS}
theorem left2_x (h : Left2 p (siteP bx S) w G Gx Z w') (hY : ∀ k, ¬ Y k) : Left2 p (siteX bx S Y) w G Gx Y w' := by
  obtain ⟨G', H', p1, q1, p2, q2, pq, _, tt⟩ := h
  exact ⟨G', H', p1, ⟨q1, fun k hk => absurd hk (hY k)⟩, p2, q2, pq, fun k hk => absurd hk (hY k), tt⟩
theorem left2_s (h : Left2 p (siteX bx S Y) w G Gx Z w') : Left2 p (siteP bx S) w G Gx NoY w' := by
  obtain ⟨G', H', p1, q1, p2, q2, pq, _, tt⟩ := h
  exact ⟨G', H', p1, q1.1, p2, q2, pq, fun k hk => hk.elim, tt⟩
end
end Go.Proofs.YtemiamjnhoeniaaGreatDoor


namespace Go.Proofs.YtemiamjnhoeniaaGreatDoor
open Go.RowKit

section
variable {p q : Part} {w wA wB wC wD wF : World} {G Gx Y N : Nat → Prop}
theorem com_mid (hGl : ∀ k, G k → k < w.heap.size) (hd : ∀ k, G k → ¬ Gx k) (hA : Below w.heap.size w wA) (hN : ∀ k, N k → w.heap.size ≤ k ∧ k < wA.heap.size) (hB : Left q wA Gx wB) (hC : Touch N wB wC) : (∀ k, G k → wC.heap[k]? = w.heap[k]?) ∧ w.heap.size ≤ wC.heap.size := by
  obtain ⟨H1, q1, qs, tB⟩ := hB
  refine ⟨fun k hk => ?_, Nat.le_trans hA.size (Nat.le_trans tB.size hC.size)⟩
  have h1 := hGl k hk
  have h2 : k < wA.heap.size := Nat.lt_of_lt_of_le h1 hA.size
  exact (hC.block k (Nat.lt_of_lt_of_le h2 tB.size) (fun e => by have := (hN k e).1; omega)).trans ((tB.block k h2 (hd k hk)).trans (hA.block k h1))
theorem com_fin (hGl : ∀ k, G k → k < w.heap.size) (hXl : ∀ k, Gx k → k < w.heap.size) (hd : ∀ k, G k → ¬ Gx k) (hA : Below w.heap.size w wA) (hN : ∀ k, N k → w.heap.size ≤ k ∧ k < wA.heap.size) (hB : Left q wA Gx wB) (hY : ∀ k, Y k → wA.heap.size ≤ k ∧ k < wB.heap.size)
    (hC : Touch N wB wC) (hD : Left p wC G wD) (hF : Touch N wD wF) : Left2 p q w G Gx Y wF ∧ ∀ k, Y k → wF.heap[k]? = wB.heap[k]? := by
  obtain ⟨H1, q1, qs, tB⟩ := hB
  obtain ⟨G1, p1, ps, tD⟩ := hD
  have sA := hA.size
  have sB := tB.size
  have sC := hC.size
  have sD := tD.size
  have sF := hF.size
  have Hlt : ∀ k, H1 k → k < wB.heap.size := fun k hk => q.lt _ _ q1 k hk
  have HN : ∀ k, H1 k → ¬ N k := fun k hk e => by
    have := hN k e
    rcases qs k hk with h | h
    · have := hXl k h; omega
    · omega
  have HG : ∀ k, H1 k → ¬ G k := fun k hk e => by
    rcases qs k hk with h | h
    · exact hd k e h
    · have := hGl k e; omega
  have GN : ∀ k, G1 k → ¬ N k := fun k hk e => by
    have := hN k e
    rcases ps k hk with h | h
    · have := hGl k h; omega
    · omega
  refine ⟨⟨G1, H1, ?_, ?_, fun k hk => ?_, fun k hk => ?_, fun k hk h1 => ?_, fun k hk => ⟨?_, ?_, fun e => ?_⟩, ⟨?_, ?_, ?_, ?_, fun k hk hn => ?_⟩⟩, fun k hk => ?_⟩
  · exact p.kept _ _ _ p1 (fun k hk => hF.block k (p.lt _ _ p1 k hk) (GN k hk)) sF
  · have r1 := q.kept _ _ _ q1 (fun k hk => hC.block k (Hlt k hk) (HN k hk)) sC
    have r2 := q.kept _ _ _ r1 (fun k hk => tD.block k (by have := Hlt k hk; omega) (HG k hk)) sD
    exact q.kept _ _ _ r2 (fun k hk => hF.block k (by have := Hlt k hk; omega) (HN k hk)) sF
  · rcases ps k hk with h | h
    · exact .inl h
    · exact .inr (by omega)
  · rcases qs k hk with h | h
    · exact .inl h
    · exact .inr (by omega)
  · rcases ps k hk with h | h
    · exact HG k h1 h
    · have := Hlt k h1; omega
  · have := (hY k hk).1; omega
  · have := (hY k hk).2; omega
  · have := hY k hk
    rcases ps k e with h | h
    · have := hGl k h; omega
    · omega
  · exact hF.os.trans (tD.os.trans (hC.os.trans (tB.os.trans hA.os)))
  · exact hF.tape.trans (tD.tape.trans (hC.tape.trans (tB.tape.trans hA.tape)))
  · exact hF.output.trans (tD.output.trans (hC.output.trans (tB.output.trans hA.output)))
  · omega
  · have nN : ¬ N k := fun e => by have := (hN k e).1; omega
    exact (hF.block k (by omega) nN).trans ((tD.block k (by omega) (fun e => hn (.inl e))).trans ((hC.block k (by omega) nN).trans ((tB.block k (by omega) (fun e => hn (.inr e))).trans (hA.block k hk))))
  · have y := hY k hk
    have nN : ¬ N k := fun e => by have := (hN k e).2; omega
    exact (hF.block k (by omega) nN).trans ((tD.block k (by omega) (fun e => by have := hGl k e; omega)).trans (hC.block k (by omega) nN))
theorem left2_same {p q : Part} {w w' : World} {G Gx : Nat → Prop} (hp : p.is w G) (hq : q.is w Gx) (hd : ∀ k, G k → ¬ Gx k) (hb : Below w.heap.size w w') (Y : Nat → Prop) (hY : ∀ k, ¬ Y k) : Left2 p q w G Gx Y w' :=
  ⟨G, Gx, p.kept _ _ _ hp (fun k hk => hb.block k (p.lt _ _ hp k hk)) hb.size, q.kept _ _ _ hq (fun k hk => hb.block k (q.lt _ _ hq k hk)) hb.size, fun _ hk => .inl hk, fun _ hk => .inl hk, hd, fun k hk => absurd hk (hY k), Touch.ofBelow hb⟩
end
theorem touch_tx' {F : Nat → Prop} {w W : World} {b : Nat} (h : Touch F w W) (hB : F b) (x0 x1 x2 x3 x4 x5 x6 x7 : Int) (v : Value) : Touch F w (setTx W b x0 x1 x2 x3 x4 x5 x6 x7 v) :=
  ((((((((h.trans (Touch.setCell _ _ _ hB)).trans (Touch.setCell _ _ _ hB)).trans (Touch.setCell _ _ _ hB)).trans (Touch.setCell _ _ _ hB)).trans (Touch.setCell _ _ _ hB)).trans (Touch.setCell _ _ _ hB)).trans (Touch.setCell _ _ _ hB)).trans (Touch.setCell _ _ _ hB)).trans (Touch.setCell _ _ _ hB)

def pastN (n : Nat) (x : Int) (s : SesS) : SesS := { s with p0 := if n = 0 then x else s.p0, p1 := if n = 1 then x else s.p1, p2 := if n = 2 then x else s.p2, p3 := if n = 3 then x else s.p3 }
theorem past_at {s : SesS} {wv : Value} {n : Int} (h0 : 0 ≤ n) (h3 : n ≤ 3) : (rsesC s wv)[n.toNat]? = some (.int .i64 (depOf n s.p0 s.p1 s.p2 s.p3)) := by
  have hc : n = 0 ∨ n = 1 ∨ n = 2 ∨ n = 3 := by omega
  rcases hc with rfl | rfl | rfl | rfl <;> rfl
theorem ppast_at {s : SesS} {mv : Value} {n : Int} (h0 : 0 ≤ n) (h3 : n ≤ 3) : (psesC s mv)[n.toNat]? = some (.int .i64 (depOf n s.p0 s.p1 s.p2 s.p3)) := by
  have hc : n = 0 ∨ n = 1 ∨ n = 2 ∨ n = 3 := by omega
  rcases hc with rfl | rfl | rfl | rfl <;> rfl
theorem atLeast_eq {site seq : Int} {s : SesS} (h0 : 0 ≤ site) (h3 : site ≤ 3) : atLeast site seq s = pastN site.toNat (maxZ (depOf site s.p0 s.p1 s.p2 s.p3) seq) s := by
  have hc : site = 0 ∨ site = 1 ∨ site = 2 ∨ site = 3 := by omega
  rcases hc with rfl | rfl | rfl | rfl <;> rfl
theorem PSPo.after {w w1 w2 : World} {b : Nat} {G : Nat → Prop} {s : SesS} (h : PSPo w b G s w1) (hb : Below w1.heap.size w1 w2) : PSPo w b G s w2 := by
  obtain ⟨G', h1, h2, h3⟩ := h
  exact ⟨G', h1.later hb, h2, h3.trans (Touch.ofBelow hb)⟩
theorem PSPo.past {w w1 : World} {b : Nat} {G : Nat → Prop} {s : SesS} (hG : G b) (h : PSPo w b G s w1) {n : Nat} (hn : n < 4) (x : Int) : PSPo w b G (pastN n x s) (w1.setCell ⟨b, n, none⟩ (.int .i64 x)) := by
  obtain ⟨G', h1, h2, h3⟩ := h
  exact past_box h1 h2 hG h3 n hn x
theorem tx0_in (w : World) : WrIn w tx0.wa tx0.wc tx0.t.ws := ⟨Nat.le_refl _, by decide, .inl rfl⟩
theorem tx0_blk (k : Nat) : ¬ tx0.blk k := fun h => absurd rfl h.1
theorem scom_yes {S : SiteS} {s : SesS} {now : Int} (ho : s.opn = true) (hl : (allW s.ws).length ≠ 0) :
    scomE S s now = comE S now s.s0 s.s1 s.s2 s.s3 (allW s.ws) ∧ scomT S s now = comT S now s.s0 s.s1 s.s2 s.s3 (allW s.ws) ∧ scomS S s now = comS S now s.s0 s.s1 s.s2 s.s3 (allW s.ws) := by
  have n1 : ¬ s.opn = false := by rw [ho]; decide
  have n2 : ¬ (s.opn = false ∨ (allW s.ws).length = 0) := by rintro (h | h); exact n1 h; exact hl h
  exact ⟨by unfold scomE; rw [if_neg n1, if_neg hl], by unfold scomT; rw [if_neg n2], by unfold scomS; rw [if_neg n2]⟩
theorem scom_none {S : SiteS} {s : SesS} {now : Int} (ho : s.opn = true) (hl : (allW s.ws).length = 0) :
    scomE S s now = 0 ∧ scomT S s now = tx0.t ∧ scomS S s now = S ∧ scomSes S s now = endS s := by
  have n1 : ¬ s.opn = false := by rw [ho]; decide
  have E : scomE S s now = 0 := by unfold scomE; rw [if_neg n1, if_pos hl]
  exact ⟨E, by unfold scomT; rw [if_pos (.inr hl)]; rfl, by unfold scomS; rw [if_pos (.inr hl)], by unfold scomSes; rw [if_neg (by rw [E]; decide), if_pos hl]⟩
theorem scom_shut {S : SiteS} {s : SesS} {now : Int} (ho : s.opn = false) :
    scomE S s now = 6 ∧ scomT S s now = tx0.t ∧ scomS S s now = S ∧ scomSes S s now = s := by
  have E : scomE S s now = 6 := by unfold scomE; rw [if_pos ho]
  exact ⟨E, by unfold scomT; rw [if_pos (.inl ho)]; rfl, by unfold scomS; rw [if_pos (.inl ho)], by unfold scomSes; rw [if_pos (by rw [E]; decide)]⟩
theorem scom_bad {S : SiteS} {s : SesS} {now : Int} (ho : s.opn = true) (hl : (allW s.ws).length ≠ 0) (hE : comE S now s.s0 s.s1 s.s2 s.s3 (allW s.ws) ≠ 0) : scomSes S s now = s ∧ comS S now s.s0 s.s1 s.s2 s.s3 (allW s.ws) = S ∧ comT S now s.s0 s.s1 s.s2 s.s3 (allW s.ws) = tx0.t := by
  refine ⟨by unfold scomSes; rw [if_pos (by rw [(scom_yes ho hl).1]; exact hE)], by unfold comS; rw [if_neg hE], by unfold comT; rw [if_neg hE]; rfl⟩
theorem scom_good {S : SiteS} {s : SesS} {now : Int} (ho : s.opn = true) (hl : (allW s.ws).length ≠ 0) (hE : comE S now s.s0 s.s1 s.s2 s.s3 (allW s.ws) = 0) : scomSes S s now = atLeast (comT S now s.s0 s.s1 s.s2 s.s3 (allW s.ws)).site (comT S now s.s0 s.s1 s.s2 s.s3 (allW s.ws)).seq (endS s) ∧ (comT S now s.s0 s.s1 s.s2 s.s3 (allW s.ws)).site = S.id := by
  have y := scom_yes (S := S) (now := now) ho hl
  refine ⟨by unfold scomSes; rw [if_neg (by rw [y.1, hE]; decide), if_neg hl, y.2.1], by unfold comT; rw [if_pos hE]; rfl⟩

end Go.Proofs.YtemiamjnhoeniaaGreatDoor


namespace Go.Proofs.YtemiamjnhoeniaaGreatDoor
open Go.RowKit

theorem Hist.later {H : List TxP} (h : Hist H) : ∀ x ∈ H, ∀ y ∈ H, x.site = y.site → x.seq < y.seq → cmpS x.wall x.count y.wall y.count < 0 := by
  induction h with
  | nil => intro x hx; cases hx
  | @snoc H t g1 g2 g3 g4 g5 ih =>
    intro x hx y hy es eq
    rcases List.mem_append.1 hx with qx | qx
    · rcases List.mem_append.1 hy with qy | qy
      · exact ih x qx y qy es eq
      · rw [List.mem_singleton.1 qy] at es ⊢
        exact g5 x qx es
    · rw [List.mem_singleton.1 qx] at es eq
      rcases List.mem_append.1 hy with qy | qy
      · have := (g1.seq y qy).2
        rw [← es] at this
        omega
      · rw [List.mem_singleton.1 qy] at eq
        omega
theorem Hist.pre {H : List TxP} (h : Hist H) : ∀ {l1 l2 : List TxP}, H = l1 ++ l2 → Hist l1 := by
  induction h with
  | nil =>
    intro l1 l2 e
    have : l1 = [] := (List.append_eq_nil_iff.1 e.symm).1
    rw [this]
    exact .nil
  | @snoc H t g1 g2 g3 g4 g5 ih =>
    intro l1 l2 e
    rcases List.eq_nil_or_concat l2 with q | ⟨r, x, q⟩
    · rw [q, List.append_nil] at e
      rw [← e]
      exact .snoc g1 g2 g3 g4 g5
    · have q' : l2 = r ++ [x] := by rw [q]; simp
      rw [q', ← List.append_assoc] at e
      exact ih (List.append_inj_left' e rfl)
theorem Hist.last {l : List TxP} {t : TxP} (h : Hist (l ++ [t])) : t.seq = cnt l t.site + 1 ∧ ∀ s, 0 ≤ s → s ≤ 3 → Go.Proofs.YtemiamjnhoeniaaGreatDoor.over t s ≤ cnt l s := by
  generalize e : l ++ [t] = H at h
  cases h with
  | nil => simp at e
  | @snoc H' t' g1 g2 g3 g4 g5 =>
    have e1 := List.append_inj_left' e rfl
    have e2 := List.append_inj_right' e rfl
    injection e2 with e2
    subst e1 e2
    exact ⟨g3, g4⟩
structure LogH (S : SiteS) : Prop where
  hist : Hist S.log
  ap : ∀ s, 0 ≤ s → s ≤ 3 → appl S s = cnt S.log s
theorem LogH.new (id : Int) : LogH (newS id) := ⟨.nil, fun s _ _ => by
  show depOf s 0 0 0 0 = ((cnt [] s : Nat) : Int)
  rw [depOf_zero]
  rfl⟩
theorem LogH.wait {S : SiteS} (h : LogH S) (l : List TxP) : LogH { S with waits := l } := ⟨h.hist, h.ap⟩
theorem LogH.apply {H : List TxP} {S : SiteS} {t : TxP} (h : LogH S) (hH : Hist H) (ho : Over H S) (ht : t ∈ H) (hr : readyS S t = true) : LogH (applyS S t) := by
  obtain ⟨r1, r2⟩ := ready_iff hr
  have hs := hH.site ht
  refine ⟨.snoc h.hist (hH.ok t ht) (by rw [r1, h.ap t.site hs.1 hs.2]) (fun s h0 h3 => by rw [← h.ap s h0 h3]; exact r2 s h0 h3) (fun x hx es => ?_), fun s h0 h3 => ?_⟩
  · refine hH.later x (ho.lin x hx) t ht es ?_
    have := (ho.has x (ho.lin x hx)).1 hx
    rw [es] at this
    omega
  · rw [appl_apply s h0 h3]
    show _ = ((cnt (S.log ++ [t]) s : Nat) : Int)
    rw [cnt_snoc]
    by_cases e : s = t.site
    · rw [if_pos e, if_pos e.symm, r1, e, h.ap t.site hs.1 hs.2]
      rfl
    · rw [if_neg e, if_neg (fun q => e q.symm), h.ap s h0 h3]
      rfl
theorem Goes.logh {H : List TxP} (hH : Hist H) {S S' : SiteS} (hg : Goes S S') : LogH S → Over H S → Nums S.waits → LogH S' := by
  induction hg with
  | full _ => exact fun h _ _ => h
  | none _ => exact fun h _ _ => h
  | @step S S' x h1 h2 _ ih =>
    intro h ho hN
    obtain ⟨m1, m2⟩ := nextS_mem h2
    refine ih ?_ (ho.gone hH m1 m2) (hN.drop x)
    exact (h.wait (dropW S.waits x)).apply hH (ho.fewer (fun y hy => (mem_dropW.1 hy).1)) (ho.win x m1) m2
theorem TakesTo.logh {H : List TxP} (hH : Hist H) {S S' : SiteS} {t : TxP} (hT : TakesTo S t S') (h : LogH S) (ho : Over H S) (hI : InvS S) (ht : t ∈ H) : LogH S' := by
  rcases hT with ⟨_, rfl⟩ | ⟨e, hg⟩
  · exact h
  · obtain ⟨_, _, p3, p4, _⟩ := takeE_zero e
    have hn : t ∉ S.log := fun q => p3 ((ho.has t ht).1 q)
    exact hg.logh hH (h.wait _) (ho.wait ht hn) (hI.nums.snoc p4)
theorem LogH.ready {H : List TxP} {S R : SiteS} (hH : Hist H) (h : LogH S) (ho : Over H S) (hR : Over H R) {l1 l2 : List TxP} {t : TxP} (e : S.log = l1 ++ t :: l2) (h1 : ∀ x ∈ l1, x ∈ R.log) (hn : t ∉ R.log) : readyS R t = true := by
  have ht : t ∈ H := ho.lin t (by rw [e]; simp)
  have hl : Hist (l1 ++ [t]) := by
    have := h.hist
    rw [e, show l1 ++ t :: l2 = (l1 ++ [t]) ++ l2 by simp] at this
    exact this.pre rfl
  have hl1 : Hist l1 := hl.pre rfl
  obtain ⟨q1, q2⟩ := hl.last
  have low : ∀ s, 0 ≤ s → s ≤ 3 → (cnt l1 s : Int) ≤ appl R s := fun s h0 h3 => by
    by_cases hz : cnt l1 s = 0
    · rw [hz]
      exact (hR.le s h0 h3).1
    · obtain ⟨x, hx, e1, e2⟩ := hl1.all s (cnt l1 s) (by omega) (Int.le_refl _)
      have := (hR.has x (hR.lin x (h1 x hx))).1 (h1 x hx)
      rw [e1, e2] at this
      exact this
  have hs := hH.site ht
  refine iff_ready ?_ (fun s h0 h3 => Int.le_trans (q2 s h0 h3) (low s h0 h3))
  have a := low t.site hs.1 hs.2
  have b : ¬ t.seq ≤ appl R t.site := fun q => hn ((hR.has t ht).2 q)
  omega

end Go.Proofs.YtemiamjnhoeniaaGreatDoor


namespace Go.Proofs.YtemiamjnhoeniaaGreatDoor
open Go.RowKit

theorem Over.mono {H : List TxP} {S R : SiteS} (hH : Hist H) (hS : Over H S) (hR : Over H R) (h : ∀ x ∈ S.log, x ∈ R.log) (s : Int) (h0 : 0 ≤ s) (h3 : s ≤ 3) : appl S s ≤ appl R s := by
  have a := hS.le s h0 h3
  by_cases hz : appl S s = 0
  · rw [hz]
    exact (hR.le s h0 h3).1
  · obtain ⟨x, hx, e1, e2⟩ := hH.all s (appl S s) (by omega) a.2
    have hl : x ∈ S.log := (hS.has x hx).2 (by rw [e1, e2]; exact Int.le_refl _)
    have := (hR.has x hx).1 (h x hl)
    rw [e1, e2] at this
    exact this
theorem TakesTo.applies {H : List TxP} {S S' : SiteS} {t : TxP} (hH : Hist H) (ho : Over H S) (hI : InvS S) (ht : t ∈ H) (hid : t.site ≠ S.id) (hr : readyS S t = true) (hw : t ∉ S.waits) (hl : S.log.length + S.waits.length < 199) (hT : TakesTo S t S') : t ∈ S'.log ∧ nextS S' = none := by
  obtain ⟨r1, r2⟩ := ready_iff hr
  have hs := hH.site ht
  have hn : t ∉ S.log := fun q => by have := (ho.has t ht).1 q; omega
  have hnum : ∀ x ∈ S.waits, isNum x t = false := fun x hx => by
    cases hi : isNum x t with
    | false => rfl
    | true =>
      obtain ⟨a, b⟩ := isNum_iff.1 hi
      have := hH.uniq x (ho.win x hx) t ht a b
      rw [this] at hx
      exact absurd hx hw
  have e : takeE S t = 0 := by
    unfold takeE
    rw [if_neg (by rw [hH.ok t ht]; decide), if_neg hid, if_neg (show ¬ t.seq ≤ depOf t.site S.a0 S.a1 S.a2 S.a3 from fun q => hn ((ho.has t ht).2 q)), if_neg, if_neg (by omega), if_neg (fun q => by rw [hr] at q; cases q.2)]
    intro q
    obtain ⟨x, hx, hi⟩ := List.any_eq_true.1 q
    rw [hnum x hx] at hi
    cases hi
  rcases hT with ⟨q, _⟩ | ⟨_, hg⟩
  · exact absurd e q
  · obtain ⟨c1, c2, c3, c4, c5⟩ := hg.over hH (ho.wait ht hn) (hI.nums.snoc hnum)
    have hlen : (S.waits ++ [t]).length = S.waits.length + 1 := by simp
    have nx := c5 (by show S.log.length + (S.waits ++ [t]).length < 200; omega)
    refine ⟨?_, nx⟩
    rcases (c2 t ht).2 (.inr (List.mem_append.2 (.inr (List.mem_singleton.2 rfl)))) with q | q
    · exact q
    · exfalso
      have sub : ∀ x ∈ S.log, x ∈ S'.log := hg.log.1
      have nl : t ∉ S'.log := c1.wno t q
      have m := fun s h0 h3 => Over.mono hH ho c1 sub s h0 h3
      have b : ¬ t.seq ≤ appl S' t.site := fun z => nl ((c1.has t ht).2 z)
      have rd : readyS S' t = true := iff_ready (by have := m t.site hs.1 hs.2; omega) (fun s h0 h3 => Int.le_trans (r2 s h0 h3) (m s h0 h3))
      have := nextS_none nx t q hs.1 hs.2
      rw [rd] at this
      cases this

end Go.Proofs.YtemiamjnhoeniaaGreatDoor


namespace Go.Proofs.YtemiamjnhoeniaaGreatDoor
open Go.RowKit

structure SimS (a0 a1 a2 a3 : Int) (G S : SiteS) : Prop where
  eq : S = { G with l := S.l }
  sw : Swept a0 a1 a2 a3 G.l S.l
section
variable {a0 a1 a2 a3 : Int} {G S : SiteS} {t : TxP}
theorem SimS.refl (S : SiteS) : SimS a0 a1 a2 a3 S S := ⟨rfl, Swept.refl _⟩
theorem SimS.ap0 (h : SimS a0 a1 a2 a3 G S) : S.a0 = G.a0 := by rw [h.eq]
theorem SimS.ap1 (h : SimS a0 a1 a2 a3 G S) : S.a1 = G.a1 := by rw [h.eq]
theorem SimS.ap2 (h : SimS a0 a1 a2 a3 G S) : S.a2 = G.a2 := by rw [h.eq]
theorem SimS.ap3 (h : SimS a0 a1 a2 a3 G S) : S.a3 = G.a3 := by rw [h.eq]
theorem SimS.log (h : SimS a0 a1 a2 a3 G S) : S.log = G.log := by rw [h.eq]
theorem SimS.waits (h : SimS a0 a1 a2 a3 G S) : S.waits = G.waits := by rw [h.eq]
theorem SimS.next (h : SimS a0 a1 a2 a3 G S) : nextS S = nextS G := by rw [h.eq]; rfl
theorem SimS.takeE (h : SimS a0 a1 a2 a3 G S) (t : TxP) : takeE S t = takeE G t := by rw [h.eq]; rfl
theorem SimS.comE (h : SimS a0 a1 a2 a3 G S) (now d0 d1 d2 d3 : Int) (ws : List Wr) : comE S now d0 d1 d2 d3 ws = comE G now d0 d1 d2 d3 ws := by rw [h.eq]; rfl
theorem SimS.comT (h : SimS a0 a1 a2 a3 G S) (now d0 d1 d2 d3 : Int) (ws : List Wr) : comT S now d0 d1 d2 d3 ws = comT G now d0 d1 d2 d3 ws := by rw [h.eq]; rfl
theorem SimS.missP (h : SimS a0 a1 a2 a3 G S) (v0 v1 v2 v3 : Int) : missP S v0 v1 v2 v3 = missP G v0 v1 v2 v3 := by rw [h.eq]; rfl
theorem SimS.wait (h : SimS a0 a1 a2 a3 G S) (l : List TxP) : SimS a0 a1 a2 a3 { G with waits := l } { S with waits := l } := ⟨by rw [h.eq], h.sw⟩
theorem SimS.knows (h : SimS a0 a1 a2 a3 G S) (k : Nat) (x0 x1 x2 x3 : Int) : SimS a0 a1 a2 a3 (knowsS G k x0 x1 x2 x3) (knowsS S k x0 x1 x2 x3) := ⟨by rw [h.eq]; rfl, h.sw⟩
theorem puts_swept {t : TxP} : ∀ (ws : List Wr) (la lb : List Hd), Swept a0 a1 a2 a3 la lb → ws.Pairwise (fun x y => x.key ≠ y.key) → (∀ x ∈ ws, ∀ h ∈ la, twinB x.key (verOf t x) h = false) → Swept a0 a1 a2 a3 (putsT t ws la) (putsT t ws lb)
  | [], _, _, h, _, _ => h
  | x :: ws, la, lb, h, hp, hn => by
    have hc := List.pairwise_cons.1 hp
    refine puts_swept ws (putL la x.key (verOf t x)) (putL lb x.key (verOf t x)) (h.put (hn x List.mem_cons_self)) hc.2 (fun y hy g hg => ?_)
    rcases (mem_putL (hn x List.mem_cons_self) g).1 hg with e | ⟨_, _, e⟩
    · exact hn y (List.mem_cons_of_mem _ hy) g e
    · rw [e]
      have := hc.1 y hy
      unfold twinB
      simp
      intro e2
      exact absurd e2 this
theorem SimS.apply (h : SimS a0 a1 a2 a3 G S) {H : List TxP} (hH : Hist H) (ho : Over H G) (ht : t ∈ H) (hn : t ∉ G.log) : SimS a0 a1 a2 a3 (applyS G t) (applyS S t) := by
  refine ⟨by rw [h.eq]; rfl, puts_swept _ _ _ h.sw ?_ (fun x hx g hg => ?_)⟩
  · exact (okWs_rise (okT_ws (hH.ok t ht)).1).imp (fun {x y} (q : x.key < y.key) => (by omega : x.key ≠ y.key))
  · obtain ⟨u, hu, y, hy, e⟩ := (ho.vs g).1 hg
    cases q : twinB x.key (verOf t x) g with
    | false => rfl
    | true =>
      exfalso
      rw [e] at q
      unfold twinB at q
      simp only [verOf, Bool.and_eq_true, decide_eq_true_eq] at q
      have e1 : u.site = t.site := of_decide_eq_true q.2
      have e2 : u.wall = t.wall := of_decide_eq_true q.1.2.1
      have e3 : u.count = t.count := of_decide_eq_true q.1.2.2
      have := hH.stamp t ht u (ho.lin u hu) e1.symm e2.symm e3.symm
      exact hn (by rw [this]; exact hu)
theorem SimS.gone (h : SimS a0 a1 a2 a3 G S) {H : List TxP} (hH : Hist H) (ho : Over H G) (ht : t ∈ G.waits) : SimS a0 a1 a2 a3 (goneS G t) (goneS S t) := by
  have := (h.wait (dropW G.waits t)).apply hH (ho.fewer (fun x hx => (mem_dropW.1 hx).1)) (ho.win t ht) (ho.wno t ht)
  show SimS a0 a1 a2 a3 (applyS { G with waits := dropW G.waits t } t) (applyS { S with waits := dropW S.waits t } t)
  rw [h.waits]
  exact this
theorem Goes.sim {H : List TxP} (hH : Hist H) {S S' : SiteS} (hg : Goes S S') : ∀ {G : SiteS}, SimS a0 a1 a2 a3 G S → Over H G → Nums G.waits → ∃ G', Goes G G' ∧ SimS a0 a1 a2 a3 G' S' := by
  induction hg with
  | full hf => exact fun h _ _ => ⟨_, .full (by rw [← h.log]; exact hf), h⟩
  | none hn => exact fun h _ _ => ⟨_, .none (by rw [← h.next]; exact hn), h⟩
  | @step S S' x h1 h2 _ ih =>
    intro G h ho hN
    rw [h.next] at h2
    obtain ⟨m1, m2⟩ := nextS_mem h2
    obtain ⟨G', g1, g2⟩ := ih (h.gone hH ho m1) (ho.gone hH m1 m2) (hN.drop x)
    exact ⟨G', .step (by rw [← h.log]; exact h1) h2 g1, g2⟩
theorem SimS.takes {H : List TxP} (hH : Hist H) (h : SimS a0 a1 a2 a3 G S) (ho : Over H G) (hI : InvS G) (ht : t ∈ H) {S' : SiteS} (hT : TakesTo S t S') : ∃ G', TakesTo G t G' ∧ SimS a0 a1 a2 a3 G' S' := by
  rcases hT with ⟨e, rfl⟩ | ⟨e, hg⟩
  · exact ⟨G, .inl ⟨by rw [← h.takeE]; exact e, rfl⟩, h⟩
  · rw [h.takeE] at e
    obtain ⟨_, _, p3, p4, _⟩ := takeE_zero e
    have hn : t ∉ G.log := fun q => p3 ((ho.has t ht).1 q)
    rw [h.waits] at hg
    obtain ⟨G', g1, g2⟩ := hg.sim hH (h.wait (G.waits ++ [t])) (ho.wait ht hn) (hI.nums.snoc p4)
    exact ⟨G', .inr ⟨e, g1⟩, g2⟩
theorem Swept.more {b0 b1 b2 b3 : Int} {la lb : List Hd} (h : Swept a0 a1 a2 a3 la lb) (hv : ∀ v : Ver, hasV a0 a1 a2 a3 v = true → hasV b0 b1 b2 b3 v = true) : Swept b0 b1 b2 b3 la lb :=
  ⟨h.sub, fun x hx => (h.over x hx).elim .inl (fun ⟨g, g1, g2, g3, g4⟩ => .inr ⟨g, g1, g2, hv _ g3, g4⟩)⟩
theorem hasV_le {b0 b1 b2 b3 : Int} {v : Ver} (h : ∀ s, depOf s a0 a1 a2 a3 ≤ depOf s b0 b1 b2 b3) (hv : hasV a0 a1 a2 a3 v = true) : hasV b0 b1 b2 b3 v = true := by
  unfold hasV at *
  simp only [decide_eq_true_eq] at *
  have := h v.site
  omega
theorem maxZ_l (x y : Int) : x ≤ maxZ x y := by unfold maxZ; split <;> omega
theorem maxZ_r (x y : Int) : y ≤ maxZ x y := by unfold maxZ; split <;> omega
theorem dep_max2 {b0 b1 b2 b3 : Int} (s : Int) : depOf s a0 a1 a2 a3 ≤ depOf s (maxZ a0 b0) (maxZ a1 b1) (maxZ a2 b2) (maxZ a3 b3) := by
  unfold depOf
  split
  · exact maxZ_l _ _
  · split
    · exact maxZ_l _ _
    · split <;> exact maxZ_l _ _
theorem dep_max3 {b0 b1 b2 b3 : Int} (s : Int) : depOf s b0 b1 b2 b3 ≤ depOf s (maxZ a0 b0) (maxZ a1 b1) (maxZ a2 b2) (maxZ a3 b3) := by
  unfold depOf
  split
  · exact maxZ_r _ _
  · split
    · exact maxZ_r _ _
    · split <;> exact maxZ_r _ _
theorem SimS.sweep (h : SimS a0 a1 a2 a3 G S) (hA : Apart S.l) (x0 x1 x2 x3 : Int) : SimS (maxZ a0 x0) (maxZ a1 x1) (maxZ a2 x2) (maxZ a3 x3) G { S with l := sweepL x0 x1 x2 x3 S.l } := by
  refine ⟨by rw [h.eq], (h.sw.more (fun v => hasV_le (fun s => dep_max2 s))).trans ?_⟩
  exact (sweep_over S.l hA).more (fun v => hasV_le (fun s => dep_max3 s))
end

end Go.Proofs.YtemiamjnhoeniaaGreatDoor

