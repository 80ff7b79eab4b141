import Derived.Test.YtoanjdndmlffdaaGreatDoorWoL
import Derived.Lib.FieldsP
import Derived.Lib.ParseIntB
import Derived.Lib.ItoaNum
import Derived.Lib.Join
import Derived.Lib.IndexMore
namespace Go.Proofs.YtoanjdndmlffdaaGreatDoor
section
open Go.RowKit
abbrev bya (l : List UInt8) : ByteArray := ⟨l.toArray⟩
/-- a word's number, if the word is the one way to write it -/
def numW (s : ByteArray) : Option Int :=
  match Lib.parseIntB 64 s.data.toList with
  | .ok v => if bya (Lib.itoa v) = s then some v else none
  | _ => none
def numsW : List ByteArray → Option (List Int)
  | [] => some []
  | s :: l => match numW s with
    | none => none
    | some v => match numsW l with
      | none => none
      | some r => some (v :: r)
/-- just so many numbers -/
def numsN (m : Nat) (l : List ByteArray) : Option (List Int) := if l.length = m then numsW l else none
/-- numbers with a blank between -/
def blkd (l : List Int) : List UInt8 := Lib.join (l.map Lib.itoa) [32]
/-- there is such a one -/
abbrev There (k : Int) (n : Nat) : Prop := 0 ≤ k ∧ k < (n : Int)

/-- the first words, in their order -/
def cmdN : List (List UInt8) := [[97, 98, 111, 114, 116], [97, 115, 107], [98, 101, 103, 105, 110], [99, 97, 108, 109], [99, 108, 105, 101, 110, 116], [99, 111, 109, 109, 105, 116], [100, 101, 108, 105, 118, 101, 114], [100, 114, 111, 112], [103, 111, 101, 115], [104, 101, 108, 112], [108, 111, 115, 101], [109, 97, 110, 121], [109, 111, 118, 101], [114, 101, 97, 100], [115, 105, 116, 101], [115, 119, 101, 101, 112], [116, 119, 105, 99, 101], [119, 111, 114, 108, 100], [119, 114, 105, 116, 101]]
def nameOf (i : Nat) : List UInt8 := cmdN.getD i []
/-- how many numbers stand behind a first word -/
def arity (i : Nat) : Nat := [1, 2, 1, 0, 1, 1, 1, 2, 2, 0, 1, 0, 2, 2, 1, 1, 1, 2, 2].getD i 0
def cstTold (W : WoS) (k : Nat) : List UInt8 := if (wcT W k).seq = 0 then [110, 111, 116, 104, 105, 110, 103] else blkd [(wcT W k).site, (wcT W k).seq, (wcT W k).wall, (wcT W k).count] ++ [58, 32] ++ blkd [(wcT W k).d0, (wcT W k).d1, (wcT W k).d2, (wcT W k).d3]
def cliTold (W : WoS) (k : Nat) : List UInt8 := blkd [(W.at_ k : Int)] ++ [44, 32] ++ blkd [(W.ses k).p0, (W.ses k).p1, (W.ses k).p2, (W.ses k).p3] ++ if (W.ses k).opn = true then [44, 32] ++ blkd [(W.ses k).s0, (W.ses k).s1, (W.ses k).s2, (W.ses k).s3] else []
def siteTexts (S : SiteS) : List (List UInt8) := (List.range 8).map fun (i : Nat) => (toldV S.a0 S.a1 S.a2 S.a3 S.l i).data.toList
def siteTold (S : SiteS) : List UInt8 := blkd [S.a0, S.a1, S.a2, S.a3] ++ [44, 32] ++ blkd [(S.waits.length : Int), (S.l.length : Int)] ++ [44, 32] ++ Lib.join (siteTexts S) [32]
/-- what a command does with its numbers, and a text: what the world is then, the error, what is told -/
def CmdTo (i : Nat) (W : WoS) (l : List Int) (d : ByteArray) (W' : WoS) (er : Int) (told : List UInt8) : Prop :=
  match i, l with
  | 0, [k] => told = nameOf 0 ∧ if There k W.c then W' = setSes W k.toNat (aboS (W.ses k.toNat)) ∧ er = aboE (W.ses k.toNat) else W' = W ∧ er = 2
  | 1, [k, o] => told = nameOf 1 ∧ if There k W.n ∧ There o W.n ∧ k ≠ o then W' = askW W k.toNat o.toNat ∧ er = 0 else W' = W ∧ er = 2
  | 2, [k] => told = nameOf 2 ∧ if There k W.c then W' = setSes W k.toNat (begS (W.S (W.at_ k.toNat)) (W.ses k.toNat)) ∧ er = begE (W.S (W.at_ k.toNat)) (W.ses k.toNat) else W' = W ∧ er = 2
  | 3, [] => told = nameOf 3 ∧ CalmTo W W' ∧ er = 0
  | 4, [k] => W' = W ∧ if There k W.c then told = cliTold W k.toNat ∧ er = 0 else told = [] ∧ er = 2
  | 5, [k] => if There k W.c then told = cstTold W k.toNat ∧ W' = wcW W k.toNat ∧ er = wcE W k.toNat else told = [] ∧ W' = W ∧ er = 2
  | 6, [k] => told = nameOf 6 ∧ if There k W.net.length then DeliverTo W k.toNat W' ∧ er = 0 else W' = W ∧ er = 2
  | 7, [k, key] => told = nameOf 7 ∧ if There k W.c then W' = setSes W k.toNat (wriS (W.ses k.toNat) ⟨key, ⟨#[]⟩, true⟩) ∧ er = wriE (W.ses k.toNat) ⟨key, ⟨#[]⟩, true⟩ else W' = W ∧ er = 2
  | 8, [k, y] => told = nameOf 8 ∧ if There k W.n ∧ 0 ≤ y ∧ y ≤ 1099511627776 then W' = goesW W k.toNat y ∧ er = 0 else W' = W ∧ er = 2
  | 9, [] => told = Lib.join cmdN [32] ∧ W' = W ∧ er = 0
  | 10, [k] => told = nameOf 10 ∧ if There k W.net.length then W' = dropW' W k.toNat ∧ er = 0 else W' = W ∧ er = 2
  | 11, [] => told = blkd [(W.net.length : Int), W.lost] ∧ W' = W ∧ er = 0
  | 12, [k, to] => told = nameOf 12 ∧ if There k W.c ∧ There to W.n then W' = moveW W k.toNat to.toNat ∧ er = moveE W k.toNat else W' = W ∧ er = 2
  | 13, [k, key] => W' = W ∧ if There k W.c then told = [105, 115, 32] ++ (sreadV (W.S (W.at_ k.toNat)) (W.ses k.toNat) key).1.data.toList ∧ er = (sreadV (W.S (W.at_ k.toNat)) (W.ses k.toNat) key).2 else told = [] ∧ er = 2
  | 14, [k] => W' = W ∧ if There k W.n then told = siteTold (W.S k.toNat) ∧ er = 0 else told = [] ∧ er = 2
  | 15, [k] => told = nameOf 15 ∧ if There k W.n then W' = sweepW W k.toNat ∧ er = 0 else W' = W ∧ er = 2
  | 16, [k] => told = nameOf 16 ∧ if There k W.net.length then (∃ g, W.net[k.toNat]? = some g ∧ W' = sendW W g) ∧ er = 0 else W' = W ∧ er = 2
  | 17, [n, c] => told = nameOf 17 ∧ if (1 ≤ n ∧ n ≤ 4) ∧ (0 ≤ c ∧ c ≤ 6) then W' = newW n.toNat c.toNat ∧ er = 0 else W' = W ∧ er = 2
  | 18, [k, key] => told = nameOf 18 ∧ if There k W.c then W' = setSes W k.toNat (wriS (W.ses k.toNat) ⟨key, d, false⟩) ∧ er = wriE (W.ses k.toNat) ⟨key, d, false⟩ else W' = W ∧ er = 2
  | _, _ => False
/-- .. with the words behind it -/
def DoTo (i : Nat) (W : WoS) (rest : List ByteArray) (W' : WoS) (er : Int) (told : List UInt8) : Prop :=
  match (if i = 18 then (if rest.length = 3 then numsN 2 (rest.take 2) else none) else numsN (arity i) rest) with
  | none => W' = W ∧ er = 3 ∧ told = []
  | some l => CmdTo i W l (rest.getD 2 ⟨#[]⟩) W' er told
def wordsB (s : ByteArray) : List ByteArray := Lib.goFieldsP (fun r => decide (r = 32)) s
def errT (n : Int) : List UInt8 := [101, 114, 114, 111, 114, 32] ++ Lib.itoa n
/-- a line's answer -/
def AnsTo (W : WoS) (line : ByteArray) (W' : WoS) (told : List UInt8) : Prop :=
  match wordsB line with
  | [] => W' = W ∧ told = [111, 107]
  | x :: rest => match cmdN.idxOf? x.data.toList with
    | none => W' = W ∧ told = errT 3
    | some i => ∃ er t, DoTo i W rest W' er t ∧ told = if er = 0 then t else errT er
/-- lines' answers, one behind the other -/
inductive TalkTo : WoS → List ByteArray → List UInt8 → WoS → Prop
  | nil {W : WoS} : TalkTo W [] [] W
  | snoc {W W1 W2 : WoS} {l : List ByteArray} {out told : List UInt8} {x : ByteArray} : TalkTo W l out W1 → AnsTo W1 x W2 told → TalkTo W (l ++ [x]) (out ++ told ++ [10]) W2

theorem CmdTo.det {i : Nat} {W : WoS} {l : List Int} {d : ByteArray} {A B : WoS} {e f : Int} {s t : List UInt8} (h : CmdTo i W l d A e s) (k : CmdTo i W l d B f t) : A = B ∧ e = f ∧ s = t := by
  unfold CmdTo at h k
  split at h <;> simp only at k
  case h_4 => exact ⟨h.2.1.det k.2.1, h.2.2.trans k.2.2.symm, h.1.trans k.1.symm⟩
  case h_7 =>
    refine (fun (x : A = B ∧ e = f) => ⟨x.1, x.2, h.1.trans k.1.symm⟩) ?_
    replace h := h.2
    replace k := k.2
    split at h <;> rename_i q
    · rw [if_pos q] at k
      exact ⟨h.1.det k.1, h.2.trans k.2.symm⟩
    · rw [if_neg q] at k
      exact ⟨h.1.trans k.1.symm, h.2.trans k.2.symm⟩
  case h_17 =>
    refine (fun (x : A = B ∧ e = f) => ⟨x.1, x.2, h.1.trans k.1.symm⟩) ?_
    replace h := h.2
    replace k := k.2
    split at h <;> rename_i q
    · rw [if_pos q] at k
      obtain ⟨⟨g, hg, rfl⟩, h2⟩ := h
      obtain ⟨⟨g', hg', rfl⟩, k2⟩ := k
      rw [hg] at hg'
      injection hg' with hg'
      rw [hg', h2, k2]
      exact ⟨rfl, rfl⟩
    · rw [if_neg q] at k
      exact ⟨h.1.trans k.1.symm, h.2.trans k.2.symm⟩
  all_goals first
    | exact h.elim
    | (obtain ⟨h1, h2⟩ := h; obtain ⟨k1, k2⟩ := k; split at h2 <;> rename_i q <;> first | rw [if_pos q] at k2 | rw [if_neg q] at k2) <;> simp only [h1, k1, h2.1, h2.2, k2.1, k2.2, and_self]
    | (split at h <;> rename_i q <;> first | rw [if_pos q] at k | rw [if_neg q] at k) <;> simp only [h.1, k.1, h.2.1, h.2.2, k.2.1, k.2.2, and_self]
    | simp only [h.1, k.1, h.2.1, h.2.2, k.2.1, k.2.2, and_self]
theorem DoTo.det {i : Nat} {W : WoS} {rest : List ByteArray} {A B : WoS} {e f : Int} {s t : List UInt8} (h : DoTo i W rest A e s) (k : DoTo i W rest B f t) : A = B ∧ e = f ∧ s = t := by
  unfold DoTo at h k
  split at h <;> rename_i q <;> rw [q] at k
  · exact ⟨h.1.trans k.1.symm, h.2.1.trans k.2.1.symm, h.2.2.trans k.2.2.symm⟩
  · exact h.det k
theorem AnsTo.det {W : WoS} {line : ByteArray} {A B : WoS} {s t : List UInt8} (h : AnsTo W line A s) (k : AnsTo W line B t) : A = B ∧ s = t := by
  unfold AnsTo at h k
  split at h <;> rename_i q <;> rw [q] at k
  · exact ⟨h.1.trans k.1.symm, h.2.trans k.2.symm⟩
  · split at h <;> rename_i r <;> simp only [r] at k
    · exact ⟨h.1.trans k.1.symm, h.2.trans k.2.symm⟩
    · obtain ⟨e, x, hx, rfl⟩ := h
      obtain ⟨f, y, hy, rfl⟩ := k
      obtain ⟨rfl, rfl, rfl⟩ := hx.det hy
      exact ⟨rfl, rfl⟩
theorem TalkTo.det {W A : WoS} {l : List ByteArray} {s : List UInt8} (h : TalkTo W l s A) : ∀ {B : WoS} {t : List UInt8}, TalkTo W l t B → A = B ∧ s = t := by
  induction h with
  | nil =>
    intro B t k
    generalize hl : ([] : List ByteArray) = l at k
    cases k with
    | nil => exact ⟨rfl, rfl⟩
    | snoc => simp at hl
  | @snoc W1 W2 l out told x h1 h2 ih =>
    intro B t k
    generalize hl : l ++ [x] = m at k
    cases k with
    | nil => simp at hl
    | snoc k1 k2 =>
      obtain ⟨e1, e2⟩ := List.append_inj' hl rfl
      cases e2
      subst e1
      obtain ⟨rfl, rfl⟩ := ih k1
      obtain ⟨rfl, rfl⟩ := h2.det k2
      exact ⟨rfl, rfl⟩
theorem TalkTo.cut {W B : WoS} {l : List ByteArray} {t : List UInt8} (h : TalkTo W l t B) : ∀ m r, l = m ++ r → ∃ s A u, TalkTo W m s A ∧ t = s ++ u := by
  induction h with
  | nil =>
    intro m r e
    obtain ⟨rfl, rfl⟩ := List.append_eq_nil_iff.1 e.symm
    exact ⟨_, _, [], .nil, rfl⟩
  | @snoc W1 W2 l out told x h1 h2 ih =>
    intro m r e
    rcases List.eq_nil_or_concat r with rfl | ⟨r', y, rfl⟩
    · rw [List.append_nil] at e
      rw [← e]
      exact ⟨_, _, [], .snoc h1 h2, by simp⟩
    · rw [List.concat_eq_append, ← List.append_assoc] at e
      obtain ⟨e1, _⟩ := List.append_inj' e rfl
      obtain ⟨s, A, u, k1, k2⟩ := ih m r' e1
      exact ⟨s, A, u ++ told ++ [10], k1, by rw [k2]; simp⟩
end
section
open Go.RowKit
section
variable {W W' : WoS} {j : Nat}
theorem PlI.bring (hb : BringTo W W') : PlI j W → PlI j W' := by
  induction hb with
  | none _ => exact id
  | step _ hd _ ih => exact fun h => ih (h.deliver hd)
theorem PlI.asks {k m : Nat} (ha : AsksTo k m W W') : PlI j W → k < W.n → m ≤ W.n → PlI j W' := by
  induction ha with
  | zero => exact fun h _ _ => h
  | self _ _ ih => exact fun h hk hm => ih h hk (by omega)
  | @ask W W1 W' m h1 hne hb ih =>
    intro h hk hm
    have i1 := ih h hk (by omega)
    have hn : W1.n = W.n := h1.keep.n
    exact PlI.bring hb (i1.send (g := ⟨m, .ask k (W1.S k).a0 (W1.S k).a1 (W1.S k).a2 (W1.S k).a3⟩) (by show m < W1.n; omega) (by show 0 ≤ (k : Int) ∧ (k : Int) < (W1.n : Int); omega))
theorem PlI.round {m : Nat} (hr : RoundTo m W W') : PlI j W → m ≤ W.n → PlI j W' := by
  induction hr with
  | zero => exact fun h _ => h
  | @next W W1 W' m h1 h2 ih =>
    intro h hm
    have hn : W1.n = W.n := h1.keep.n
    exact PlI.asks h2 (ih h (by omega)) (by omega) (Nat.le_refl _)
theorem PlI.calm (h : PlI j W) (hc : CalmTo W W') : PlI j W' := by
  obtain ⟨W1, h1, h2⟩ := hc
  exact PlI.round h2 (PlI.bring h1 h) (Nat.le_refl _)
theorem wrap_in (x : Int) : wfI (wrap64 x) := by
  unfold wfI wrap64
  omega
theorem lost_send {g : GrS} (h : wfI W.lost) : wfI (sendW W g).lost := by
  unfold sendW
  split
  · exact wrap_in _
  · exact h
theorem lost_tell {t : TxP} : ∀ (k : Nat) {W : WoS}, wfI W.lost → wfI (tellW t k W).lost
  | 0, _, h => h
  | k + 1, _, h => by
    unfold tellW
    split
    · exact lost_tell k h
    · exact lost_send (lost_tell k h)
theorem lost_sends {o : Nat} : ∀ (l : List TxP) {W : WoS}, wfI W.lost → wfI (sendsW o l W).lost
  | [], _, h => h
  | t :: l, _, h => by
    unfold sendsW
    refine lost_sends l ?_
    split
    · exact h
    · exact lost_send h
theorem lost_come {g : GrS} (hc : ComeTo W g W') (h : wfI W.lost) : wfI W'.lost := by
  unfold ComeTo at hc
  split at hc
  · obtain ⟨S', _, rfl⟩ := hc
    exact h
  · split at hc
    · rw [hc]
      exact lost_sends _ h
    · rw [hc]; exact h
theorem lost_deliver {i : Nat} (hd : DeliverTo W i W') (h : wfI W.lost) : wfI W'.lost := by
  obtain ⟨g, _, hc⟩ := hd
  exact lost_come hc h
theorem lost_bring (hb : BringTo W W') : wfI W.lost → wfI W'.lost := by
  induction hb with
  | none _ => exact id
  | step _ hd _ ih => exact fun h => ih (lost_deliver hd h)
theorem lost_asks {k m : Nat} (ha : AsksTo k m W W') : wfI W.lost → wfI W'.lost := by
  induction ha with
  | zero => exact id
  | self _ _ ih => exact ih
  | ask _ _ hb ih => exact fun h => lost_bring hb (lost_send (ih h))
theorem lost_round {m : Nat} (hr : RoundTo m W W') : wfI W.lost → wfI W'.lost := by
  induction hr with
  | zero => exact id
  | next _ h2 ih => exact fun h => lost_asks h2 (ih h)
theorem lost_calm (hc : CalmTo W W') (h : wfI W.lost) : wfI W'.lost := by
  obtain ⟨W1, h1, h2⟩ := hc
  exact lost_round h2 (lost_bring h1 h)
end
/-- a session's numbers are small, its texts are short -/
structure SesI (s : SesS) : Prop where
  p0 : small s.p0
  p1 : small s.p1
  p2 : small s.p2
  p3 : small s.p3
  s0 : small s.s0
  s1 : small s.s1
  s2 : small s.s2
  s3 : small s.s3
  ws : ∀ x ∈ s.ws, x.data.size ≤ 12
theorem small_max {a b : Int} (h : small a) (k : small b) : small (maxZ a b) := by unfold maxZ; split <;> assumption
theorem small0 : small 0 := ⟨by decide, by decide⟩
theorem SesI.new : SesI newSes := ⟨small0, small0, small0, small0, small0, small0, small0, small0, fun _ h => (by cases h)⟩
theorem SesI.begin {S : SiteS} {s : SesS} (h : SesI s) (hI : InvS S) : SesI (begS S s) := by
  unfold begS
  split
  · exact ⟨h.p0, h.p1, h.p2, h.p3, hI.a0, hI.a1, hI.a2, hI.a3, fun _ h => (by cases h)⟩
  · exact h
theorem SesI.write {s : SesS} (h : SesI s) (x : Wr) : SesI (wriS s x) := by
  unfold wriS
  split
  · rename_i q
    refine ⟨h.p0, h.p1, h.p2, h.p3, h.s0, h.s1, h.s2, h.s3, fun y hy => ?_⟩
    rcases List.mem_append.1 hy with r | r
    · exact h.ws y r
    · rw [List.mem_singleton.1 r]
      unfold wriE at q
      repeat' split at q
      all_goals first | omega | (exfalso; revert q; decide)
  · exact h
theorem SesI.end_ {s : SesS} (h : SesI s) : SesI (endS s) := ⟨small_max h.p0 h.s0, small_max h.p1 h.s1, small_max h.p2 h.s2, small_max h.p3 h.s3, small0, small0, small0, small0, fun _ h => (by cases h)⟩
theorem SesI.abort {s : SesS} (h : SesI s) : SesI (aboS s) := by
  unfold aboS
  split
  · exact h
  · exact h.end_
theorem SesI.atLeast {s : SesS} (h : SesI s) {site seq : Int} (hq : small seq) : SesI (atLeast site seq s) := by
  refine ⟨?_, ?_, ?_, ?_, h.s0, h.s1, h.s2, h.s3, h.ws⟩
  · show small (if site = 0 then maxZ s.p0 seq else s.p0); split; exact small_max h.p0 hq; exact h.p0
  · show small (if site = 1 then maxZ s.p1 seq else s.p1); split; exact small_max h.p1 hq; exact h.p1
  · show small (if site = 2 then maxZ s.p2 seq else s.p2); split; exact small_max h.p2 hq; exact h.p2
  · show small (if site = 3 then maxZ s.p3 seq else s.p3); split; exact small_max h.p3 hq; exact h.p3
theorem SesI.commit {S : SiteS} {s : SesS} {now : Int} (h : SesI s) (hq : small (scomT S s now).seq) : SesI (scomSes S s now) := by
  unfold scomSes
  split
  · exact h
  · split
    · exact h.end_
    · exact h.end_.atLeast hq
/-- what is always so -/
structure DkI (W : WoS) : Prop where
  pl : ∃ j, PlI j W
  ses : ∀ k, k < W.c → SesI (W.ses k)
  lost : wfI W.lost
section
variable {W W' : WoS} {k : Nat}
theorem DkI.new {n c : Nat} (h1 : 1 ≤ n) (h4 : n ≤ 4) (h6 : c ≤ 6) : DkI (newW n c) := ⟨⟨0, PlI.new h1 h4 h6⟩, fun _ _ => SesI.new, (by show wfI 0; exact ⟨by decide, by decide⟩)⟩
theorem DkI.set {s' : SesS} (h : DkI W) (hp : ∃ j, PlI j (setSes W k s')) (hs : SesI s') : DkI (setSes W k s') := ⟨hp, fun i hi => by
  show SesI (setN W.ses k s' i)
  by_cases q : i = k
  · rw [q, setN_same]; exact hs
  · rw [setN_ne _ _ q]; exact h.ses i hi, h.lost⟩
theorem wcT_small (h : DkI W) (hk : k < W.c) : small (wcT W k).seq := by
  by_cases q : 0 < (wcT W k).seq
  · obtain ⟨j, hj⟩ := h.pl
    have := (hj.told hk q).1
    simp only [okT, okTx, Bool.and_eq_true, inB_iff] at this
    exact ⟨by omega, by omega⟩
  · unfold wcT scomT at q ⊢
    split at q
    · rename_i e; rw [if_pos e]; exact small0
    · rename_i e
      rw [if_neg e]
      unfold comT at q ⊢
      split at q
      · rename_i f
        rw [if_pos f]
        exfalso
        apply q
        obtain ⟨j, hj⟩ := h.pl
        have hI := hj.wf.inv _ (hj.wf.at_ k hk)
        have := commit_okT (ws := allW (W.ses k).ws) hI f
        simp only [okT, okTx, Bool.and_eq_true, inB_iff] at this
        have := this.1.1.1.1.2.1
        omega
      · rename_i f; rw [if_neg f]; exact small0
theorem DkI.cmd {i : Nat} {l : List Int} {d : ByteArray} {er : Int} {t : List UInt8} (h : DkI W) (hc : CmdTo i W l d W' er t) : DkI W' := by
  obtain ⟨j, hj⟩ := h.pl
  unfold CmdTo at hc
  split at hc
  case h_1 k =>
    obtain ⟨_, hc⟩ := hc
    split at hc
    · rename_i q
      have hk : k.toNat < W.c := by have := q.1; have := q.2; omega
      rw [hc.1]
      exact h.set ⟨_, hj.abort hk⟩ (h.ses _ hk).abort
    · rw [hc.1]; exact h
  case h_2 k o =>
    obtain ⟨_, hc⟩ := hc
    split at hc
    · rename_i q
      rw [hc.1]
      exact ⟨⟨j, hj.send (g := ⟨o.toNat, .ask k.toNat (W.S k.toNat).a0 (W.S k.toNat).a1 (W.S k.toNat).a2 (W.S k.toNat).a3⟩) (by show o.toNat < W.n; have := q.2.1.1; have := q.2.1.2; omega) (by show 0 ≤ (k.toNat : Int) ∧ (k.toNat : Int) < (W.n : Int); have := q.1.1; have := q.1.2; omega)⟩, by rw [show (askW W k.toNat o.toNat).c = W.c from (sendW_same _ _).c, show (askW W k.toNat o.toNat).ses = W.ses from (sendW_same _ _).ses]; exact h.ses, lost_send h.lost⟩
    · rw [hc.1]; exact h
  case h_3 k =>
    obtain ⟨_, hc⟩ := hc
    split at hc
    · rename_i q
      have hk : k.toNat < W.c := by have := q.1; have := q.2; omega
      rw [hc.1]
      exact h.set ⟨_, hj.begin hk⟩ ((h.ses _ hk).begin (hj.wf.inv _ (hj.wf.at_ _ hk)))
    · rw [hc.1]; exact h
  case h_4 => exact ⟨⟨j, hj.calm hc.2.1⟩, by rw [hc.2.1.keep.c, hc.2.1.keep.ses]; exact h.ses, lost_calm hc.2.1 h.lost⟩
  case h_5 => rw [hc.1]; exact h
  case h_6 k =>
    split at hc
    · rename_i q
      have hk : k.toNat < W.c := by have := q.1; have := q.2; omega
      rw [hc.2.1]
      have h0 : ∀ i, i < W.c → SesI ((wcW0 W k.toNat).ses i) := fun i hi => by
        show SesI (setN W.ses k.toNat _ i)
        by_cases e : i = k.toNat
        · rw [e, setN_same]; exact (h.ses _ hk).commit (wcT_small h hk)
        · rw [setN_ne _ _ e]; exact h.ses i hi
      refine ⟨⟨j, hj.commit hk⟩, ?_, ?_⟩
      · unfold wcW
        split
        · rw [(tellW_same _ _ _).c, (tellW_same _ _ _).ses]; exact h0
        · exact h0
      · unfold wcW
        split
        · exact lost_tell _ h.lost
        · exact h.lost
    · rw [hc.2.1]; exact h
  case h_7 k =>
    obtain ⟨_, hc⟩ := hc
    split at hc
    · exact ⟨⟨j, hj.deliver hc.1⟩, by rw [hc.1.keep.c, hc.1.keep.ses]; exact h.ses, lost_deliver hc.1 h.lost⟩
    · rw [hc.1]; exact h
  case h_8 k key =>
    obtain ⟨_, hc⟩ := hc
    split at hc
    · rename_i q
      have hk : k.toNat < W.c := by have := q.1; have := q.2; omega
      rw [hc.1]
      exact h.set ⟨_, hj.write hk _⟩ ((h.ses _ hk).write _)
    · rw [hc.1]; exact h
  case h_9 k y =>
    obtain ⟨_, hc⟩ := hc
    split at hc
    · rename_i q
      rw [hc.1]
      exact ⟨⟨j, hj.goes q.2.1 (by have := q.1.1; have := q.1.2; omega)⟩, h.ses, h.lost⟩
    · rw [hc.1]; exact h
  case h_10 => rw [hc.2.1]; exact h
  case h_11 k =>
    obtain ⟨_, hc⟩ := hc
    split at hc
    · rw [hc.1]
      exact ⟨⟨j, hj.drop _⟩, h.ses, h.lost⟩
    · rw [hc.1]; exact h
  case h_12 => rw [hc.2.1]; exact h
  case h_13 k to_ =>
    obtain ⟨_, hc⟩ := hc
    split at hc
    · rename_i q
      rw [hc.1]
      refine ⟨⟨j, hj.move (by have := q.2.1; have := q.2.2; omega)⟩, ?_, ?_⟩ <;> unfold moveW <;> split <;> first | exact h.ses | exact h.lost
    · rw [hc.1]; exact h
  case h_14 => rw [hc.1]; exact h
  case h_15 => rw [hc.1]; exact h
  case h_16 k =>
    obtain ⟨_, hc⟩ := hc
    split at hc
    · rename_i q
      rw [hc.1]
      exact ⟨⟨j, hj.sweep (by have := q.1; have := q.2; omega)⟩, h.ses, h.lost⟩
    · rw [hc.1]; exact h
  case h_17 k =>
    obtain ⟨_, hc⟩ := hc
    split at hc
    · obtain ⟨⟨g, hg, rfl⟩, _⟩ := hc
      exact ⟨⟨j, hj.send (hj.wf.to g (List.mem_of_getElem? hg)) (hj.nt g (List.mem_of_getElem? hg))⟩, by rw [(sendW_same _ _).c, (sendW_same _ _).ses]; exact h.ses, lost_send h.lost⟩
    · rw [hc.1]; exact h
  case h_18 n c =>
    obtain ⟨_, hc⟩ := hc
    split at hc
    · rename_i q
      rw [hc.1]
      exact DkI.new (by omega) (by omega) (by omega)
    · rw [hc.1]; exact h
  case h_19 k key =>
    obtain ⟨_, hc⟩ := hc
    split at hc
    · rename_i q
      have hk : k.toNat < W.c := by have := q.1; have := q.2; omega
      rw [hc.1]
      exact h.set ⟨_, hj.write hk _⟩ ((h.ses _ hk).write _)
    · rw [hc.1]; exact h
  case h_20 => exact hc.elim
theorem DkI.does {i : Nat} {rest : List ByteArray} {er : Int} {t : List UInt8} (h : DkI W) (hd : DoTo i W rest W' er t) : DkI W' := by
  unfold DoTo at hd
  split at hd
  · rw [hd.1]; exact h
  · exact h.cmd hd
end
end
/-- cut at every line feed -/
def linesL : List UInt8 → List (List UInt8)
  | [] => [[]]
  | c :: r => if c = 10 then [] :: linesL r else
    match linesL r with
    | h :: t => (c :: h) :: t
    | [] => [[c]]
/-- a text's lines: a line feed at its end begins no other -/
def linesT (s : List UInt8) : List (List UInt8) := linesL (Lib.trimSuffix s [10])
theorem linesL_ne (s : List UInt8) : linesL s ≠ [] := by
  cases s with
  | nil => simp [linesL]
  | cons c r =>
    unfold linesL
    split
    · simp
    · split <;> simp
theorem linesL_cons (c : UInt8) (r : List UInt8) : linesL (c :: r) = if c = 10 then [] :: linesL r else match linesL r with | h :: t => (c :: h) :: t | [] => [[c]] := rfl
theorem linesL_app (s t : List UInt8) : linesL (s ++ 10 :: t) = linesL s ++ linesL t := by
  induction s with
  | nil => simp [linesL]
  | cons c r ih =>
    rw [List.cons_append, linesL_cons, linesL_cons c r]
    by_cases e : c = 10
    · rw [if_pos e, if_pos e, ih]; rfl
    · rw [if_neg e, if_neg e, ih]
      cases h : linesL r with
      | nil => exact absurd h (linesL_ne r)
      | cons x y => rfl
theorem trim_nl (a : List UInt8) : Lib.trimSuffix (a ++ [10]) [10] = a := by
  unfold Lib.trimSuffix
  rw [if_pos (by simp [Lib.hasSuffix])]
  simp
theorem trim_app (a b : List UInt8) (hb : b ≠ []) : Lib.trimSuffix (a ++ b) [10] = a ++ Lib.trimSuffix b [10] := by
  obtain ⟨c, x, rfl⟩ : ∃ c x, b = c ++ [x] := by
    rcases List.eq_nil_or_concat b with e | ⟨c, x, e⟩
    · exact absurd e hb
    · exact ⟨c, x, by simpa using e⟩
  by_cases e : x = 10
  · subst e
    rw [← List.append_assoc, trim_nl, trim_nl]
  · unfold Lib.trimSuffix
    have no : ∀ z : List UInt8, ¬ Lib.hasSuffix (z ++ [x]) [10] = true := fun z q => by
      have q1 := List.isSuffixOf_iff_suffix.1 q
      obtain ⟨u, hu⟩ := q1
      have := List.append_inj_right' hu rfl
      injection this with this
      exact e this.symm
    rw [if_neg (by rw [← List.append_assoc]; exact no _), if_neg (no _)]
theorem linesT_cut (a b : List UInt8) : ∃ r, linesT (a ++ 10 :: b) = linesT (a ++ [10]) ++ r := by
  unfold linesT
  rw [trim_nl]
  by_cases h : b = []
  · subst h
    exact ⟨[], by rw [trim_nl, List.append_nil]⟩
  · refine ⟨linesL (Lib.trimSuffix b [10]), ?_⟩
    rw [show a ++ 10 :: b = (a ++ [10]) ++ b by simp, trim_app _ _ h, List.append_assoc, List.singleton_append, linesL_app]
theorem cut_nil : Lib.cut [] [10] = ([], [], false) := by decide
theorem cut_cons (c : UInt8) (r : List UInt8) : Lib.cut (c :: r) [10] = if c = 10 then ([], r, true) else (c :: (Lib.cut r [10]).1, (Lib.cut r [10]).2.1, (Lib.cut r [10]).2.2) := by
  have hx : Lib.index (c :: r) [10] = if c = 10 then 0 else if Lib.index r [10] == -1 then -1 else Lib.index r [10] + 1 := by
    conv => lhs; unfold Lib.index
    by_cases e : c = 10
    · simp [e, List.isPrefixOf]
    · simp [e, List.isPrefixOf, Ne.symm e]
  have hg := Lib.index_ge r [10]
  unfold Lib.cut
  rw [hx]
  by_cases e : c = 10
  · simp [e]
  · rw [if_neg e, if_neg e]
    by_cases q : Lib.index r [10] = -1
    · simp [q]
    · have q0 : 0 ≤ Lib.index r [10] := by omega
      rw [if_neg (show ¬ (Lib.index r [10] == -1) = true by simp [q]), if_pos (show 0 ≤ Lib.index r [10] + 1 by omega), if_pos q0, show (Lib.index r [10] + 1).toNat = (Lib.index r [10]).toNat + 1 by omega]
      simp
theorem linesL_cut (s : List UInt8) : linesL s = if (Lib.cut s [10]).2.2 = true then (Lib.cut s [10]).1 :: linesL (Lib.cut s [10]).2.1 else [(Lib.cut s [10]).1] := by
  induction s with
  | nil => rw [cut_nil]; rfl
  | cons c r ih =>
    rw [linesL_cons, cut_cons]
    by_cases e : c = 10
    · simp [e]
    · rw [if_neg e, if_neg e, ih]
      by_cases q : (Lib.cut r [10]).2.2 = true
      · simp [q]
      · simp [q]
theorem cut_less (s : List UInt8) (h : (Lib.cut s [10]).2.2 = true) : (Lib.cut s [10]).2.1.length < s.length := by
  induction s with
  | nil => rw [cut_nil] at h; cases h
  | cons c r ih =>
    rw [cut_cons] at h ⊢
    by_cases e : c = 10
    · simp [e]
    · rw [if_neg e] at h ⊢
      have := ih h
      simp only [List.length_cons]
      omega
def leBy (x y : List UInt8) : Bool := decide (x ≤ y)
theorem cmdN_sorted : cmdN.Pairwise (fun x y => leBy x y = true) := by decide
theorem sort_cmd {ss : List (List UInt8)} (h : ss.Perm cmdN) : ss.mergeSort (fun x y => decide (x ≤ y)) = cmdN := by
  have ht : ∀ a b c : List UInt8, decide (a ≤ b) = true → decide (b ≤ c) = true → decide (a ≤ c) = true := fun a b c h1 h2 => decide_eq_true (List.le_trans (of_decide_eq_true h1) (of_decide_eq_true h2))
  have hl : ∀ a b : List UInt8, (decide (a ≤ b) || decide (b ≤ a)) = true := fun a b => by
    rcases List.le_total a b with q | q <;> simp [q]
  have hp := List.pairwise_mergeSort ht hl ss
  have hq := (List.mergeSort_perm ss (fun x y => decide (x ≤ y))).trans h
  exact hq.eq_of_pairwise (fun a b _ _ h1 h2 => List.le_antisymm (of_decide_eq_true h1) (of_decide_eq_true h2)) hp cmdN_sorted
end Go.Proofs.YtoanjdndmlffdaaGreatDoor
