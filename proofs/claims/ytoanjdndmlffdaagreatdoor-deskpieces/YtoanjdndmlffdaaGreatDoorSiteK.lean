import Derived.Test.YtoanjdndmlffdaaGreatDoorWoL
import Derived.Test.YtoanjdndmlffdaaGreatDoorTellB
import Derived.Lib.AppendIntMem
import Derived.Test.YtoanjdndmlffdaaGreatDoorWoQ
import Derived.Test.YtoanjdndmlffdaaGreatDoorWoP
import Derived.Lib.ItoaLen
namespace Go.Proofs.YtoanjdndmlffdaaGreatDoor
section
open Go.RowKit
abbrev bya (l : List UInt8) : ByteArray := ⟨l.toArray⟩
/-- a word's number, if the word is the one way to write it -/
def numW (s : ByteArray) : Option Int :=
  match Lib.parseIntB 64 s.data.toList with
  | .ok v => if bya (Lib.itoa v) = s then some v else none
  | _ => none
def numsW : List ByteArray → Option (List Int)
  | [] => some []
  | s :: l => match numW s with
    | none => none
    | some v => match numsW l with
      | none => none
      | some r => some (v :: r)
/-- just so many numbers -/
def numsN (m : Nat) (l : List ByteArray) : Option (List Int) := if l.length = m then numsW l else none
/-- numbers with a blank between -/
def blkd (l : List Int) : List UInt8 := Lib.join (l.map Lib.itoa) [32]
/-- there is such a one -/
abbrev There (k : Int) (n : Nat) : Prop := 0 ≤ k ∧ k < (n : Int)

/-- the first words, in their order -/
def cmdN : List (List UInt8) := [[97, 98, 111, 114, 116], [97, 115, 107], [98, 101, 103, 105, 110], [99, 97, 108, 109], [99, 108, 105, 101, 110, 116], [99, 111, 109, 109, 105, 116], [100, 101, 108, 105, 118, 101, 114], [100, 114, 111, 112], [103, 111, 101, 115], [104, 101, 108, 112], [108, 111, 115, 101], [109, 97, 110, 121], [109, 111, 118, 101], [114, 101, 97, 100], [115, 105, 116, 101], [115, 119, 101, 101, 112], [116, 119, 105, 99, 101], [119, 111, 114, 108, 100], [119, 114, 105, 116, 101]]
def nameOf (i : Nat) : List UInt8 := cmdN.getD i []
/-- how many numbers stand behind a first word -/
def arity (i : Nat) : Nat := [1, 2, 1, 0, 1, 1, 1, 2, 2, 0, 1, 0, 2, 2, 1, 1, 1, 2, 2].getD i 0
def cstTold (W : WoS) (k : Nat) : List UInt8 := if (wcT W k).seq = 0 then [110, 111, 116, 104, 105, 110, 103] else blkd [(wcT W k).site, (wcT W k).seq, (wcT W k).wall, (wcT W k).count] ++ [58, 32] ++ blkd [(wcT W k).d0, (wcT W k).d1, (wcT W k).d2, (wcT W k).d3]
def cliTold (W : WoS) (k : Nat) : List UInt8 := blkd [(W.at_ k : Int)] ++ [44, 32] ++ blkd [(W.ses k).p0, (W.ses k).p1, (W.ses k).p2, (W.ses k).p3] ++ if (W.ses k).opn = true then [44, 32] ++ blkd [(W.ses k).s0, (W.ses k).s1, (W.ses k).s2, (W.ses k).s3] else []
def siteTexts (S : SiteS) : List (List UInt8) := (List.range 8).map fun (i : Nat) => (toldV S.a0 S.a1 S.a2 S.a3 S.l i).data.toList
def siteTold (S : SiteS) : List UInt8 := blkd [S.a0, S.a1, S.a2, S.a3] ++ [44, 32] ++ blkd [(S.waits.length : Int), (S.l.length : Int)] ++ [44, 32] ++ Lib.join (siteTexts S) [32]
/-- what a command does with its numbers, and a text: what the world is then, the error, what is told -/
def CmdTo (i : Nat) (W : WoS) (l : List Int) (d : ByteArray) (W' : WoS) (er : Int) (told : List UInt8) : Prop :=
  match i, l with
  | 0, [k] => told = nameOf 0 ∧ if There k W.c then W' = setSes W k.toNat (aboS (W.ses k.toNat)) ∧ er = aboE (W.ses k.toNat) else W' = W ∧ er = 2
  | 1, [k, o] => told = nameOf 1 ∧ if There k W.n ∧ There o W.n ∧ k ≠ o then W' = askW W k.toNat o.toNat ∧ er = 0 else W' = W ∧ er = 2
  | 2, [k] => told = nameOf 2 ∧ if There k W.c then W' = setSes W k.toNat (begS (W.S (W.at_ k.toNat)) (W.ses k.toNat)) ∧ er = begE (W.S (W.at_ k.toNat)) (W.ses k.toNat) else W' = W ∧ er = 2
  | 3, [] => told = nameOf 3 ∧ CalmTo W W' ∧ er = 0
  | 4, [k] => W' = W ∧ if There k W.c then told = cliTold W k.toNat ∧ er = 0 else told = [] ∧ er = 2
  | 5, [k] => if There k W.c then told = cstTold W k.toNat ∧ W' = wcW W k.toNat ∧ er = wcE W k.toNat else told = [] ∧ W' = W ∧ er = 2
  | 6, [k] => told = nameOf 6 ∧ if There k W.net.length then DeliverTo W k.toNat W' ∧ er = 0 else W' = W ∧ er = 2
  | 7, [k, key] => told = nameOf 7 ∧ if There k W.c then W' = setSes W k.toNat (wriS (W.ses k.toNat) ⟨key, ⟨#[]⟩, true⟩) ∧ er = wriE (W.ses k.toNat) ⟨key, ⟨#[]⟩, true⟩ else W' = W ∧ er = 2
  | 8, [k, y] => told = nameOf 8 ∧ if There k W.n ∧ 0 ≤ y ∧ y ≤ 1099511627776 then W' = goesW W k.toNat y ∧ er = 0 else W' = W ∧ er = 2
  | 9, [] => told = Lib.join cmdN [32] ∧ W' = W ∧ er = 0
  | 10, [k] => told = nameOf 10 ∧ if There k W.net.length then W' = dropW' W k.toNat ∧ er = 0 else W' = W ∧ er = 2
  | 11, [] => told = blkd [(W.net.length : Int), W.lost] ∧ W' = W ∧ er = 0
  | 12, [k, to] => told = nameOf 12 ∧ if There k W.c ∧ There to W.n then W' = moveW W k.toNat to.toNat ∧ er = moveE W k.toNat else W' = W ∧ er = 2
  | 13, [k, key] => W' = W ∧ if There k W.c then told = [105, 115, 32] ++ (sreadV (W.S (W.at_ k.toNat)) (W.ses k.toNat) key).1.data.toList ∧ er = (sreadV (W.S (W.at_ k.toNat)) (W.ses k.toNat) key).2 else told = [] ∧ er = 2
  | 14, [k] => W' = W ∧ if There k W.n then told = siteTold (W.S k.toNat) ∧ er = 0 else told = [] ∧ er = 2
  | 15, [k] => told = nameOf 15 ∧ if There k W.n then W' = sweepW W k.toNat ∧ er = 0 else W' = W ∧ er = 2
  | 16, [k] => told = nameOf 16 ∧ if There k W.net.length then (∃ g, W.net[k.toNat]? = some g ∧ W' = sendW W g) ∧ er = 0 else W' = W ∧ er = 2
  | 17, [n, c] => told = nameOf 17 ∧ if (1 ≤ n ∧ n ≤ 4) ∧ (0 ≤ c ∧ c ≤ 6) then W' = newW n.toNat c.toNat ∧ er = 0 else W' = W ∧ er = 2
  | 18, [k, key] => told = nameOf 18 ∧ if There k W.c then W' = setSes W k.toNat (wriS (W.ses k.toNat) ⟨key, d, false⟩) ∧ er = wriE (W.ses k.toNat) ⟨key, d, false⟩ else W' = W ∧ er = 2
  | _, _ => False
/-- .. with the words behind it -/
def DoTo (i : Nat) (W : WoS) (rest : List ByteArray) (W' : WoS) (er : Int) (told : List UInt8) : Prop :=
  match (if i = 18 then (if rest.length = 3 then numsN 2 (rest.take 2) else none) else numsN (arity i) rest) with
  | none => W' = W ∧ er = 3 ∧ told = []
  | some l => CmdTo i W l (rest.getD 2 ⟨#[]⟩) W' er told
def wordsB (s : ByteArray) : List ByteArray := Lib.goFieldsP (fun r => decide (r = 32)) s
def errT (n : Int) : List UInt8 := [101, 114, 114, 111, 114, 32] ++ Lib.itoa n
/-- a line's answer -/
def AnsTo (W : WoS) (line : ByteArray) (W' : WoS) (told : List UInt8) : Prop :=
  match wordsB line with
  | [] => W' = W ∧ told = [111, 107]
  | x :: rest => match cmdN.idxOf? x.data.toList with
    | none => W' = W ∧ told = errT 3
    | some i => ∃ er t, DoTo i W rest W' er t ∧ told = if er = 0 then t else errT er
/-- lines' answers, one behind the other -/
inductive TalkTo : WoS → List ByteArray → List UInt8 → WoS → Prop
  | nil {W : WoS} : TalkTo W [] [] W
  | snoc {W W1 W2 : WoS} {l : List ByteArray} {out told : List UInt8} {x : ByteArray} : TalkTo W l out W1 → AnsTo W1 x W2 told → TalkTo W (l ++ [x]) (out ++ told ++ [10]) W2

theorem CmdTo.det {i : Nat} {W : WoS} {l : List Int} {d : ByteArray} {A B : WoS} {e f : Int} {s t : List UInt8} (h : CmdTo i W l d A e s) (k : CmdTo i W l d B f t) : A = B ∧ e = f ∧ s = t := by
  unfold CmdTo at h k
  split at h <;> simp only at k
  case h_4 => exact ⟨h.2.1.det k.2.1, h.2.2.trans k.2.2.symm, h.1.trans k.1.symm⟩
  case h_7 =>
    refine (fun (x : A = B ∧ e = f) => ⟨x.1, x.2, h.1.trans k.1.symm⟩) ?_
    replace h := h.2
    replace k := k.2
    split at h <;> rename_i q
    · rw [if_pos q] at k
      exact ⟨h.1.det k.1, h.2.trans k.2.symm⟩
    · rw [if_neg q] at k
      exact ⟨h.1.trans k.1.symm, h.2.trans k.2.symm⟩
  case h_17 =>
    refine (fun (x : A = B ∧ e = f) => ⟨x.1, x.2, h.1.trans k.1.symm⟩) ?_
    replace h := h.2
    replace k := k.2
    split at h <;> rename_i q
    · rw [if_pos q] at k
      obtain ⟨⟨g, hg, rfl⟩, h2⟩ := h
      obtain ⟨⟨g', hg', rfl⟩, k2⟩ := k
      rw [hg] at hg'
      injection hg' with hg'
      rw [hg', h2, k2]
      exact ⟨rfl, rfl⟩
    · rw [if_neg q] at k
      exact ⟨h.1.trans k.1.symm, h.2.trans k.2.symm⟩
  all_goals first
    | exact h.elim
    | (obtain ⟨h1, h2⟩ := h; obtain ⟨k1, k2⟩ := k; split at h2 <;> rename_i q <;> first | rw [if_pos q] at k2 | rw [if_neg q] at k2) <;> simp only [h1, k1, h2.1, h2.2, k2.1, k2.2, and_self]
    | (split at h <;> rename_i q <;> first | rw [if_pos q] at k | rw [if_neg q] at k) <;> simp only [h.1, k.1, h.2.1, h.2.2, k.2.1, k.2.2, and_self]
    | simp only [h.1, k.1, h.2.1, h.2.2, k.2.1, k.2.2, and_self]
theorem DoTo.det {i : Nat} {W : WoS} {rest : List ByteArray} {A B : WoS} {e f : Int} {s t : List UInt8} (h : DoTo i W rest A e s) (k : DoTo i W rest B f t) : A = B ∧ e = f ∧ s = t := by
  unfold DoTo at h k
  split at h <;> rename_i q <;> rw [q] at k
  · exact ⟨h.1.trans k.1.symm, h.2.1.trans k.2.1.symm, h.2.2.trans k.2.2.symm⟩
  · exact h.det k
theorem AnsTo.det {W : WoS} {line : ByteArray} {A B : WoS} {s t : List UInt8} (h : AnsTo W line A s) (k : AnsTo W line B t) : A = B ∧ s = t := by
  unfold AnsTo at h k
  split at h <;> rename_i q <;> rw [q] at k
  · exact ⟨h.1.trans k.1.symm, h.2.trans k.2.symm⟩
  · split at h <;> rename_i r <;> simp only [r] at k
    · exact ⟨h.1.trans k.1.symm, h.2.trans k.2.symm⟩
    · obtain ⟨e, x, hx, rfl⟩ := h
      obtain ⟨f, y, hy, rfl⟩ := k
      obtain ⟨rfl, rfl, rfl⟩ := hx.det hy
      exact ⟨rfl, rfl⟩
theorem TalkTo.det {W A : WoS} {l : List ByteArray} {s : List UInt8} (h : TalkTo W l s A) : ∀ {B : WoS} {t : List UInt8}, TalkTo W l t B → A = B ∧ s = t := by
  induction h with
  | nil =>
    intro B t k
    generalize hl : ([] : List ByteArray) = l at k
    cases k with
    | nil => exact ⟨rfl, rfl⟩
    | snoc => simp at hl
  | @snoc W1 W2 l out told x h1 h2 ih =>
    intro B t k
    generalize hl : l ++ [x] = m at k
    cases k with
    | nil => simp at hl
    | snoc k1 k2 =>
      obtain ⟨e1, e2⟩ := List.append_inj' hl rfl
      cases e2
      subst e1
      obtain ⟨rfl, rfl⟩ := ih k1
      obtain ⟨rfl, rfl⟩ := h2.det k2
      exact ⟨rfl, rfl⟩
theorem TalkTo.cut {W B : WoS} {l : List ByteArray} {t : List UInt8} (h : TalkTo W l t B) : ∀ m r, l = m ++ r → ∃ s A u, TalkTo W m s A ∧ t = s ++ u := by
  induction h with
  | nil =>
    intro m r e
    obtain ⟨rfl, rfl⟩ := List.append_eq_nil_iff.1 e.symm
    exact ⟨_, _, [], .nil, rfl⟩
  | @snoc W1 W2 l out told x h1 h2 ih =>
    intro m r e
    rcases List.eq_nil_or_concat r with rfl | ⟨r', y, rfl⟩
    · rw [List.append_nil] at e
      rw [← e]
      exact ⟨_, _, [], .snoc h1 h2, by simp⟩
    · rw [List.concat_eq_append, ← List.append_assoc] at e
      obtain ⟨e1, _⟩ := List.append_inj' e rfl
      obtain ⟨s, A, u, k1, k2⟩ := ih m r' e1
      exact ⟨s, A, u ++ told ++ [10], k1, by rw [k2]; simp⟩
end
section
open Go.RowKit
/-- the package variables are as they are laid -/
structure Gl (w : World) : Prop where
  sz : 10 ≤ w.heap.size
  et : w.cell? ⟨3, 0, none⟩ = some (.iface 312 (.agg #[.pointer (some ⟨10, 37, none⟩)]))
  tab : Lib.TabIs Tryz.prog w "internal/strconv.uint64pow10" .u64 Lib.pow10Tab
  es : ∃ t p, w.cell? ⟨6, 0, none⟩ = some (.iface t p)
  er : ∃ t p, w.cell? ⟨7, 0, none⟩ = some (.iface t p)
  ml : ∃ m, w.cell? ⟨1, 0, none⟩ = some (.int .i64 m)
theorem tab_named : Tryz.prog.globalNamed "internal/strconv.uint64pow10" = some 2 := by kernel_rfl
theorem Gl.kept {w w' : World} (g : Gl w) (hk : ∀ k, k < 10 → w'.heap[k]? = w.heap[k]?) (hs : w.heap.size ≤ w'.heap.size) : Gl w' := by
  have c : ∀ {k : Nat} {v : Value}, k < 10 → w.cell? ⟨k, 0, none⟩ = some v → w'.cell? ⟨k, 0, none⟩ = some v := fun hlt h => by rw [World.cell?_of_block (w := w) (hk _ hlt)]; exact h
  obtain ⟨h1, h2, h3, ⟨t4, p4, h4⟩, ⟨t5, p5, h5⟩, m, h6⟩ := g
  refine ⟨Nat.le_trans h1 hs, c (by decide) h2, ?_, ⟨t4, p4, c (by decide) h4⟩, ⟨t5, p5, c (by decide) h5⟩, m, c (by decide) h6⟩
  unfold Lib.TabIs World.var? at h3 ⊢
  rw [tab_named] at h3 ⊢
  simp only [Option.bind_some] at h3 ⊢
  rw [hk _ (by decide)]
  exact h3
theorem Gl.later {w w' : World} (g : Gl w) (hb : Below w.heap.size w w') : Gl w' := g.kept (fun k hk => hb.block k (Nat.lt_of_lt_of_le hk g.sz)) hb.size
/-- an api.Errno is thrown -/
def thrown (n : Int) : Ending := .panicked [{ v := .iface 26 (.int .i64 n), recovered := false }]
def NumEnd (o : Option Int) (e : Ending) : Prop := match o with
  | some v => e = .returned (.int .i64 v)
  | none => e = thrown 3
theorem sh_itoa (v : Int) (h : wfI v) (w : World) (g : Gl w) : Calls Tryz.prog 18 #[.int .i64 v] w fun e w' => e = .returned (.string (bya (Lib.itoa v))) ∧ Below w.heap.size w w' :=
  (Tryz.strconv_Itoa v h.1 h.2 w g.tab).mono fun _ _ ⟨h1, k, os, h2⟩ => ⟨h1, by rw [h2]; exact Lib.below_grow _ w (Nat.le_refl _) k os⟩
theorem sh_format (v : Int) (h : wfI v) (w : World) (g : Gl w) : Calls Tryz.prog 76 #[.int .i64 v, .int .i64 10] w fun e w' => e = .returned (.string (bya (Lib.itoa v))) ∧ Below w.heap.size w w' :=
  (Tryz.strconv_FormatInt_10 v h.1 h.2 w g.tab).mono fun _ _ ⟨h1, k, os, h2⟩ => ⟨h1, by rw [h2]; exact Lib.below_grow _ w (Nat.le_refl _) k os⟩
theorem sh_parse (s : ByteArray) (hs : s.size ≤ 1000000) (v : Int) (h : Lib.parseIntB 64 s.data.toList = .ok v) (w : World) : Calls Tryz.prog 75 #[.string s, .int .i64 10, .int .i64 64] w fun e w' => e = .returned (.tuple #[.int .i64 v, .nilIface]) ∧ Below w.heap.size w w' :=
  (Tryz.strconv_ParseInt_10_at64_ok s (by omega) v h w).mono fun _ _ ⟨h1, h2⟩ => ⟨h1, by
    rcases h2 with rfl | ⟨t, rfl⟩
    · exact Below.refl _ _
    · exact Lib.bytesWorld_below _ _ _⟩

set_option maxHeartbeats 2000000 in
theorem number_any (s : ByteArray) (hs : s.size ≤ 1000000) (w : World) (g : Gl w) :
    Calls Tryz.prog 201 #[.string s] w fun e w' => NumEnd (numW s) e ∧ Below w.heap.size w w' := by
  by_cases hp : ∃ v, Lib.parseIntB 64 s.data.toList = .ok v
  · obtain ⟨v, hp⟩ := hp
    have hv : wfI v := by have := Lib.parseIntB_bounds hp; simp at this; exact ⟨by omega, by omega⟩
    have P1 := sh_parse s hs v hp w
    have HE : Hid (numW s = if bya (Lib.itoa v) = s then some v else none) := by show numW s = _; unfold numW; rw [hp]
    have F1 := fun w' hb => sh_format v hv w' (g.later (w' := w') hb)
    have hq := strB (bya (Lib.itoa v)) s
    clear hp
    generalize bya (Lib.itoa v) = t at HE F1 hq
    go_enter Tryz.func201, Tryz.ntmps201
    go_wp2_with fail
    refine P1.mono ?_
    rintro e w1 ⟨rfl, b1⟩
    replace F1 := F1 w1 b1
    by_cases he : t = s
    · have hq1 : (t.toList == s.toList) = true := by rw [hq]; simp [he]
      have HE2 : Hid (numW s = some v) := by show numW s = _; rw [HE.out, if_pos he]
      clear he hq HE
      go_wp2_with fail
      refine F1.mono ?_
      rintro e w2 ⟨rfl, b2⟩
      go_wp2
      go_ret
      exact ⟨by rw [HE2.out]; rfl, behind b1 b2⟩
    · have hq1 : (t.toList == s.toList) = false := by rw [hq]; simp [he]
      have HE2 : Hid (numW s = none) := by show numW s = _; rw [HE.out, if_neg he]
      clear he hq HE
      go_wp2_with fail
      refine F1.mono ?_
      rintro e w2 ⟨rfl, b2⟩
      go_wp2
      exact ⟨rfl, by rw [HE2.out]; rfl, behind b1 b2⟩
  · have hno : ∀ v, Lib.parseIntB 64 s.data.toList ≠ .ok v := fun v hv => hp ⟨v, hv⟩
    have P1 := Tryz.parse_no s (by omega) hno w g.es g.er
    have HE2 : Hid (numW s = none) := by
      show numW s = none
      unfold numW
      split
      · rename_i v hv; exact absurd hv (hno v)
      · rfl
    clear hp hno
    go_enter Tryz.func201, Tryz.ntmps201
    go_wp2_with fail
    refine P1.mono ?_
    rintro e w1 ⟨n, N, rfl, b1⟩
    go_wp2
    exact ⟨rfl, by rw [HE2.out]; rfl, b1⟩

/-- strings in memory, one behind the other -/
structure StrIn (w : World) (a : Option Addr) (cap : Nat) (l : List ByteArray) : Prop where
  cap : l.length ≤ cap
  cell : ∀ (j : Nat) x, l[j]? = some x → ∃ b o, a = some ⟨b, o, none⟩ ∧ b < w.heap.size ∧ w.cell? ⟨b, o + j, none⟩ = some (.string x)
theorem StrIn.later {w w' : World} {a : Option Addr} {cap : Nat} {l : List ByteArray} (h : StrIn w a cap l) (hb : Below w.heap.size w w') : StrIn w' a cap l :=
  ⟨h.cap, fun j x hx => by obtain ⟨b, o, h1, h2, h3⟩ := h.cell j x hx; exact ⟨b, o, h1, Nat.lt_of_lt_of_le h2 hb.size, (hb.cell (p := ⟨b, o + j, none⟩) h2).trans h3⟩⟩
theorem intInfo : (Tryz.prog.info? 3).map (fun i => (i.zero, i.size, i.bytes)) = some (some (.int .i64 0), 1, 8) := by kernel_rfl
theorem make_ints {n : Nat} (hn : n ≤ 6) (w : World) : (Instr.makeSlice 69 (.int .i64 n) (.int .i64 n)).run Tryz.prog w = .ok (.slice (some ⟨w.heap.size, 0, none⟩) n n) (w.alloc (.cells (madeCells #[.int .i64 0] n) 3)) :=
  run_make_row' _ 3 (.int .i64 0) 8 Tryz.underlying69 intInfo rfl .i64 .i64 n (by omega) (by omega) w
def intsV (l : List Int) : List Value := l.map (fun x => Value.int .i64 x)
/-- numbers, in a row of their own, or what is thrown -/
def NumsEnd (w : World) (o : Option (List Int)) (e : Ending) (w' : World) : Prop := match o with
  | some l => ∃ b, e = .returned (.slice (some ⟨b, 0, none⟩) l.length l.length) ∧ RowL w' b (intsV l) ∧ Below w.heap.size w w'
  | none => e = thrown 3 ∧ Below w.heap.size w w'
theorem numsW_take {l : List ByteArray} {k : Nat} {vs : List Int} (hk : k < l.length) (h : numsW (l.take k) = some vs) : numsW (l.take (k + 1)) = (numW l[k]).map (fun v => vs ++ [v]) := by
  induction l generalizing k vs with
  | nil => simp at hk
  | cons x l ih =>
    cases k with
    | zero =>
      simp [numsW] at h
      subst h
      simp [numsW]
      cases numW x <;> rfl
    | succ k =>
      simp only [List.take_succ_cons, numsW] at h ⊢
      cases hx : numW x with
      | none => rw [hx] at h; cases h
      | some v =>
        rw [hx] at h
        simp only at h ⊢
        cases hl : numsW (l.take k) with
        | none => rw [hl] at h; cases h
        | some r =>
          rw [hl] at h
          injection h with h
          subst h
          rw [ih (by simpa using hk) hl]
          simp only [List.getElem_cons_succ]
          cases numW (l[k]'(by simpa using hk)) <;> rfl
theorem numsW_none {l : List ByteArray} {k : Nat} (h : numsW (l.take k) = none) : numsW l = none := by
  induction l generalizing k with
  | nil => simpa using h
  | cons x l ih =>
    cases k with
    | zero => simp [numsW] at h
    | succ k =>
      simp only [List.take_succ_cons, numsW] at h ⊢
      cases hx : numW x with
      | none => rfl
      | some v =>
        rw [hx] at h
        simp only at h ⊢
        cases hl : numsW (l.take k) with
        | none => rw [ih hl]
        | some r => rw [hl] at h; cases h
theorem numsW_length : ∀ {l : List ByteArray} {vs : List Int}, numsW l = some vs → vs.length = l.length
  | [], vs, h => by simp [numsW] at h; subst h; rfl
  | x :: l, vs, h => by
    simp only [numsW] at h
    cases hx : numW x with
    | none => rw [hx] at h; cases h
    | some v =>
      rw [hx] at h
      simp only at h
      cases hl : numsW l with
      | none => rw [hl] at h; cases h
      | some r =>
        rw [hl] at h
        injection h with h
        subst h
        simp [numsW_length hl]

set_option maxHeartbeats 4000000 in
set_option maxRecDepth 100000 in
theorem dnumbers_any {a : Option Addr} {cap : Nat} {l : List ByteArray} {m : Nat} (hm : m ≤ 6) (hl : ∀ x ∈ l, x.size ≤ 1000000) (w : World) (g : Gl w) (h : StrIn w a cap l) :
    Calls Tryz.prog 140 #[.slice a l.length cap, .int .i64 m] w (NumsEnd w (numsN m l)) := by
  by_cases hlen : l.length = m
  · subst hlen
    have MK := make_ints hm w
    have HN : Hid (numsN l.length l = numsW l) := by show numsN l.length l = _; unfold numsN; rw [if_pos rfl]
    have hcap := h.cap
    have R0 : RowL (w.alloc (.cells (madeCells #[.int .i64 0] l.length) 3)) w.heap.size (List.replicate l.length (.int .i64 0)) := by
      have := RowL.new (w := w) (T := 3) (madeCells #[Value.int .i64 0] l.length).toList rfl
      rwa [Array.toArray_toList, toList_madeCells_one] at this
    have HH : Hid (StrIn w a cap l ∧ Gl w ∧ ∀ x ∈ l, x.size ≤ 1000000) := ⟨h, g, hl⟩
    have hb0 := boxed (Below.refl _ w) (.cells (madeCells #[.int .i64 0] l.length) 3)
    have H6 : Hid (l.length ≤ 6) := hm
    clear h g hl hm
    go_enter Tryz.func140, Tryz.ntmps140
    go_wp2
    go_loopw [17] (fun iv wr => ∃ (k : Nat) (z : Int) (vs : List Int), k ≤ l.length ∧ z = k ∧ iv = .int .i64 z ∧ Hid (numsW (l.take k) = some vs ∧ RowL wr w.heap.size (intsV vs ++ List.replicate (l.length - k) (.int .i64 0)) ∧ Below w.heap.size w wr)) (fun iv _ => l.length - (intOf iv).toNat)
    case atStart => exact ⟨0, 0, [], Nat.zero_le _, rfl, rfl, rfl, R0, hb0⟩
    case round =>
      clear R0 hb0 MK
      obtain ⟨k, z, vs, hk, hz, rfl, HS⟩ := hrel
      have HZ : Hid (z = k) := hz
      have hvl : vs.length = k := by rw [numsW_length HS.out.1, List.length_take]; omega
      by_cases hlt : k < l.length
      · have g1 : z < (l.length : Int) := by omega
        have g2 : 0 ≤ z := by omega
        have g3 : z.toNat = k := by omega
        have g4 : z < 6 := by have := H6.out; omega
        obtain ⟨x, hx⟩ : ∃ x, l[k]? = some x := ⟨_, List.getElem?_eq_getElem hlt⟩
        obtain ⟨hS, hg, hsz⟩ := HH.out
        obtain ⟨b, o, rfl, hb, hc⟩ := (hS.later HS.out.2.2).cell k x hx
        have NX : Hid (numsW (l.take (k + 1)) = (numW x).map (fun v => vs ++ [v])) := by
          have := numsW_take hlt HS.out.1
          rw [(List.getElem?_eq_some_iff.1 hx).2] at this
          exact this
        have NN := number_any x (hsz x (List.mem_of_getElem? hx)) wr (hg.later HS.out.2.2)
        clear hS hg hsz hz hx
        go_wp2_with fail
        refine NN.mono ?_
        rintro e w2 ⟨he, hb2⟩
        have hb3 := behind HS.out.2.2 hb2
        have R2 := HS.out.2.1.later hb2
        cases hn : numW x with
        | none =>
          rw [hn] at he
          have he' : e = .panicked [{ v := .iface 26 (.int .i64 3), recovered := false }] := he
          subst he'
          have e2 := NX.out
          rw [hn] at e2
          exact ⟨rfl, by unfold NumsEnd; rw [HN.out, numsW_none e2]; exact ⟨rfl, hb3⟩⟩
        | some v =>
          rw [hn] at he
          have he' : e = .returned (.int .i64 v) := he
          subst he'
          have hlen : (intsV vs ++ List.replicate (l.length - k) (Value.int .i64 0)).length = l.length := by simp [intsV]; omega
          have c0 : w2.cell? ⟨w.heap.size, k, none⟩ = some (.int .i64 0) := R2.cell k _ (by
            rw [List.getElem?_append_right (by simp [intsV, hvl]), show k - (intsV vs).length = 0 by simp [intsV, hvl], show l.length - k = (l.length - (k + 1)) + 1 by omega]
            rfl)
          have f0 := R2.free k (by rw [hlen]; exact hlt)
          have R3 : Hid (RowL (w2.setCell ⟨w.heap.size, k, none⟩ (.int .i64 v)) w.heap.size (intsV (vs ++ [v]) ++ List.replicate (l.length - (k + 1)) (.int .i64 0)) ∧ Below w.heap.size w (w2.setCell ⟨w.heap.size, k, none⟩ (.int .i64 v))) := by
            refine ⟨?_, hb3.setCell (p := ⟨w.heap.size, k, none⟩) (Nat.le_refl _) _⟩
            have := R2.set k (.int .i64 v) (by rw [hlen]; exact hlt)
            rw [List.set_append_right _ _ (by simp [intsV]; omega)] at this
            have e3 : l.length - k = (l.length - (k + 1)) + 1 := by omega
            rw [e3, List.replicate_succ] at this
            simpa [intsV, hvl] using this
          have HV : Hid (numsW (l.take (k + 1)) = some (vs ++ [v])) := by have e2 := NX.out; rw [hn] at e2; exact e2
          clear NX hn R2 hb3 hb2 hlen hvl
          go_wp2
          go_roundw
          case rel => exact ⟨k + 1, z + 1, vs ++ [v], hlt, by have := HZ.out; omega, by go_num, HV.out, R3.out.1, R3.out.2⟩
          case measure => simp [intOf]; omega
      · have g1 : ¬ z < (l.length : Int) := by omega
        have hkl : k = l.length := by omega
        have FIN : Hid (numsN l.length l = some vs ∧ RowL wr w.heap.size (intsV vs) ∧ Below w.heap.size w wr) := by
          have e1 := HS.out.1
          have e2 := HS.out.2.1
          rw [hkl, List.take_length] at e1
          rw [hkl, Nat.sub_self, List.replicate_zero, List.append_nil] at e2
          exact ⟨HN.out.trans e1, e2, HS.out.2.2⟩
        have HL : Hid (vs.length = l.length) := hvl.trans hkl
        clear hz hkl HS HN hvl
        go_wp2
        go_ret
        unfold NumsEnd
        rw [FIN.out.1]
        exact ⟨w.heap.size, by simp [HL.out], FIN.out.2.1, FIN.out.2.2⟩
  · have HN : Hid (numsN m l = none) := by show numsN m l = none; unfold numsN; rw [if_neg hlen]
    have hne : ¬ (l.length : Int) = (m : Int) := by omega
    clear h g hl hlen
    go_enter Tryz.func140, Tryz.ntmps140
    go_wp2
    exact ⟨rfl, by unfold NumsEnd; rw [HN.out]; exact ⟨rfl, Below.refl _ _⟩⟩
end
section
open Go.RowKit
section
variable {w : World} {b : Nat} {G : Nat → Prop} {W : WoS}
theorem PW.lens (h : PW w b G W) : ∃ a0 k0 a1 k1 a2 k2, w.cell? ⟨b, 0, none⟩ = some (.slice a0 W.n k0) ∧ w.cell? ⟨b, 1, none⟩ = some (.slice a1 W.c k1) ∧ w.cell? ⟨b, 2, none⟩ = some (.slice a2 W.net.length k2) ∧ w.cell? ⟨b, 3, none⟩ = some (.int .i64 W.lost) ∧ b < w.heap.size := by
  obtain ⟨M, Gs, h, _⟩ := h
  obtain ⟨a0, k0, e0, _⟩ := rowIn_own h.pr
  obtain ⟨a1, k1, e1, _⟩ := rowIn_own h.cr
  obtain ⟨a2, k2, e2, _⟩ := rowIn_own h.nr
  have hl : M.l.length = W.net.length := by rw [← h.nl]; simp
  have c0 := h.box.cell 0 _ rfl
  have c1 := h.box.cell 1 _ rfl
  have c2 := h.box.cell 2 _ rfl
  rw [e0] at c0
  rw [e1] at c1
  rw [e2, hl] at c2
  exact ⟨a0, k0, a1, k1, a2, k2, c0, c1, c2, h.box.cell 3 _ rfl, h.box.lt⟩
set_option maxRecDepth 100000 in
set_option maxHeartbeats 4000000 in
theorem pw_begin_no (k : Int) (w : World) (h : PW w b G W) (hk : ¬ (0 ≤ k ∧ k < (W.c : Int))) :
    Calls Tryz.prog 98 #[.pointer (some ⟨b, 0, none⟩), .int .i64 k] w fun e w' => e = .returned (errV 2) ∧ Below w.heap.size w w' := by
  obtain ⟨a0, k0, a1, k1, a2, k2, c0, c1, c2, c3, hlt⟩ := h.lens
  have IC := isClient_is (k := k) (v := false) w c1 (by
    have q : ¬ (0 ≤ k) ∨ ¬ (k < (W.c : Int)) := by omega
    rcases q with q | q <;> simp [q])
  clear h c0 c1 c2 c3
  go_enter Tryz.func98, Tryz.ntmps98
  go_wp2_with fail
  refine IC.mono ?_
  rintro e w2 ⟨rfl, hw2⟩
  have hw2' := hw2.symm
  clear hw2 IC
  subst hw2'
  go_wp2_with fail
  go_ret
  exact ⟨rfl, Below.refl _ _⟩
set_option maxRecDepth 100000 in
set_option maxHeartbeats 4000000 in
theorem pw_read_no (k : Int) (key : Int) (w : World) (h : PW w b G W) (hk : ¬ (0 ≤ k ∧ k < (W.c : Int))) :
    Calls Tryz.prog 113 #[.pointer (some ⟨b, 0, none⟩), .int .i64 k, .int .i64 key] w fun e w' => e = .returned (.tuple #[.string ⟨#[]⟩, errV 2]) ∧ Below w.heap.size w w' := by
  obtain ⟨a0, k0, a1, k1, a2, k2, c0, c1, c2, c3, hlt⟩ := h.lens
  have IC := isClient_is (k := k) (v := false) w c1 (by
    have q : ¬ (0 ≤ k) ∨ ¬ (k < (W.c : Int)) := by omega
    rcases q with q | q <;> simp [q])
  clear h c0 c1 c2 c3
  go_enter Tryz.func113, Tryz.ntmps113
  go_wp2_with fail
  refine IC.mono ?_
  rintro e w2 ⟨rfl, hw2⟩
  have hw2' := hw2.symm
  clear hw2 IC
  subst hw2'
  go_wp2_with fail
  go_ret2
  exact ⟨rfl, Below.refl _ _⟩
set_option maxRecDepth 100000 in
set_option maxHeartbeats 4000000 in
theorem pw_write_no (k : Int) (xk : Int) (xd : ByteArray) (xg : Bool) (w : World) (h : PW w b G W) (hk : ¬ (0 ≤ k ∧ k < (W.c : Int))) :
    Calls Tryz.prog 105 #[.pointer (some ⟨b, 0, none⟩), .int .i64 k, .agg #[.int .i64 xk, .string xd, .bool xg]] w fun e w' => e = .returned (errV 2) ∧ Below w.heap.size w w' := by
  obtain ⟨a0, k0, a1, k1, a2, k2, c0, c1, c2, c3, hlt⟩ := h.lens
  have bx := boxed (Below.refl _ w) (.cells #[.int .i64 xk, .string xd, .bool xg] 100)
  have IC := isClient_is (k := k) (v := false) (w.alloc (.cells #[.int .i64 xk, .string xd, .bool xg] 100)) (cell_later bx c1) (by
    have q : ¬ (0 ≤ k) ∨ ¬ (k < (W.c : Int)) := by omega
    rcases q with q | q <;> simp [q])
  clear h c0 c1 c2 c3
  go_enter Tryz.func105, Tryz.ntmps105
  go_wp2_with fail
  refine IC.mono ?_
  rintro e w2 ⟨rfl, hw2⟩
  have hw2' := hw2.symm
  clear hw2 IC
  subst hw2'
  go_wp2_with fail
  go_ret
  exact ⟨rfl, boxed (Below.refl _ w) _⟩
set_option maxRecDepth 100000 in
set_option maxHeartbeats 4000000 in
theorem pw_commit_no (k : Int) (w : World) (h : PW w b G W) (hk : ¬ (0 ≤ k ∧ k < (W.c : Int))) :
    Calls Tryz.prog 103 #[.pointer (some ⟨b, 0, none⟩), .int .i64 k] w fun e w' => e = .returned (.tuple #[.agg #[.int .i64 0, .int .i64 0, .int .i64 0, .int .i64 0, .int .i64 0, .int .i64 0, .int .i64 0, .int .i64 0, .slice none 0 0], errV 2]) ∧ Below w.heap.size w w' := by
  obtain ⟨a0, k0, a1, k1, a2, k2, c0, c1, c2, c3, hlt⟩ := h.lens
  have bx := boxed (Below.refl _ w) (.cells #[.int .i64 0, .int .i64 0, .int .i64 0, .int .i64 0, .int .i64 0, .int .i64 0, .int .i64 0, .int .i64 0, .slice none 0 0] 102)
  have RZ := RowL.new (w := w) (T := 102) (n := w.heap.size) [.int .i64 0, .int .i64 0, .int .i64 0, .int .i64 0, .int .i64 0, .int .i64 0, .int .i64 0, .int .i64 0, .slice none 0 0] rfl
  have z0 := RZ.cell 0 _ rfl
  have f0 := RZ.free 0 (by simp)
  have z1 := RZ.cell 1 _ rfl
  have f1 := RZ.free 1 (by simp)
  have z2 := RZ.cell 2 _ rfl
  have f2 := RZ.free 2 (by simp)
  have z3 := RZ.cell 3 _ rfl
  have f3 := RZ.free 3 (by simp)
  have z4 := RZ.cell 4 _ rfl
  have f4 := RZ.free 4 (by simp)
  have z5 := RZ.cell 5 _ rfl
  have f5 := RZ.free 5 (by simp)
  have z6 := RZ.cell 6 _ rfl
  have f6 := RZ.free 6 (by simp)
  have z7 := RZ.cell 7 _ rfl
  have f7 := RZ.free 7 (by simp)
  have z8 := RZ.cell 8 _ rfl
  have f8 := RZ.free 8 (by simp)
  have RS := tx_set RZ rfl 0 0 0 0 0 0 0 0 (.slice none 0 0)
  simp only [setTx] at RS
  have HZ : Hid _ := RZ
  clear RZ RS
  have IC := isClient_is (k := k) (v := false) (w.alloc (.cells #[.int .i64 0, .int .i64 0, .int .i64 0, .int .i64 0, .int .i64 0, .int .i64 0, .int .i64 0, .int .i64 0, .slice none 0 0] 102)) (cell_later bx c1) (by
    have q : ¬ (0 ≤ k) ∨ ¬ (k < (W.c : Int)) := by omega
    rcases q with q | q <;> simp [q])
  clear h c0 c1 c2 c3
  go_enter Tryz.func103, Tryz.ntmps103
  go_wp2_with fail
  refine IC.mono ?_
  rintro e w2 ⟨rfl, hw2⟩
  have hw2' := hw2.symm
  clear hw2 IC
  subst hw2'
  go_wp2_with fail
  (try simp only [Exit.inBlock, Exit.then])
  exact bodyPost_ret (wcommit_results HZ.out rfl rfl) rfl ⟨rfl, bx⟩
set_option maxRecDepth 100000 in
set_option maxHeartbeats 4000000 in
theorem pw_abort_no (k : Int) (w : World) (h : PW w b G W) (hk : ¬ (0 ≤ k ∧ k < (W.c : Int))) :
    Calls Tryz.prog 94 #[.pointer (some ⟨b, 0, none⟩), .int .i64 k] w fun e w' => e = .returned (errV 2) ∧ Below w.heap.size w w' := by
  obtain ⟨a0, k0, a1, k1, a2, k2, c0, c1, c2, c3, hlt⟩ := h.lens
  have IC := isClient_is (k := k) (v := false) w c1 (by
    have q : ¬ (0 ≤ k) ∨ ¬ (k < (W.c : Int)) := by omega
    rcases q with q | q <;> simp [q])
  clear h c0 c1 c2 c3
  go_enter Tryz.func94, Tryz.ntmps94
  go_wp2_with fail
  refine IC.mono ?_
  rintro e w2 ⟨rfl, hw2⟩
  have hw2' := hw2.symm
  clear hw2 IC
  subst hw2'
  go_wp2_with fail
  go_ret
  exact ⟨rfl, Below.refl _ _⟩
set_option maxRecDepth 100000 in
set_option maxHeartbeats 4000000 in
theorem pw_deliver_nok (k : Int) (w : World) (h : PW w b G W) (hk : ¬ (0 ≤ k ∧ k < (W.net.length : Int))) :
    Calls Tryz.prog 104 #[.pointer (some ⟨b, 0, none⟩), .int .i64 k] w fun e w' => e = .returned (errV 2) ∧ Below w.heap.size w w' := by
  obtain ⟨a0, k0, a1, k1, a2, k2, c0, c1, c2, c3, hlt⟩ := h.lens
  have IC := isUnder_is (k := k) (v := false) w c2 (by
    have q : ¬ (0 ≤ k) ∨ ¬ (k < (W.net.length : Int)) := by omega
    rcases q with q | q <;> simp [q])
  clear h c0 c1 c2 c3
  go_enter Tryz.func104, Tryz.ntmps104
  go_wp2_with fail
  refine IC.mono ?_
  rintro e w2 ⟨rfl, hw2⟩
  have hw2' := hw2.symm
  clear hw2 IC
  subst hw2'
  go_wp2_with fail
  go_ret
  exact ⟨rfl, Below.refl _ _⟩
set_option maxRecDepth 100000 in
set_option maxHeartbeats 4000000 in
theorem pw_lose_nok (k : Int) (w : World) (h : PW w b G W) (hk : ¬ (0 ≤ k ∧ k < (W.net.length : Int))) :
    Calls Tryz.prog 109 #[.pointer (some ⟨b, 0, none⟩), .int .i64 k] w fun e w' => e = .returned (errV 2) ∧ Below w.heap.size w w' := by
  obtain ⟨a0, k0, a1, k1, a2, k2, c0, c1, c2, c3, hlt⟩ := h.lens
  have IC := isUnder_is (k := k) (v := false) w c2 (by
    have q : ¬ (0 ≤ k) ∨ ¬ (k < (W.net.length : Int)) := by omega
    rcases q with q | q <;> simp [q])
  clear h c0 c1 c2 c3
  go_enter Tryz.func109, Tryz.ntmps109
  go_wp2_with fail
  refine IC.mono ?_
  rintro e w2 ⟨rfl, hw2⟩
  have hw2' := hw2.symm
  clear hw2 IC
  subst hw2'
  go_wp2_with fail
  go_ret
  exact ⟨rfl, Below.refl _ _⟩
set_option maxRecDepth 100000 in
set_option maxHeartbeats 4000000 in
theorem pw_twice_nok (k : Int) (w : World) (h : PW w b G W) (hk : ¬ (0 ≤ k ∧ k < (W.net.length : Int))) :
    Calls Tryz.prog 116 #[.pointer (some ⟨b, 0, none⟩), .int .i64 k] w fun e w' => e = .returned (errV 2) ∧ Below w.heap.size w w' := by
  obtain ⟨a0, k0, a1, k1, a2, k2, c0, c1, c2, c3, hlt⟩ := h.lens
  have IC := isUnder_is (k := k) (v := false) w c2 (by
    have q : ¬ (0 ≤ k) ∨ ¬ (k < (W.net.length : Int)) := by omega
    rcases q with q | q <;> simp [q])
  clear h c0 c1 c2 c3
  go_enter Tryz.func116, Tryz.ntmps116
  go_wp2_with fail
  refine IC.mono ?_
  rintro e w2 ⟨rfl, hw2⟩
  have hw2' := hw2.symm
  clear hw2 IC
  subst hw2'
  go_wp2_with fail
  go_ret
  exact ⟨rfl, Below.refl _ _⟩
set_option maxRecDepth 100000 in
set_option maxHeartbeats 4000000 in
theorem pw_sweep_no (k : Int) (w : World) (h : PW w b G W) (hk : ¬ (0 ≤ k ∧ k < (W.n : Int))) :
    Calls Tryz.prog 115 #[.pointer (some ⟨b, 0, none⟩), .int .i64 k] w fun e w' => e = .returned (errV 2) ∧ Below w.heap.size w w' := by
  obtain ⟨a0, k0, a1, k1, a2, k2, c0, c1, c2, c3, hlt⟩ := h.lens
  have IC := wIsSite_is (k := k) (v := false) w c0 (by
    have q : ¬ (0 ≤ k) ∨ ¬ (k < (W.n : Int)) := by omega
    rcases q with q | q <;> simp [q])
  clear h c0 c1 c2 c3
  go_enter Tryz.func115, Tryz.ntmps115
  go_wp2_with fail
  refine IC.mono ?_
  rintro e w2 ⟨rfl, hw2⟩
  have hw2' := hw2.symm
  clear hw2 IC
  subst hw2'
  go_wp2_with fail
  go_ret
  exact ⟨rfl, Below.refl _ _⟩
set_option maxRecDepth 100000 in
set_option maxHeartbeats 4000000 in
theorem pw_goes_no (k : Int) (y : Int) (w : World) (h : PW w b G W) (hk : ¬ (0 ≤ k ∧ k < (W.n : Int))) :
    Calls Tryz.prog 106 #[.pointer (some ⟨b, 0, none⟩), .int .i64 k, .int .i64 y] w fun e w' => e = .returned (errV 2) ∧ Below w.heap.size w w' := by
  obtain ⟨a0, k0, a1, k1, a2, k2, c0, c1, c2, c3, hlt⟩ := h.lens
  have IC := wIsSite_is (k := k) (v := false) w c0 (by
    have q : ¬ (0 ≤ k) ∨ ¬ (k < (W.n : Int)) := by omega
    rcases q with q | q <;> simp [q])
  clear h c0 c1 c2 c3
  go_enter Tryz.func106, Tryz.ntmps106
  go_wp2_with fail
  refine IC.mono ?_
  rintro e w2 ⟨rfl, hw2⟩
  have hw2' := hw2.symm
  clear hw2 IC
  subst hw2'
  go_wp2_with fail
  go_ret
  exact ⟨rfl, Below.refl _ _⟩
set_option maxRecDepth 100000 in
set_option maxHeartbeats 4000000 in
theorem pw_move_no (k : Int) (y : Int) (w : World) (h : PW w b G W) (hk : ¬ (0 ≤ k ∧ k < (W.c : Int))) :
    Calls Tryz.prog 112 #[.pointer (some ⟨b, 0, none⟩), .int .i64 k, .int .i64 y] w fun e w' => e = .returned (errV 2) ∧ Below w.heap.size w w' := by
  obtain ⟨a0, k0, a1, k1, a2, k2, c0, c1, c2, c3, hlt⟩ := h.lens
  have IC := isClient_is (k := k) (v := false) w c1 (by
    have q : ¬ (0 ≤ k) ∨ ¬ (k < (W.c : Int)) := by omega
    rcases q with q | q <;> simp [q])
  clear h c0 c1 c2 c3
  go_enter Tryz.func112, Tryz.ntmps112
  go_wp2_with fail
  refine IC.mono ?_
  rintro e w2 ⟨rfl, hw2⟩
  have hw2' := hw2.symm
  clear hw2 IC
  subst hw2'
  go_wp2_with fail
  go_ret
  exact ⟨rfl, Below.refl _ _⟩
set_option maxRecDepth 100000 in
set_option maxHeartbeats 4000000 in
theorem pw_move_no2 {i : Nat} (y : Int) (w : World) (h : PW w b G W) (hi : i < W.c) (hk : ¬ (0 ≤ y ∧ y < (W.n : Int))) :
    Calls Tryz.prog 112 #[.pointer (some ⟨b, 0, none⟩), .int .i64 i, .int .i64 y] w fun e w' => e = .returned (errV 2) ∧ Below w.heap.size w w' := by
  obtain ⟨a0, k0, a1, k1, a2, k2, c0, c1, c2, c3, hlt⟩ := h.lens
  have IC := isClient_is (k := i) (v := true) w c1 (by simp; omega)
  have IS := wIsSite_is (k := y) (v := false) w c0 (by
    have q : ¬ (0 ≤ y) ∨ ¬ (y < (W.n : Int)) := by omega
    rcases q with q | q <;> simp [q])
  clear h c0 c1 c2 c3
  go_enter Tryz.func112, Tryz.ntmps112
  go_wp2_with fail
  refine IC.mono ?_
  rintro e w2 ⟨rfl, hw2⟩
  have hw2' := hw2.symm
  clear hw2 IC
  subst hw2'
  go_wp2_with fail
  refine IS.mono ?_
  rintro e w3 ⟨rfl, hw3⟩
  have hw3' := hw3.symm
  clear hw3 IS
  subst hw3'
  go_wp2_with fail
  go_ret
  exact ⟨rfl, Below.refl _ _⟩
set_option maxRecDepth 100000 in
set_option maxHeartbeats 4000000 in
theorem pw_goes_no2 {i : Nat} (y : Int) (w : World) (h : PW w b G W) (hi : i < W.n) (hk : ¬ (0 ≤ y ∧ y ≤ 1099511627776)) :
    Calls Tryz.prog 106 #[.pointer (some ⟨b, 0, none⟩), .int .i64 i, .int .i64 y] w fun e w' => e = .returned (errV 2) ∧ Below w.heap.size w w' := by
  obtain ⟨a0, k0, a1, k1, a2, k2, c0, c1, c2, c3, hlt⟩ := h.lens
  have IC := wIsSite_is (k := i) (v := true) w c0 (by simp; omega)
  clear h c0 c1 c2 c3
  by_cases hy : y < 0
  · skip
    go_enter Tryz.func106, Tryz.ntmps106
    go_wp2_with fail
    refine IC.mono ?_
    rintro e w2 ⟨rfl, hw2⟩
    have hw2' := hw2.symm
    clear hw2 IC
    subst hw2'
    go_wp2_with fail
    go_ret
    exact ⟨rfl, Below.refl _ _⟩
  · have hy2 : 1099511627776 < y := by omega
    go_enter Tryz.func106, Tryz.ntmps106
    go_wp2_with fail
    refine IC.mono ?_
    rintro e w2 ⟨rfl, hw2⟩
    have hw2' := hw2.symm
    clear hw2 IC
    subst hw2'
    go_wp2_with fail
    go_ret
    exact ⟨rfl, Below.refl _ _⟩
set_option maxRecDepth 100000 in
set_option maxHeartbeats 4000000 in
theorem pw_ask_no (k : Int) (y : Int) (w : World) (h : PW w b G W) (hk : ¬ (0 ≤ k ∧ k < (W.n : Int))) :
    Calls Tryz.prog 96 #[.pointer (some ⟨b, 0, none⟩), .int .i64 k, .int .i64 y] w fun e w' => e = .returned (errV 2) ∧ Below w.heap.size w w' := by
  obtain ⟨a0, k0, a1, k1, a2, k2, c0, c1, c2, c3, hlt⟩ := h.lens
  have IC := wIsSite_is (k := k) (v := false) w c0 (by
    have q : ¬ (0 ≤ k) ∨ ¬ (k < (W.n : Int)) := by omega
    rcases q with q | q <;> simp [q])
  clear h c0 c1 c2 c3
  go_enter Tryz.func96, Tryz.ntmps96
  go_wp2_with fail
  refine IC.mono ?_
  rintro e w2 ⟨rfl, hw2⟩
  have hw2' := hw2.symm
  clear hw2 IC
  subst hw2'
  go_wp2_with fail
  go_ret
  exact ⟨rfl, Below.refl _ _⟩
set_option maxRecDepth 100000 in
set_option maxHeartbeats 4000000 in
theorem pw_ask_no2 {i : Nat} (y : Int) (w : World) (h : PW w b G W) (hi : i < W.n) (hk : ¬ (0 ≤ y ∧ y < (W.n : Int))) :
    Calls Tryz.prog 96 #[.pointer (some ⟨b, 0, none⟩), .int .i64 i, .int .i64 y] w fun e w' => e = .returned (errV 2) ∧ Below w.heap.size w w' := by
  obtain ⟨a0, k0, a1, k1, a2, k2, c0, c1, c2, c3, hlt⟩ := h.lens
  have IC := wIsSite_is (k := i) (v := true) w c0 (by simp; omega)
  have IS := wIsSite_is (k := y) (v := false) w c0 (by
    have q : ¬ (0 ≤ y) ∨ ¬ (y < (W.n : Int)) := by omega
    rcases q with q | q <;> simp [q])
  clear h c0 c1 c2 c3
  go_enter Tryz.func96, Tryz.ntmps96
  go_wp2_with fail
  refine IC.mono ?_
  rintro e w2 ⟨rfl, hw2⟩
  have hw2' := hw2.symm
  clear hw2 IC
  subst hw2'
  go_wp2_with fail
  refine IS.mono ?_
  rintro e w3 ⟨rfl, hw3⟩
  have hw3' := hw3.symm
  clear hw3 IS
  subst hw3'
  go_wp2_with fail
  go_ret
  exact ⟨rfl, Below.refl _ _⟩
set_option maxRecDepth 100000 in
set_option maxHeartbeats 4000000 in
theorem pw_lost (w : World) (h : PW w b G W) : Calls Tryz.prog 111 #[.pointer (some ⟨b, 0, none⟩)] w fun e w' => e = .returned (.int .i64 W.lost) ∧ w' = w := by
  obtain ⟨a0, k0, a1, k1, a2, k2, c0, c1, c2, c3, hlt⟩ := h.lens
  clear h c0 c1 c2
  go_enter Tryz.func111, Tryz.ntmps111
  go_wp2_with fail
  go_ret
  exact ⟨rfl, rfl⟩
set_option maxRecDepth 100000 in
set_option maxHeartbeats 4000000 in
theorem pw_site_no (k : Int) (w : World) (h : PW w b G W) (hk : ¬ (0 ≤ k ∧ k < (W.n : Int))) :
    Calls Tryz.prog 114 #[.pointer (some ⟨b, 0, none⟩), .int .i64 k] w fun e w' => e = .returned (.tuple #[.agg #[.int .i64 0, .int .i64 0, .int .i64 0, .int .i64 0], .int .i64 0, .slice none 0 0, .int .i64 0, errV 2]) ∧ Below w.heap.size w w' := by
  obtain ⟨a0, k0, a1, k1, a2, k2, c0, c1, c2, c3, hlt⟩ := h.lens
  have bx := boxed (Below.refl _ w) (.cells #[.int .i64 0, .int .i64 0, .int .i64 0, .int .i64 0] 77)
  have RZ := RowL.new (w := w) (T := 77) (n := w.heap.size) [.int .i64 0, .int .i64 0, .int .i64 0, .int .i64 0] rfl
  have z0 := RZ.cell 0 _ rfl
  have f0 := RZ.free 0 (by simp)
  have z1 := RZ.cell 1 _ rfl
  have f1 := RZ.free 1 (by simp)
  have z2 := RZ.cell 2 _ rfl
  have f2 := RZ.free 2 (by simp)
  have z3 := RZ.cell 3 _ rfl
  have f3 := RZ.free 3 (by simp)
  have HZ : Hid _ := RZ
  clear RZ
  have IC := wIsSite_is (k := k) (v := false) (w.alloc (.cells #[.int .i64 0, .int .i64 0, .int .i64 0, .int .i64 0] 77)) (cell_later bx c0) (by
    have q : ¬ (0 ≤ k) ∨ ¬ (k < (W.n : Int)) := by omega
    rcases q with q | q <;> simp [q])
  clear h c0 c1 c2 c3
  go_enter Tryz.func114, Tryz.ntmps114
  go_wp2_with fail
  refine IC.mono ?_
  rintro e w2 ⟨rfl, hw2⟩
  have hw2' := hw2.symm
  clear hw2 IC
  subst hw2'
  go_wp2_with fail
  (try simp only [Exit.inBlock, Exit.then])
  exact bodyPost_ret (site_results HZ.out rfl rfl rfl rfl rfl) rfl ⟨rfl, bx⟩
set_option maxRecDepth 100000 in
set_option maxHeartbeats 4000000 in
theorem pw_client_no (k : Int) (w : World) (h : PW w b G W) (hk : ¬ (0 ≤ k ∧ k < (W.c : Int))) :
    Calls Tryz.prog 101 #[.pointer (some ⟨b, 0, none⟩), .int .i64 k] w fun e w' => e = .returned (.tuple #[.int .i64 0, .agg #[.int .i64 0, .int .i64 0, .int .i64 0, .int .i64 0], .agg #[.int .i64 0, .int .i64 0, .int .i64 0, .int .i64 0], .bool false, errV 2]) ∧ Below w.heap.size w w' := by
  obtain ⟨a0, k0, a1, k1, a2, k2, c0, c1, c2, c3, hlt⟩ := h.lens
  have bx := boxed (boxed (Below.refl _ w) (.cells #[.int .i64 0, .int .i64 0, .int .i64 0, .int .i64 0] 77)) (.cells #[.int .i64 0, .int .i64 0, .int .i64 0, .int .i64 0] 77)
  have RZ := (RowL.new (w := w) (T := 77) (n := w.heap.size) [.int .i64 0, .int .i64 0, .int .i64 0, .int .i64 0] rfl).later (boxed (Below.refl _ _) (.cells #[.int .i64 0, .int .i64 0, .int .i64 0, .int .i64 0] 77))
  have RY := RowL.new (w := w.alloc (.cells #[.int .i64 0, .int .i64 0, .int .i64 0, .int .i64 0] 77)) (T := 77) (n := w.heap.size + 1) [.int .i64 0, .int .i64 0, .int .i64 0, .int .i64 0] (by simp)
  have z0 := RZ.cell 0 _ rfl
  have f0 := RZ.free 0 (by simp)
  have y0 := RY.cell 0 _ rfl
  have g0 := RY.free 0 (by simp)
  have z1 := RZ.cell 1 _ rfl
  have f1 := RZ.free 1 (by simp)
  have y1 := RY.cell 1 _ rfl
  have g1 := RY.free 1 (by simp)
  have z2 := RZ.cell 2 _ rfl
  have f2 := RZ.free 2 (by simp)
  have y2 := RY.cell 2 _ rfl
  have g2 := RY.free 2 (by simp)
  have z3 := RZ.cell 3 _ rfl
  have f3 := RZ.free 3 (by simp)
  have y3 := RY.cell 3 _ rfl
  have g3 := RY.free 3 (by simp)
  have HZ : Hid _ := And.intro RZ RY
  clear RZ RY
  have IC := isClient_is (k := k) (v := false) ((w.alloc (.cells #[.int .i64 0, .int .i64 0, .int .i64 0, .int .i64 0] 77)).alloc (.cells #[.int .i64 0, .int .i64 0, .int .i64 0, .int .i64 0] 77)) (cell_later bx c1) (by
    have q : ¬ (0 ≤ k) ∨ ¬ (k < (W.c : Int)) := by omega
    rcases q with q | q <;> simp [q])
  clear h c0 c1 c2 c3
  go_enter Tryz.func101, Tryz.ntmps101
  go_wp2_with fail
  refine IC.mono ?_
  rintro e w2 ⟨rfl, hw2⟩
  have hw2' := hw2.symm
  clear hw2 IC
  subst hw2'
  go_wp2_with fail
  (try simp only [Exit.inBlock, Exit.then])
  exact bodyPost_ret (client_results HZ.out.1 HZ.out.2 rfl rfl rfl rfl rfl) rfl ⟨rfl, bx⟩
set_option maxRecDepth 100000 in
set_option maxHeartbeats 4000000 in
theorem pw_new_no {n c : Int} (hk : ¬ ((1 ≤ n ∧ n ≤ 4) ∧ (0 ≤ c ∧ c ≤ 6))) (w : World) :
    Calls Tryz.prog 65 #[.int .i64 n, .int .i64 c] w fun e w' => e = .returned (.tuple #[.pointer none, errV 2]) ∧ Below w.heap.size w w' := by
  by_cases h1 : n < 1
  · skip
    go_enter Tryz.func65, Tryz.ntmps65
    go_wp2_with fail
    go_ret2
    exact ⟨rfl, Below.refl _ _⟩
  by_cases h2 : 4 < n
  · skip
    go_enter Tryz.func65, Tryz.ntmps65
    go_wp2_with fail
    go_ret2
    exact ⟨rfl, Below.refl _ _⟩
  by_cases h3 : c < 0
  · skip
    go_enter Tryz.func65, Tryz.ntmps65
    go_wp2_with fail
    go_ret2
    exact ⟨rfl, Below.refl _ _⟩
  · have h4 : 6 < c := by omega
    go_enter Tryz.func65, Tryz.ntmps65
    go_wp2_with fail
    go_ret2
    exact ⟨rfl, Below.refl _ _⟩
end
end
section
open Go.RowKit
/-- a call that tells an error alone -/
def OpEnd (i : Nat) (W : WoS) (l : List Int) (d : ByteArray) (w : World) (b : Nat) (G : Nat → Prop) (e : Ending) (w' : World) : Prop :=
  ∃ W' er, CmdTo i W l d W' er (nameOf i) ∧ e = .returned (errV er) ∧ PWPo w b G W' w'
section
variable {b : Nat} {G : Nat → Prop} {W : WoS} {j : Nat}
theorem there_nat {k : Int} {n : Nat} (h : There k n) : ∃ i : Nat, k = i ∧ i < n ∧ k.toNat = i := ⟨k.toNat, by have := h.1; omega, by have := h.1; have := h.2; omega, rfl⟩
theorem op_abort (k : Int) (w : World) (h : PW w b G W) : Calls Tryz.prog 94 #[.pointer (some ⟨b, 0, none⟩), .int .i64 k] w (OpEnd 0 W [k] ⟨#[]⟩ w b G) := by
  by_cases hk : There k W.c
  · obtain ⟨i, rfl, hi, e⟩ := there_nat hk
    exact (pw_abort w h hi).mono fun _ _ ⟨h1, h2⟩ => ⟨_, _, ⟨rfl, by rw [if_pos hk]; exact ⟨rfl, rfl⟩⟩, h1, h2⟩
  · exact (pw_abort_no k w h hk).mono fun _ _ ⟨h1, h2⟩ => ⟨W, 2, ⟨rfl, by rw [if_neg hk]; exact ⟨rfl, rfl⟩⟩, h1, PWPo.same h h2⟩
theorem op_begin (k : Int) (w : World) (h : PW w b G W) (hI : PlI j W) : Calls Tryz.prog 98 #[.pointer (some ⟨b, 0, none⟩), .int .i64 k] w (OpEnd 2 W [k] ⟨#[]⟩ w b G) := by
  by_cases hk : There k W.c
  · obtain ⟨i, rfl, hi, e⟩ := there_nat hk
    exact (pw_begin w h hI.wf hi).mono fun _ _ ⟨h1, h2⟩ => ⟨_, _, ⟨rfl, by rw [if_pos hk]; exact ⟨rfl, rfl⟩⟩, h1, h2⟩
  · exact (pw_begin_no k w h hk).mono fun _ _ ⟨h1, h2⟩ => ⟨W, 2, ⟨rfl, by rw [if_neg hk]; exact ⟨rfl, rfl⟩⟩, h1, PWPo.same h h2⟩
theorem op_ask (k o : Int) (w : World) (h : PW w b G W) (hI : PlI j W) : Calls Tryz.prog 96 #[.pointer (some ⟨b, 0, none⟩), .int .i64 k, .int .i64 o] w (OpEnd 1 W [k, o] ⟨#[]⟩ w b G) := by
  by_cases hk : There k W.n
  · obtain ⟨i, rfl, hi, e⟩ := there_nat hk
    by_cases ho : There o W.n
    · obtain ⟨m, rfl, hm, e2⟩ := there_nat ho
      by_cases hne : i = m
      · subst hne
        exact (pw_ask_self w h hi).mono fun _ _ ⟨h1, h2⟩ => ⟨W, 2, ⟨rfl, by rw [if_neg (fun q => q.2.2 rfl)]; exact ⟨rfl, rfl⟩⟩, h1, h2⟩
      · exact (pw_ask w h hI.wf hi hm hne).mono fun _ _ ⟨h1, h2⟩ => ⟨_, _, ⟨rfl, by rw [if_pos ⟨hk, ho, by omega⟩]; exact ⟨rfl, rfl⟩⟩, h1, h2⟩
    · exact (pw_ask_no2 o w h hi ho).mono fun _ _ ⟨h1, h2⟩ => ⟨W, 2, ⟨rfl, by rw [if_neg (fun q => ho q.2.1)]; exact ⟨rfl, rfl⟩⟩, h1, PWPo.same h h2⟩
  · exact (pw_ask_no k o w h hk).mono fun _ _ ⟨h1, h2⟩ => ⟨W, 2, ⟨rfl, by rw [if_neg (fun q => hk q.1)]; exact ⟨rfl, rfl⟩⟩, h1, PWPo.same h h2⟩
theorem net_at_there {k : Int} (hk : There k W.net.length) : ∃ (i : Nat) (g : GrS), k = i ∧ k.toNat = i ∧ W.net[i]? = some g := by
  obtain ⟨i, e, hi, e2⟩ := there_nat hk
  exact ⟨i, W.net[i], e, e2, List.getElem?_eq_getElem hi⟩
theorem op_deliver (k : Int) (w : World) (h : PW w b G W) (hI : PlI j W) : Calls Tryz.prog 104 #[.pointer (some ⟨b, 0, none⟩), .int .i64 k] w (OpEnd 6 W [k] ⟨#[]⟩ w b G) := by
  by_cases hk : There k W.net.length
  · obtain ⟨i, g, rfl, e, hg⟩ := net_at_there hk
    exact (pw_deliver w h hI.wf hg).mono fun _ _ ⟨h1, W', h2, h3⟩ => ⟨W', 0, ⟨rfl, by rw [if_pos hk]; exact ⟨h2.out, rfl⟩⟩, h1, h3⟩
  · exact (pw_deliver_nok k w h hk).mono fun _ _ ⟨h1, h2⟩ => ⟨W, 2, ⟨rfl, by rw [if_neg hk]; exact ⟨rfl, rfl⟩⟩, h1, PWPo.same h h2⟩
theorem op_lose (k : Int) (w : World) (h : PW w b G W) (hI : PlI j W) : Calls Tryz.prog 109 #[.pointer (some ⟨b, 0, none⟩), .int .i64 k] w (OpEnd 10 W [k] ⟨#[]⟩ w b G) := by
  by_cases hk : There k W.net.length
  · obtain ⟨i, g, rfl, e, hg⟩ := net_at_there hk
    exact (pw_lose w h hI.wf.net hg).mono fun _ _ ⟨h1, h2⟩ => ⟨_, 0, ⟨rfl, by rw [if_pos hk]; exact ⟨rfl, rfl⟩⟩, h1, h2⟩
  · exact (pw_lose_nok k w h hk).mono fun _ _ ⟨h1, h2⟩ => ⟨W, 2, ⟨rfl, by rw [if_neg hk]; exact ⟨rfl, rfl⟩⟩, h1, PWPo.same h h2⟩
theorem op_twice (k : Int) (w : World) (h : PW w b G W) : Calls Tryz.prog 116 #[.pointer (some ⟨b, 0, none⟩), .int .i64 k] w (OpEnd 16 W [k] ⟨#[]⟩ w b G) := by
  by_cases hk : There k W.net.length
  · obtain ⟨i, g, rfl, e, hg⟩ := net_at_there hk
    exact (pw_twice w h hg).mono fun _ _ ⟨h1, h2⟩ => ⟨_, 0, ⟨rfl, by rw [if_pos hk]; exact ⟨⟨g, hg, rfl⟩, rfl⟩⟩, h1, h2⟩
  · exact (pw_twice_nok k w h hk).mono fun _ _ ⟨h1, h2⟩ => ⟨W, 2, ⟨rfl, by rw [if_neg hk]; exact ⟨rfl, rfl⟩⟩, h1, PWPo.same h h2⟩
theorem op_sweep (k : Int) (w : World) (h : PW w b G W) (hI : PlI j W) : Calls Tryz.prog 115 #[.pointer (some ⟨b, 0, none⟩), .int .i64 k] w (OpEnd 15 W [k] ⟨#[]⟩ w b G) := by
  by_cases hk : There k W.n
  · obtain ⟨i, rfl, hi, e⟩ := there_nat hk
    exact (pw_sweep w h hI.wf hi).mono fun _ _ ⟨h1, h2⟩ => ⟨_, 0, ⟨rfl, by rw [if_pos hk]; exact ⟨rfl, rfl⟩⟩, h1, h2⟩
  · exact (pw_sweep_no k w h hk).mono fun _ _ ⟨h1, h2⟩ => ⟨W, 2, ⟨rfl, by rw [if_neg hk]; exact ⟨rfl, rfl⟩⟩, h1, PWPo.same h h2⟩
theorem op_goes (k y : Int) (w : World) (h : PW w b G W) (hI : PlI j W) : Calls Tryz.prog 106 #[.pointer (some ⟨b, 0, none⟩), .int .i64 k, .int .i64 y] w (OpEnd 8 W [k, y] ⟨#[]⟩ w b G) := by
  by_cases hk : There k W.n
  · obtain ⟨i, rfl, hi, e⟩ := there_nat hk
    by_cases hy : 0 ≤ y ∧ y ≤ 1099511627776
    · exact (pw_goes w h hi hy.1 hy.2 (hI.wl i hi).1 (hI.wl i hi).2).mono fun _ _ ⟨h1, h2⟩ => ⟨_, 0, ⟨rfl, by rw [if_pos ⟨hk, hy⟩]; exact ⟨rfl, rfl⟩⟩, h1, h2⟩
    · exact (pw_goes_no2 y w h hi hy).mono fun _ _ ⟨h1, h2⟩ => ⟨W, 2, ⟨rfl, by rw [if_neg (fun q => hy q.2)]; exact ⟨rfl, rfl⟩⟩, h1, PWPo.same h h2⟩
  · exact (pw_goes_no k y w h hk).mono fun _ _ ⟨h1, h2⟩ => ⟨W, 2, ⟨rfl, by rw [if_neg (fun q => hk q.1)]; exact ⟨rfl, rfl⟩⟩, h1, PWPo.same h h2⟩
theorem op_move (k y : Int) (w : World) (h : PW w b G W) : Calls Tryz.prog 112 #[.pointer (some ⟨b, 0, none⟩), .int .i64 k, .int .i64 y] w (OpEnd 12 W [k, y] ⟨#[]⟩ w b G) := by
  by_cases hk : There k W.c
  · obtain ⟨i, rfl, hi, e⟩ := there_nat hk
    by_cases hy : There y W.n
    · obtain ⟨m, rfl, hm, e2⟩ := there_nat hy
      exact (pw_move w h hi hm).mono fun _ _ ⟨h1, h2⟩ => ⟨_, _, ⟨rfl, by rw [if_pos ⟨hk, hy⟩]; exact ⟨rfl, rfl⟩⟩, h1, h2⟩
    · exact (pw_move_no2 y w h hi hy).mono fun _ _ ⟨h1, h2⟩ => ⟨W, 2, ⟨rfl, by rw [if_neg (fun q => hy q.2)]; exact ⟨rfl, rfl⟩⟩, h1, PWPo.same h h2⟩
  · exact (pw_move_no k y w h hk).mono fun _ _ ⟨h1, h2⟩ => ⟨W, 2, ⟨rfl, by rw [if_neg (fun q => hk q.1)]; exact ⟨rfl, rfl⟩⟩, h1, PWPo.same h h2⟩
theorem op_drop (k key : Int) (w : World) (h : PW w b G W) : Calls Tryz.prog 105 #[.pointer (some ⟨b, 0, none⟩), .int .i64 k, .agg #[.int .i64 key, .string ⟨#[]⟩, .bool true]] w (OpEnd 7 W [k, key] ⟨#[]⟩ w b G) := by
  by_cases hk : There k W.c
  · obtain ⟨i, rfl, hi, e⟩ := there_nat hk
    exact (pw_write key ⟨#[]⟩ true w h hi).mono fun _ _ ⟨h1, h2⟩ => ⟨_, _, ⟨rfl, by rw [if_pos hk]; exact ⟨rfl, rfl⟩⟩, h1, h2⟩
  · exact (pw_write_no k key ⟨#[]⟩ true w h hk).mono fun _ _ ⟨h1, h2⟩ => ⟨W, 2, ⟨rfl, by rw [if_neg hk]; exact ⟨rfl, rfl⟩⟩, h1, PWPo.same h h2⟩
theorem op_write (k key : Int) (d : ByteArray) (w : World) (h : PW w b G W) : Calls Tryz.prog 105 #[.pointer (some ⟨b, 0, none⟩), .int .i64 k, .agg #[.int .i64 key, .string d, .bool false]] w (OpEnd 18 W [k, key] d w b G) := by
  by_cases hk : There k W.c
  · obtain ⟨i, rfl, hi, e⟩ := there_nat hk
    exact (pw_write key d false w h hi).mono fun _ _ ⟨h1, h2⟩ => ⟨_, _, ⟨rfl, by rw [if_pos hk]; exact ⟨rfl, rfl⟩⟩, h1, h2⟩
  · exact (pw_write_no k key d false w h hk).mono fun _ _ ⟨h1, h2⟩ => ⟨W, 2, ⟨rfl, by rw [if_neg hk]; exact ⟨rfl, rfl⟩⟩, h1, PWPo.same h h2⟩
end
end
section
open Go.RowKit
set_option maxHeartbeats 2000000
theorem two_of {r : List Int} (h : r.length = 2) : ∃ u v, r = [u, v] := by
  match r, h with
  | [u, v], _ => exact ⟨u, v, rfl⟩
section
variable {a : Option Addr} {cap : Nat} {l : List ByteArray}
theorem one_any (hl : ∀ x ∈ l, x.size ≤ 1000000) (w : World) (g : Gl w) (h : StrIn w a cap l) :
    Calls Tryz.prog 95 #[.slice a l.length cap] w fun e w' => Below w.heap.size w w' ∧ ((∃ v, Hid (numsN 1 l = some [v]) ∧ e = .returned (.int .i64 v)) ∨ (Hid (numsN 1 l = none) ∧ e = thrown 3)) := by
  have NN := dnumbers_any (m := 1) (by decide) hl w g h
  have HL : Hid (∀ r, numsN 1 l = some r → r.length = 1) := fun r hr => by
    unfold numsN at hr
    split at hr
    · rename_i q; rw [numsW_length hr, q]
    · cases hr
  clear h g hl
  go_enter Tryz.func95, Tryz.ntmps95
  go_wp2_with fail
  refine NN.mono ?_
  rintro e w1 he
  cases hn : numsN 1 l with
  | none =>
    rw [hn] at he
    obtain ⟨rfl, hb⟩ : e = thrown 3 ∧ _ := he
    exact ⟨rfl, hb, .inr ⟨hn, rfl⟩⟩
  | some r =>
    rw [hn] at he
    obtain ⟨v, rfl⟩ : ∃ v, r = [v] := List.length_eq_one_iff.1 (HL.out r hn)
    obtain ⟨b, rfl, hr, hb⟩ := he
    have c0 := hr.cell 0 _ rfl
    have HN : Hid (numsN 1 l = some [v]) := hn
    clear hn
    go_wp2
    go_ret
    exact ⟨hb, .inl ⟨v, HN, rfl⟩⟩
theorem two_any (hl : ∀ x ∈ l, x.size ≤ 1000000) (w : World) (g : Gl w) (h : StrIn w a cap l) :
    Calls Tryz.prog 97 #[.slice a l.length cap] w fun e w' => Below w.heap.size w w' ∧ ((∃ u v, Hid (numsN 2 l = some [u, v]) ∧ e = .returned (.tuple #[.int .i64 u, .int .i64 v])) ∨ (Hid (numsN 2 l = none) ∧ e = thrown 3)) := by
  have NN := dnumbers_any (m := 2) (by decide) hl w g h
  have HL : Hid (∀ r, numsN 2 l = some r → r.length = 2) := fun r hr => by
    unfold numsN at hr
    split at hr
    · rename_i q; rw [numsW_length hr, q]
    · cases hr
  clear h g hl
  go_enter Tryz.func97, Tryz.ntmps97
  go_wp2_with fail
  refine NN.mono ?_
  rintro e w1 he
  cases hn : numsN 2 l with
  | none =>
    rw [hn] at he
    obtain ⟨rfl, hb⟩ : e = thrown 3 ∧ _ := he
    exact ⟨rfl, hb, .inr ⟨hn, rfl⟩⟩
  | some r =>
    rw [hn] at he
    obtain ⟨u, v, rfl⟩ : ∃ u v, r = [u, v] := two_of (HL.out r hn)
    obtain ⟨b, rfl, hr, hb⟩ := he
    have c0 := hr.cell 0 _ rfl
    have c1 := hr.cell 1 _ rfl
    have HN : Hid (numsN 2 l = some [u, v]) := hn
    clear hn
    go_wp2
    go_region
    go_wp2
    go_ret2
    exact ⟨hb.drew, .inl ⟨u, v, HN, rfl⟩⟩
theorem none_any (hl : ∀ x ∈ l, x.size ≤ 1000000) (w : World) (g : Gl w) (h : StrIn w a cap l) :
    Calls Tryz.prog 99 #[.slice a l.length cap] w fun e w' => Below w.heap.size w w' ∧ ((Hid (numsN 0 l = some []) ∧ e = .returned (.tuple #[])) ∨ (Hid (numsN 0 l = none) ∧ e = thrown 3)) := by
  have NN := dnumbers_any (m := 0) (by decide) hl w g h
  have HL : Hid (∀ r, numsN 0 l = some r → r.length = 0) := fun r hr => by
    unfold numsN at hr
    split at hr
    · rename_i q; rw [numsW_length hr, q]
    · cases hr
  clear h g hl
  go_enter Tryz.func99, Tryz.ntmps99
  go_wp2_with fail
  refine NN.mono ?_
  rintro e w1 he
  cases hn : numsN 0 l with
  | none =>
    rw [hn] at he
    obtain ⟨rfl, hb⟩ : e = thrown 3 ∧ _ := he
    exact ⟨rfl, hb, .inr ⟨hn, rfl⟩⟩
  | some r =>
    rw [hn] at he
    obtain rfl : r = [] := List.eq_nil_of_length_eq_zero (HL.out r hn)
    obtain ⟨b, rfl, hr, hb⟩ := he
    have HN : Hid (numsN 0 l = some []) := hn
    clear hn
    go_wp2
    go_end0
    exact ⟨hb, .inl ⟨HN, rfl⟩⟩
end
theorem must_any (n : Int) (w : World) (g : Gl w) : Calls Tryz.prog 66 #[errV n] w fun e w' => Below w.heap.size w w' ∧ ((n = 0 ∧ e = .returned (.tuple #[])) ∨ (n ≠ 0 ∧ e = thrown n)) := by
  unfold errV
  by_cases h : n = 0
  · rw [if_pos h]
    go_enter Tryz.func66, Tryz.ntmps66
    go_wp2
    go_end0
    exact ⟨Below.refl _ _, .inl ⟨h, rfl⟩⟩
  · rw [if_neg h]
    have T := tell_errno n w g.et
    have HN : Hid (n ≠ 0) := h
    clear h
    go_enter Tryz.func66, Tryz.ntmps66
    go_wp2_with fail
    refine T.mono ?_
    rintro e w1 ⟨rfl, hb⟩
    go_wp2
    exact ⟨rfl, hb, .inr ⟨HN.out, rfl⟩⟩
theorem bya_app (a b : List UInt8) : bya a ++ bya b = bya (a ++ b) := by
  apply ByteArray.ext
  simp [bya]
theorem wrong_any (n : Int) (hn : wfI n) (w : World) (g : Gl w) : Calls Tryz.prog 7 #[.int .i64 n] w fun e w' => e = .returned (.string (bya (errT n))) ∧ Below w.heap.size w w' := by
  have hs := Lib.itoa_length_le n hn.1 hn.2
  have T := sh_itoa n hn w g
  have A1 := fun w => addS (P := Tryz.prog) ⟨#[101, 114, 114, 111, 114, 32]⟩ (bya (Lib.itoa n)) (by show 6 + (Lib.itoa n).toArray.size ≤ _; simp; omega) w
  go_enter Tryz.func7, Tryz.ntmps7
  go_wp2_with fail
  refine T.mono ?_
  rintro e w1 ⟨rfl, hb⟩
  go_wp2
  go_ret
  refine ⟨?_, hb⟩
  have := bya_app [101, 114, 114, 111, 114, 32] (Lib.itoa n)
  rw [show errT n = [101, 114, 114, 111, 114, 32] ++ Lib.itoa n from rfl, ← this]
  rfl

def itoaS (x : Int) : ByteArray := bya (Lib.itoa x)
theorem blkd_is (l : List Int) : Lib.join ((l.map itoaS).map (·.data.toList)) [32] = blkd l := by
  unfold blkd
  rw [List.map_map]
  congr 1
theorem join_len (n : Nat) : ∀ (l : List (List UInt8)), (∀ x ∈ l, x.length ≤ n) → (Lib.join l [32]).length ≤ l.length * (n + 1)
  | [], _ => by simp [Lib.join, List.intercalate]
  | [x], h => by
    have := h x (by simp)
    simp [Lib.join, List.intercalate]
    omega
  | x :: y :: l, h => by
    have h1 := h x (by simp)
    have h2 := join_len n (y :: l) (fun z hz => h z (List.mem_cons_of_mem _ hz))
    have e : Lib.join (x :: y :: l) [32] = x ++ [32] ++ Lib.join (y :: l) [32] := by simp [Lib.join, List.intercalate]
    rw [e]
    simp only [List.length_append, List.length_cons, List.length_nil] at h2 ⊢
    rw [Nat.succ_mul]
    omega
theorem blkd_len {l : List Int} (h : ∀ x ∈ l, wfI x) : (blkd l).length ≤ l.length * 22 := by
  have := join_len 21 (l.map Lib.itoa) (fun y hy => by
    obtain ⟨x, hx, rfl⟩ := List.mem_map.1 hy
    exact Lib.itoa_length_le x (h x hx).1 (h x hx).2)
  simpa [blkd] using this
theorem own_lat {w w' : World} {B n N : Nat} {T : TypeId} {v : Value} {xs : List Value} (h : w.ownsRow B T N v n xs) (hb : Below w.heap.size w w') : w'.ownsRow B T N v n xs := own_keptN h (fun k e => hb.block k (h.lt k e).2)

set_option maxHeartbeats 4000000 in
set_option maxRecDepth 100000 in
theorem blanked_any {b o cap : Nat} {l : List Int} (h0 : l ≠ []) (h8 : l.length ≤ 8) (hw : ∀ x ∈ l, wfI x) (w : World) (g : Gl w) (hb : b < w.heap.size) (hc : ∀ (j : Nat) x, l[j]? = some x → w.cell? ⟨b, o + j, none⟩ = some (.int .i64 x)) :
    Calls Tryz.prog 102 #[.slice (some ⟨b, o, none⟩) l.length cap] w fun e w' => e = .returned (.string (bya (blkd l))) ∧ Below w.heap.size w w' := by
  obtain ⟨i0, hi, hz0, hz1, hz2⟩ := info_parts strInfo
  have HH : Hid (Gl w ∧ (∀ x ∈ l, wfI x) ∧ b < w.heap.size ∧ (∀ (j : Nat) x, l[j]? = some x → w.cell? ⟨b, o + j, none⟩ = some (.int .i64 x)) ∧ l ≠ [] ∧ l.length ≤ 8) := ⟨g, hw, hb, hc, h0, h8⟩
  clear g hw hb hc h0 h8
  go_enter Tryz.func102, Tryz.ntmps102
  go_wp2
  go_loopw [3, 8] (fun tv iv wr => ∃ (k : Nat) (z : Int), k ≤ l.length ∧ z = k ∧ iv = .int .i64 z ∧ Hid (wr.ownsRow w.heap.size 9 1 tv k ((l.take k).map (fun x => Value.string (itoaS x))) ∧ Below w.heap.size w wr)) (fun _ iv _ => l.length - (intOf iv).toNat)
  case atStart => exact ⟨0, 0, Nat.zero_le _, rfl, rfl, World.ownsRow_nil w _ _ _, Below.refl _ _⟩
  case round =>
    rename_i tv _
    obtain ⟨k, z, hk, hz, rfl, HS⟩ := hrel
    have HZ : Hid (z = k) := hz
    by_cases hlt : k < l.length
    · have g1 : z < (l.length : Int) := by omega
      have g2 : 0 ≤ z := by omega
      have g3 : z.toNat = k := by omega
      have g4 : z < 8 := by have := HH.out.2.2.2.2.2; omega
      obtain ⟨x, hx⟩ : ∃ x, l[k]? = some x := ⟨_, List.getElem?_eq_getElem hlt⟩
      obtain ⟨hg, hwf, hb, hc, _⟩ := HH.out
      have c0 : wr.cell? ⟨b, o + k, none⟩ = some (.int .i64 x) := (HS.out.2.cell (p := ⟨b, o + k, none⟩) hb).trans (hc k x hx)
      have T := sh_itoa x (hwf x (List.mem_of_getElem? hx)) wr (hg.later HS.out.2)
      have HX : Hid ((l.take (k + 1)).map (fun x => Value.string (itoaS x)) = (l.take k).map (fun x => Value.string (itoaS x)) ++ [.string (itoaS x)]) := by
        show _ = _
        rw [List.take_add_one, hx]
        simp
      clear hg hwf hb hc hz hx
      go_wp2_with fail
      refine T.mono ?_
      rintro e w2 ⟨rfl, hb2⟩
      have bz := boxed (Below.refl _ w2) (.cells #[.string (itoaS x)] 9)
      have own2 := own_lat (own_lat HS.out.1 hb2) bz
      have HB : Hid (Below w.heap.size w w2) := behind HS.out.2 hb2
      go_wp2_with (at_builtin; refine wpList_append_lies _ rfl _ _ 42 rfl w.heap.size 9 i0 (.string ⟨#[]⟩) 1 16 Tryz.underlying42 hi hz0 hz1 hz2 rfl (by decide) _ _ _ rfl own2 ⟨w2.heap.size, 0, none⟩ 1 1 [.string (itoaS x)] rfl rfl (World.news_of_block (heap_alloc_new w2 (.cells #[.string (itoaS x)] 9))) ?c2 (by decide) ?c3 ?c4 ?c5 _ rfl ?_)
      case c2 => intro u hu; simp at hu; subst hu; rfl
      case c3 => have := HH.out.2.2.2.2.2; unfold maxLen; omega
      case c4 => have := HH.out.2.2.2.2.2; omega
      case c5 => have := HB.out.size; simp; omega
      intro gb gc w3 own3 gr3 at3 lt3
      have FIN : Hid (w3.ownsRow w.heap.size 9 1 (.slice (some ⟨gb, 0, none⟩) (k + 1) gc) (k + 1) ((l.take (k + 1)).map (fun x => Value.string (itoaS x))) ∧ Below w.heap.size w w3) := by
        refine ⟨by rw [HX.out]; simpa [List.map_take] using own3, ?_⟩
        exact (HB.out.alloc HB.out.size _).grown gr3 (by have := HB.out.size; simp; omega) (fun q e => (own2.lt q e).1)
      clear own3 gr3 at3 lt3 own2 HX bz hb2
      go_wp2
      go_roundw
      case rel => exact ⟨k + 1, z + 1, hlt, by have := HZ.out; omega, by go_num, FIN.out⟩
      case measure => simp [intOf]; omega
    · have g1 : ¬ z < (l.length : Int) := by omega
      have hkl : k = l.length := by omega
      subst hkl
      rw [List.take_length] at HS
      obtain ⟨hg, hwf, hb, hc, h0, h8⟩ := HH.out
      have hpos : 0 < l.length := List.length_pos_iff.2 h0
      obtain ⟨gb, gc, rfl, hB, hlt2⟩ := HS.out.1.form hpos
      have hcs := HS.out.1.cells (g := gb) rfl
      have hcap2 : l.length ≤ gc := by
        rcases HS.out.1.2 with ⟨h, _⟩ | ⟨g', c', cur, hv, _, _, hnc, _⟩
        · cases h
        · cases hv; exact hnc
      have J := Tryz.strings_Join gb 0 gc (l.map itoaS) ⟨#[32]⟩ wr (fun j y hy => by
        have := hcs j (.string y) (by rw [List.getElem?_map] at hy ⊢; cases hq : l[j]? with
          | none => rw [hq] at hy; cases hy
          | some q => rw [hq] at hy; injection hy with hy; subst hy; rfl)
        rcases Nat.eq_zero_or_pos j with rfl | hj
        · simpa [Addr.add] using this
        · simpa [Addr.add, Nat.ne_of_gt hj] using this) hlt2 (by simp; omega) (by simpa using hcap2) (by
          rw [show (⟨#[32]⟩ : ByteArray).data.toList = [32] from rfl, blkd_is]
          have := blkd_len hwf
          omega)
      rw [List.length_map, show (⟨#[32]⟩ : ByteArray).data.toList = [32] from rfl, blkd_is] at J
      have HB : Hid (Below w.heap.size w wr) := HS.out.2
      clear hg hwf hb hc h0 h8 hcs hz HS
      go_wp2_with fail
      refine J.mono ?_
      rintro e w2 ⟨rfl, hb2⟩
      go_wp2
      go_ret
      exact ⟨rfl, behind HB.out hb2⟩
end
section
open Go.RowKit
section
variable {W W' : WoS} {j : Nat}
theorem PlI.bring (hb : BringTo W W') : PlI j W → PlI j W' := by
  induction hb with
  | none _ => exact id
  | step _ hd _ ih => exact fun h => ih (h.deliver hd)
theorem PlI.asks {k m : Nat} (ha : AsksTo k m W W') : PlI j W → k < W.n → m ≤ W.n → PlI j W' := by
  induction ha with
  | zero => exact fun h _ _ => h
  | self _ _ ih => exact fun h hk hm => ih h hk (by omega)
  | @ask W W1 W' m h1 hne hb ih =>
    intro h hk hm
    have i1 := ih h hk (by omega)
    have hn : W1.n = W.n := h1.keep.n
    exact PlI.bring hb (i1.send (g := ⟨m, .ask k (W1.S k).a0 (W1.S k).a1 (W1.S k).a2 (W1.S k).a3⟩) (by show m < W1.n; omega) (by show 0 ≤ (k : Int) ∧ (k : Int) < (W1.n : Int); omega))
theorem PlI.round {m : Nat} (hr : RoundTo m W W') : PlI j W → m ≤ W.n → PlI j W' := by
  induction hr with
  | zero => exact fun h _ => h
  | @next W W1 W' m h1 h2 ih =>
    intro h hm
    have hn : W1.n = W.n := h1.keep.n
    exact PlI.asks h2 (ih h (by omega)) (by omega) (Nat.le_refl _)
theorem PlI.calm (h : PlI j W) (hc : CalmTo W W') : PlI j W' := by
  obtain ⟨W1, h1, h2⟩ := hc
  exact PlI.round h2 (PlI.bring h1 h) (Nat.le_refl _)
theorem wrap_in (x : Int) : wfI (wrap64 x) := by
  unfold wfI wrap64
  omega
theorem lost_send {g : GrS} (h : wfI W.lost) : wfI (sendW W g).lost := by
  unfold sendW
  split
  · exact wrap_in _
  · exact h
theorem lost_tell {t : TxP} : ∀ (k : Nat) {W : WoS}, wfI W.lost → wfI (tellW t k W).lost
  | 0, _, h => h
  | k + 1, _, h => by
    unfold tellW
    split
    · exact lost_tell k h
    · exact lost_send (lost_tell k h)
theorem lost_sends {o : Nat} : ∀ (l : List TxP) {W : WoS}, wfI W.lost → wfI (sendsW o l W).lost
  | [], _, h => h
  | t :: l, _, h => by
    unfold sendsW
    refine lost_sends l ?_
    split
    · exact h
    · exact lost_send h
theorem lost_come {g : GrS} (hc : ComeTo W g W') (h : wfI W.lost) : wfI W'.lost := by
  unfold ComeTo at hc
  split at hc
  · obtain ⟨S', _, rfl⟩ := hc
    exact h
  · split at hc
    · rw [hc]
      exact lost_sends _ h
    · rw [hc]; exact h
theorem lost_deliver {i : Nat} (hd : DeliverTo W i W') (h : wfI W.lost) : wfI W'.lost := by
  obtain ⟨g, _, hc⟩ := hd
  exact lost_come hc h
theorem lost_bring (hb : BringTo W W') : wfI W.lost → wfI W'.lost := by
  induction hb with
  | none _ => exact id
  | step _ hd _ ih => exact fun h => ih (lost_deliver hd h)
theorem lost_asks {k m : Nat} (ha : AsksTo k m W W') : wfI W.lost → wfI W'.lost := by
  induction ha with
  | zero => exact id
  | self _ _ ih => exact ih
  | ask _ _ hb ih => exact fun h => lost_bring hb (lost_send (ih h))
theorem lost_round {m : Nat} (hr : RoundTo m W W') : wfI W.lost → wfI W'.lost := by
  induction hr with
  | zero => exact id
  | next _ h2 ih => exact fun h => lost_asks h2 (ih h)
theorem lost_calm (hc : CalmTo W W') (h : wfI W.lost) : wfI W'.lost := by
  obtain ⟨W1, h1, h2⟩ := hc
  exact lost_round h2 (lost_bring h1 h)
end
/-- a session's numbers are small, its texts are short -/
structure SesI (s : SesS) : Prop where
  p0 : small s.p0
  p1 : small s.p1
  p2 : small s.p2
  p3 : small s.p3
  s0 : small s.s0
  s1 : small s.s1
  s2 : small s.s2
  s3 : small s.s3
  ws : ∀ x ∈ s.ws, x.data.size ≤ 12
theorem small_max {a b : Int} (h : small a) (k : small b) : small (maxZ a b) := by unfold maxZ; split <;> assumption
theorem small0 : small 0 := ⟨by decide, by decide⟩
theorem SesI.new : SesI newSes := ⟨small0, small0, small0, small0, small0, small0, small0, small0, fun _ h => (by cases h)⟩
theorem SesI.begin {S : SiteS} {s : SesS} (h : SesI s) (hI : InvS S) : SesI (begS S s) := by
  unfold begS
  split
  · exact ⟨h.p0, h.p1, h.p2, h.p3, hI.a0, hI.a1, hI.a2, hI.a3, fun _ h => (by cases h)⟩
  · exact h
theorem SesI.write {s : SesS} (h : SesI s) (x : Wr) : SesI (wriS s x) := by
  unfold wriS
  split
  · rename_i q
    refine ⟨h.p0, h.p1, h.p2, h.p3, h.s0, h.s1, h.s2, h.s3, fun y hy => ?_⟩
    rcases List.mem_append.1 hy with r | r
    · exact h.ws y r
    · rw [List.mem_singleton.1 r]
      unfold wriE at q
      repeat' split at q
      all_goals first | omega | (exfalso; revert q; decide)
  · exact h
theorem SesI.end_ {s : SesS} (h : SesI s) : SesI (endS s) := ⟨small_max h.p0 h.s0, small_max h.p1 h.s1, small_max h.p2 h.s2, small_max h.p3 h.s3, small0, small0, small0, small0, fun _ h => (by cases h)⟩
theorem SesI.abort {s : SesS} (h : SesI s) : SesI (aboS s) := by
  unfold aboS
  split
  · exact h
  · exact h.end_
theorem SesI.atLeast {s : SesS} (h : SesI s) {site seq : Int} (hq : small seq) : SesI (atLeast site seq s) := by
  refine ⟨?_, ?_, ?_, ?_, h.s0, h.s1, h.s2, h.s3, h.ws⟩
  · show small (if site = 0 then maxZ s.p0 seq else s.p0); split; exact small_max h.p0 hq; exact h.p0
  · show small (if site = 1 then maxZ s.p1 seq else s.p1); split; exact small_max h.p1 hq; exact h.p1
  · show small (if site = 2 then maxZ s.p2 seq else s.p2); split; exact small_max h.p2 hq; exact h.p2
  · show small (if site = 3 then maxZ s.p3 seq else s.p3); split; exact small_max h.p3 hq; exact h.p3
theorem SesI.commit {S : SiteS} {s : SesS} {now : Int} (h : SesI s) (hq : small (scomT S s now).seq) : SesI (scomSes S s now) := by
  unfold scomSes
  split
  · exact h
  · split
    · exact h.end_
    · exact h.end_.atLeast hq
/-- what is always so -/
structure DkI (W : WoS) : Prop where
  pl : ∃ j, PlI j W
  ses : ∀ k, k < W.c → SesI (W.ses k)
  lost : wfI W.lost
section
variable {W W' : WoS} {k : Nat}
theorem DkI.new {n c : Nat} (h1 : 1 ≤ n) (h4 : n ≤ 4) (h6 : c ≤ 6) : DkI (newW n c) := ⟨⟨0, PlI.new h1 h4 h6⟩, fun _ _ => SesI.new, (by show wfI 0; exact ⟨by decide, by decide⟩)⟩
theorem DkI.set {s' : SesS} (h : DkI W) (hp : ∃ j, PlI j (setSes W k s')) (hs : SesI s') : DkI (setSes W k s') := ⟨hp, fun i hi => by
  show SesI (setN W.ses k s' i)
  by_cases q : i = k
  · rw [q, setN_same]; exact hs
  · rw [setN_ne _ _ q]; exact h.ses i hi, h.lost⟩
theorem wcT_small (h : DkI W) (hk : k < W.c) : small (wcT W k).seq := by
  by_cases q : 0 < (wcT W k).seq
  · obtain ⟨j, hj⟩ := h.pl
    have := (hj.told hk q).1
    simp only [okT, okTx, Bool.and_eq_true, inB_iff] at this
    exact ⟨by omega, by omega⟩
  · unfold wcT scomT at q ⊢
    split at q
    · rename_i e; rw [if_pos e]; exact small0
    · rename_i e
      rw [if_neg e]
      unfold comT at q ⊢
      split at q
      · rename_i f
        rw [if_pos f]
        exfalso
        apply q
        obtain ⟨j, hj⟩ := h.pl
        have hI := hj.wf.inv _ (hj.wf.at_ k hk)
        have := commit_okT (ws := allW (W.ses k).ws) hI f
        simp only [okT, okTx, Bool.and_eq_true, inB_iff] at this
        have := this.1.1.1.1.2.1
        omega
      · rename_i f; rw [if_neg f]; exact small0
theorem DkI.cmd {i : Nat} {l : List Int} {d : ByteArray} {er : Int} {t : List UInt8} (h : DkI W) (hc : CmdTo i W l d W' er t) : DkI W' := by
  obtain ⟨j, hj⟩ := h.pl
  unfold CmdTo at hc
  split at hc
  case h_1 k =>
    obtain ⟨_, hc⟩ := hc
    split at hc
    · rename_i q
      have hk : k.toNat < W.c := by have := q.1; have := q.2; omega
      rw [hc.1]
      exact h.set ⟨_, hj.abort hk⟩ (h.ses _ hk).abort
    · rw [hc.1]; exact h
  case h_2 k o =>
    obtain ⟨_, hc⟩ := hc
    split at hc
    · rename_i q
      rw [hc.1]
      exact ⟨⟨j, hj.send (g := ⟨o.toNat, .ask k.toNat (W.S k.toNat).a0 (W.S k.toNat).a1 (W.S k.toNat).a2 (W.S k.toNat).a3⟩) (by show o.toNat < W.n; have := q.2.1.1; have := q.2.1.2; omega) (by show 0 ≤ (k.toNat : Int) ∧ (k.toNat : Int) < (W.n : Int); have := q.1.1; have := q.1.2; omega)⟩, by rw [show (askW W k.toNat o.toNat).c = W.c from (sendW_same _ _).c, show (askW W k.toNat o.toNat).ses = W.ses from (sendW_same _ _).ses]; exact h.ses, lost_send h.lost⟩
    · rw [hc.1]; exact h
  case h_3 k =>
    obtain ⟨_, hc⟩ := hc
    split at hc
    · rename_i q
      have hk : k.toNat < W.c := by have := q.1; have := q.2; omega
      rw [hc.1]
      exact h.set ⟨_, hj.begin hk⟩ ((h.ses _ hk).begin (hj.wf.inv _ (hj.wf.at_ _ hk)))
    · rw [hc.1]; exact h
  case h_4 => exact ⟨⟨j, hj.calm hc.2.1⟩, by rw [hc.2.1.keep.c, hc.2.1.keep.ses]; exact h.ses, lost_calm hc.2.1 h.lost⟩
  case h_5 => rw [hc.1]; exact h
  case h_6 k =>
    split at hc
    · rename_i q
      have hk : k.toNat < W.c := by have := q.1; have := q.2; omega
      rw [hc.2.1]
      have h0 : ∀ i, i < W.c → SesI ((wcW0 W k.toNat).ses i) := fun i hi => by
        show SesI (setN W.ses k.toNat _ i)
        by_cases e : i = k.toNat
        · rw [e, setN_same]; exact (h.ses _ hk).commit (wcT_small h hk)
        · rw [setN_ne _ _ e]; exact h.ses i hi
      refine ⟨⟨j, hj.commit hk⟩, ?_, ?_⟩
      · unfold wcW
        split
        · rw [(tellW_same _ _ _).c, (tellW_same _ _ _).ses]; exact h0
        · exact h0
      · unfold wcW
        split
        · exact lost_tell _ h.lost
        · exact h.lost
    · rw [hc.2.1]; exact h
  case h_7 k =>
    obtain ⟨_, hc⟩ := hc
    split at hc
    · exact ⟨⟨j, hj.deliver hc.1⟩, by rw [hc.1.keep.c, hc.1.keep.ses]; exact h.ses, lost_deliver hc.1 h.lost⟩
    · rw [hc.1]; exact h
  case h_8 k key =>
    obtain ⟨_, hc⟩ := hc
    split at hc
    · rename_i q
      have hk : k.toNat < W.c := by have := q.1; have := q.2; omega
      rw [hc.1]
      exact h.set ⟨_, hj.write hk _⟩ ((h.ses _ hk).write _)
    · rw [hc.1]; exact h
  case h_9 k y =>
    obtain ⟨_, hc⟩ := hc
    split at hc
    · rename_i q
      rw [hc.1]
      exact ⟨⟨j, hj.goes q.2.1 (by have := q.1.1; have := q.1.2; omega)⟩, h.ses, h.lost⟩
    · rw [hc.1]; exact h
  case h_10 => rw [hc.2.1]; exact h
  case h_11 k =>
    obtain ⟨_, hc⟩ := hc
    split at hc
    · rw [hc.1]
      exact ⟨⟨j, hj.drop _⟩, h.ses, h.lost⟩
    · rw [hc.1]; exact h
  case h_12 => rw [hc.2.1]; exact h
  case h_13 k to_ =>
    obtain ⟨_, hc⟩ := hc
    split at hc
    · rename_i q
      rw [hc.1]
      refine ⟨⟨j, hj.move (by have := q.2.1; have := q.2.2; omega)⟩, ?_, ?_⟩ <;> unfold moveW <;> split <;> first | exact h.ses | exact h.lost
    · rw [hc.1]; exact h
  case h_14 => rw [hc.1]; exact h
  case h_15 => rw [hc.1]; exact h
  case h_16 k =>
    obtain ⟨_, hc⟩ := hc
    split at hc
    · rename_i q
      rw [hc.1]
      exact ⟨⟨j, hj.sweep (by have := q.1; have := q.2; omega)⟩, h.ses, h.lost⟩
    · rw [hc.1]; exact h
  case h_17 k =>
    obtain ⟨_, hc⟩ := hc
    split at hc
    · obtain ⟨⟨g, hg, rfl⟩, _⟩ := hc
      exact ⟨⟨j, hj.send (hj.wf.to g (List.mem_of_getElem? hg)) (hj.nt g (List.mem_of_getElem? hg))⟩, by rw [(sendW_same _ _).c, (sendW_same _ _).ses]; exact h.ses, lost_send h.lost⟩
    · rw [hc.1]; exact h
  case h_18 n c =>
    obtain ⟨_, hc⟩ := hc
    split at hc
    · rename_i q
      rw [hc.1]
      exact DkI.new (by omega) (by omega) (by omega)
    · rw [hc.1]; exact h
  case h_19 k key =>
    obtain ⟨_, hc⟩ := hc
    split at hc
    · rename_i q
      have hk : k.toNat < W.c := by have := q.1; have := q.2; omega
      rw [hc.1]
      exact h.set ⟨_, hj.write hk _⟩ ((h.ses _ hk).write _)
    · rw [hc.1]; exact h
  case h_20 => exact hc.elim
theorem DkI.does {i : Nat} {rest : List ByteArray} {er : Int} {t : List UInt8} (h : DkI W) (hd : DoTo i W rest W' er t) : DkI W' := by
  unfold DoTo at hd
  split at hd
  · rw [hd.1]; exact h
  · exact h.cmd hd
end
end
section
open Go.RowKit Go.Maps
theorem wp_callP {P : Program} {o : Oper} {a : Act} {w : World} {K : Act → World → Prop} {Q : Exit → Act → World → Prop} (f : FuncId) (args : Array Value) (he : (execOp a.eval o).run P w = .ok (.enter f args) w) {R : Ending → World → Prop} (h : Calls P f args w R)
    (hK : ∀ e w', R e w' → (∃ v, e = .returned v ∧ K (a.put o.dst v) w') ∨ ∃ ch, e = .panicked ch ∧ Q (.panic ch) a w') : Oper.wp P o a w K Q := by
  unfold Oper.wp
  rw [he, Oper.upon_enter]
  refine h.mono fun e w' hr => ?_
  rcases hK e w' hr with ⟨v, rfl, hk⟩ | ⟨ch, rfl, hk⟩
  · exact hk
  · exact hk
def fnOf (i : Nat) : Nat := [46, 47, 48, 49, 50, 51, 52, 53, 54, 55, 56, 57, 58, 59, 60, 61, 62, 63, 64].getD i 0
/-- what the table holds: a method of this clerk -/
def doV (cb i : Nat) : Value := .func (.func (fnOf i)) #[.pointer (some ⟨cb, 0, none⟩)] #[]
/-- the first n entries of the table -/
structure DMapIs (D : DataW Value) (cb n : Nat) : Prop where
  size : Maps.size D = n
  has : ∀ i, i < n → Maps.has D (.string (nameOf i)) = true ∧ ∀ z, D.atKey (.string (nameOf i)) z = .held (doV cb i)
  no : ∀ s, (∀ i, i < n → s ≠ nameOf i) → Maps.has D (.string s) = false ∧ ∀ z, D.atKey (.string s) z = z
def DMap (w : World) (mb cb n : Nat) : Prop := ∃ D, w.ownsMap Tryz.prog 9 heldR mb n D ∧ DMapIs D cb n
theorem DMap.kept {w w' : World} {mb cb n : Nat} (h : DMap w mb cb n) (e : w'.heap[mb]? = w.heap[mb]?) : DMap w' mb cb n := by
  obtain ⟨D, ⟨es, clock, hb, r⟩, h4⟩ := h
  exact ⟨D, ⟨es, clock, by rw [e]; exact hb, r⟩, h4⟩
theorem DMap.lt {w : World} {mb cb n : Nat} (h : DMap w mb cb n) : mb < w.heap.size := by
  obtain ⟨D, h, _⟩ := h
  exact h.lt
/-- a clerk, its world in the box b, in blocks of Gw -/
structure CkAt (w : World) (cb mb b : Nat) (Gw : Nat → Prop) (W : WoS) : Prop where
  box : w.heap[cb]? = some (.cells #[.pointer (some ⟨b, 0, none⟩), .map (some mb)] 57 (0, 0))
  map : DMap w mb cb 19
  pw : PW w b Gw W
  n1 : cb ≠ mb
  n2 : ¬ Gw cb
  n3 : ¬ Gw mb
def CkIs (cb mb : Nat) (W : WoS) (w : World) (G : Nat → Prop) : Prop := ∃ b Gw, CkAt w cb mb b Gw W ∧ ∀ k, G k ↔ (k = cb ∨ k = mb ∨ Gw k)
section
variable {w w' : World} {cb mb b : Nat} {Gw G : Nat → Prop} {W W' : WoS}
theorem CkAt.ltc (h : CkAt w cb mb b Gw W) : cb < w.heap.size := (Array.getElem?_eq_some_iff.1 h.box).1
theorem CkAt.kept (h : CkAt w cb mb b Gw W) (hk : ∀ k, (k = cb ∨ k = mb ∨ Gw k) → w'.heap[k]? = w.heap[k]?) (hs : w.heap.size ≤ w'.heap.size) : CkAt w' cb mb b Gw W :=
  ⟨(hk cb (.inl rfl)).trans h.box, h.map.kept (hk mb (.inr (.inl rfl))), h.pw.kept (fun k e => hk k (.inr (.inr e))) hs, h.n1, h.n2, h.n3⟩
theorem CkIs.lt (h : CkIs cb mb W w G) : ∀ k, G k → k < w.heap.size := fun k hk => by
  obtain ⟨b, Gw, h, hG⟩ := h
  rcases (hG k).1 hk with rfl | rfl | e
  · exact h.ltc
  · exact h.map.lt
  · exact h.pw.lt k e
theorem CkIs.kept (h : CkIs cb mb W w G) (hk : ∀ k, G k → w'.heap[k]? = w.heap[k]?) (hs : w.heap.size ≤ w'.heap.size) : CkIs cb mb W w' G := by
  obtain ⟨b, Gw, h, hG⟩ := h
  exact ⟨b, Gw, h.kept (fun k e => hk k ((hG k).2 e)) hs, hG⟩
def ckP (cb mb : Nat) (W : WoS) : Part := ⟨fun w G => CkIs cb mb W w G, fun _ _ h => h.lt, fun _ _ _ h => h.kept⟩
theorem CkAt.later (h : CkAt w cb mb b Gw W) (hb : Below w.heap.size w w') : CkAt w' cb mb b Gw W :=
  h.kept (fun k e => hb.block k (by rcases e with rfl | rfl | e; exact h.ltc; exact h.map.lt; exact h.pw.lt k e)) hb.size
theorem CkAt.cell0 (h : CkAt w cb mb b Gw W) : w.cell? ⟨cb, 0, none⟩ = some (.pointer (some ⟨b, 0, none⟩)) := by rw [Lib.cell_of_heap h.box]; rfl
theorem CkAt.cell1 (h : CkAt w cb mb b Gw W) : w.cell? ⟨cb, 1, none⟩ = some (.map (some mb)) := by rw [Lib.cell_of_heap h.box]; rfl
theorem CkAt.op {w1 : World} (h : CkAt w cb mb b Gw W) (hG : ∀ k, G k ↔ (k = cb ∨ k = mb ∨ Gw k)) (hb : Below w.heap.size w w1) (hp : PWPo w1 b Gw W' w') : Left (ckP cb mb W') w G w' := by
  obtain ⟨G', p1, p2, tt⟩ := hp
  have h1 := h.later hb
  have lc : cb < w1.heap.size := h1.ltc
  have lm : mb < w1.heap.size := h1.map.lt
  refine ⟨fun k => k = cb ∨ k = mb ∨ G' k, ⟨b, G', ⟨(tt.block cb lc h.n2).trans h1.box, h1.map.kept (tt.block mb lm h.n3), p1, h.n1, fun e => ?_, fun e => ?_⟩, fun _ => Iff.rfl⟩, fun k hk => ?_, ?_⟩
  · rcases p2 cb e with q | q
    · exact h.n2 q
    · omega
  · rcases p2 mb e with q | q
    · exact h.n3 q
    · omega
  · rcases hk with rfl | rfl | e
    · exact .inl ((hG k).2 (.inl rfl))
    · exact .inl ((hG k).2 (.inr (.inl rfl)))
    · rcases p2 k e with q | q
      · exact .inl ((hG k).2 (.inr (.inr q)))
      · exact .inr (Nat.le_trans hb.size q)
  · exact (Touch.ofBelow hb).trans ⟨tt.os, tt.tape, tt.output, tt.size, fun k hk hn => tt.block k hk (fun e => hn ((hG k).2 (.inr (.inr e))))⟩
theorem CkAt.same (h : CkAt w cb mb b Gw W) (hG : ∀ k, G k ↔ (k = cb ∨ k = mb ∨ Gw k)) (hb : Below w.heap.size w w') : Left (ckP cb mb W) w G w' :=
  ⟨G, ⟨b, Gw, h.later hb, hG⟩, fun _ hk => .inl hk, Touch.ofBelow hb⟩
theorem CkAt.after {w1 : World} (h : Left (ckP cb mb W') w G w1) (hb : Below w1.heap.size w1 w') : Left (ckP cb mb W') w G w' := by
  obtain ⟨G', p1, p2, tt⟩ := h
  exact ⟨G', p1.kept (fun k e => hb.block k (p1.lt k e)) hb.size, p2, tt.trans (Touch.ofBelow hb)⟩
end
/-- how a command ends: what is told, or what is thrown -/
def EndIs (er : Int) (told : List UInt8) (e : Ending) : Prop := (er = 0 ∧ e = .returned (.string (bya told))) ∨ (er ≠ 0 ∧ e = thrown er)
def DoPost (i : Nat) (W : WoS) (rest : List ByteArray) (w : World) (cb mb : Nat) (G : Nat → Prop) (e : Ending) (w' : World) : Prop :=
  ∃ W' er told, DoTo i W rest W' er told ∧ EndIs er told e ∧ Left (ckP cb mb W') w G w'
/-- what a command's walk has to hand -/
structure DoPre (w : World) (cb mb b : Nat) (Gw G : Nat → Prop) (W : WoS) (j : Nat) (a : Option Addr) (cap : Nat) (l : List ByteArray) : Prop where
  ck : CkAt w cb mb b Gw W
  g : ∀ k, G k ↔ (k = cb ∨ k = mb ∨ Gw k)
  gl : Gl w
  gn : ∀ k, k < 10 → ¬ G k
  wi : PlI j W
  di : DkI W
  st : StrIn w a cap l
  sm : ∀ x ∈ l, x.size ≤ 1000000
section
variable {w : World} {cb mb b j cap : Nat} {Gw G : Nat → Prop} {W : WoS} {a : Option Addr} {l : List ByteArray}
theorem DoPre.no {i : Nat} {w' : World} (h : DoPre w cb mb b Gw G W j a cap l) (hi : i ≠ 18) (hn : numsN (arity i) l = none) (hb : Below w.heap.size w w') : DoPost i W l w cb mb G (thrown 3) w' :=
  ⟨W, 3, [], by unfold DoTo; rw [if_neg hi, hn]; exact ⟨rfl, rfl, rfl⟩, .inr ⟨by decide, rfl⟩, h.ck.same h.g hb⟩
theorem DoPre.gl2 {W' : WoS} {w1 w2 : World} (h : DoPre w cb mb b Gw G W j a cap l) (hb : Below w.heap.size w w1) (hp : PWPo w1 b Gw W' w2) : Gl w2 := by
  obtain ⟨G', _, _, tt⟩ := hp
  exact (h.gl.later hb).kept (fun k hk => tt.block k (Nat.lt_of_lt_of_le hk (h.gl.later hb).sz) (fun e => h.gn k hk ((h.g k).2 (.inr (.inr e))))) tt.size
theorem DoPre.yes {i : Nat} {ns : List Int} {W' : WoS} {er : Int} {told : List UInt8} {w1 w2 w3 : World} {e : Ending} (h : DoPre w cb mb b Gw G W j a cap l) (hi : i ≠ 18) (hn : numsN (arity i) l = some ns) (hb : Below w.heap.size w w1) (hc : CmdTo i W ns (l.getD 2 ⟨#[]⟩) W' er told) (hp : PWPo w1 b Gw W' w2) (hb2 : Below w2.heap.size w2 w3) (he : EndIs er told e) : DoPost i W l w cb mb G e w3 :=
  ⟨W', er, told, by unfold DoTo; rw [if_neg hi, hn]; exact hc, he, CkAt.after (h.ck.op h.g hb hp) hb2⟩
end
theorem CmdTo.data {i : Nat} {W W' : WoS} {l : List Int} {d d' : ByteArray} {er : Int} {t : List UInt8} (hi : i ≠ 18) (h : CmdTo i W l d W' er t) : CmdTo i W l d' W' er t := by
  unfold CmdTo at h ⊢
  split at h <;> first | exact h | exact absurd rfl hi
end
section
open Go.RowKit
theorem bya_size (l : List UInt8) : (bya l).size = l.length := by simp [ByteArray.size]
theorem row4_ints {w : World} {b : Nat} {a0 a1 a2 a3 : Int} (h : Row4 w b a0 a1 a2 a3) : ∀ (q : Nat) x, [a0, a1, a2, a3][q]? = some x → w.cell? ⟨b, 0 + q, none⟩ = some (.int .i64 x)
  | 0, x, hx => by simp at hx; subst hx; exact h.c0
  | 1, x, hx => by simp at hx; subst hx; exact h.c1
  | 2, x, hx => by simp at hx; subst hx; exact h.c2
  | 3, x, hx => by simp at hx; subst hx; exact h.c3
  | q + 4, x, hx => by simp at hx
end
/-- small, and no less than 0 -/
def Few (n : Int) : Prop := 0 ≤ n ∧ n ≤ 100
theorem Few.wf {n : Int} (h : Few n) : wfI n := ⟨by have := h.1; omega, by have := h.2; omega⟩
theorem few_if {c : Prop} [Decidable c] {a b : Int} (h : Few a) (k : Few b) : Few (if c then a else b) := by
  by_cases q : c
  · rw [if_pos q]; exact h
  · rw [if_neg q]; exact k
theorem few_0 : Few 0 := ⟨by decide, by decide⟩
theorem few_1 : Few 1 := ⟨by decide, by decide⟩
theorem few_2 : Few 2 := ⟨by decide, by decide⟩
theorem few_3 : Few 3 := ⟨by decide, by decide⟩
theorem few_4 : Few 4 := ⟨by decide, by decide⟩
theorem few_6 : Few 6 := ⟨by decide, by decide⟩
theorem few_8 : Few 8 := ⟨by decide, by decide⟩
theorem few_10 : Few 10 := ⟨by decide, by decide⟩
theorem few_12 : Few 12 := ⟨by decide, by decide⟩
theorem few_abo (s : SesS) : Few (aboE s) := few_if few_6 few_0
theorem few_beg (S : SiteS) (s : SesS) : Few (begE S s) := few_if few_6 (few_if few_10 few_0)
theorem few_wri (s : SesS) (x : Wr) : Few (wriE s x) := few_if few_6 (few_if few_2 (few_if few_4 (few_if few_1 (few_if few_12 few_0))))
theorem few_move (W : WoS) (k : Nat) : Few (moveE W k) := few_if few_6 few_0
theorem if_snd {α : Type} {c : Prop} [Decidable c] {a b : α × Int} (h : Few a.2) (k : Few b.2) : Few (if c then a else b).2 := by
  by_cases q : c
  · rw [if_pos q]; exact h
  · rw [if_neg q]; exact k
theorem if_snd2 {α β : Type} {c : Prop} [Decidable c] {a b : α × β × Int} (h : Few a.2.2) (k : Few b.2.2) : Few (if c then a else b).2.2 := by
  by_cases q : c
  · rw [if_pos q]; exact h
  · rw [if_neg q]; exact k
theorem few_next (a b c : Int) : Few (nextP a b c).2.2 := if_snd2 few_2 (if_snd2 few_2 (if_snd2 few_0 (if_snd2 few_12 few_0)))
theorem few_o (o : Option Ver) : Few (readO o).2 := by
  unfold readO
  repeat' split
  all_goals first | exact few_0 | exact few_8
theorem few_commit (S : SiteS) (n : Nat) (now d0 d1 d2 d3 : Int) (ws : List Wr) : Few (commitE S n now d0 d1 d2 d3 ws) := by
  unfold commitE
  exact few_if few_1 (few_if few_10 (few_if few_10 (few_if few_12 (few_next ..))))
theorem few_com (W : WoS) (k : Nat) : Few (wcE W k) := few_if few_6 (few_if few_0 (few_commit ..))
theorem few_rd (S : SiteS) (k a0 a1 a2 a3 : Int) : Few (readS S k a0 a1 a2 a3).2 := if_snd (if_snd (few_o _) few_2) few_10
theorem few_read (S : SiteS) (s : SesS) (k : Int) : Few (sreadV S s k).2 := by
  unfold sreadV
  by_cases q : s.opn = false
  · rw [if_pos q]; exact few_6
  · rw [if_neg q]
    cases ownW s.ws k with
    | none => exact few_rd ..
    | some x =>
      by_cases g : x.gone = true
      · simp only [if_pos g]; exact few_8
      · simp only [if_neg g]; exact few_0
theorem CmdTo.few {i : Nat} {W W' : WoS} {l : List Int} {d : ByteArray} {er : Int} {t : List UInt8} (h : CmdTo i W l d W' er t) : Few er := by
  unfold CmdTo at h
  split at h
  case h_1 => have h := h.2; split at h <;> (rw [h.2]; first | exact few_abo _ | exact few_2)
  case h_2 => have h := h.2; split at h <;> (rw [h.2]; first | exact few_0 | exact few_2)
  case h_3 => have h := h.2; split at h <;> (rw [h.2]; first | exact few_beg _ _ | exact few_2)
  case h_4 => rw [h.2.2]; exact few_0
  case h_5 => have h := h.2; split at h <;> (rw [h.2]; first | exact few_0 | exact few_2)
  case h_6 => split at h <;> (rw [h.2.2]; first | exact few_com _ _ | exact few_2)
  case h_7 => have h := h.2; split at h <;> (rw [h.2]; first | exact few_0 | exact few_2)
  case h_8 => have h := h.2; split at h <;> (rw [h.2]; first | exact few_wri _ _ | exact few_2)
  case h_9 => have h := h.2; split at h <;> (rw [h.2]; first | exact few_0 | exact few_2)
  case h_10 => rw [h.2.2]; exact few_0
  case h_11 => have h := h.2; split at h <;> (rw [h.2]; first | exact few_0 | exact few_2)
  case h_12 => rw [h.2.2]; exact few_0
  case h_13 => have h := h.2; split at h <;> (rw [h.2]; first | exact few_move _ _ | exact few_2)
  case h_14 => have h := h.2; split at h <;> (rw [h.2]; first | exact few_read _ _ _ | exact few_2)
  case h_15 => have h := h.2; split at h <;> (rw [h.2]; first | exact few_0 | exact few_2)
  case h_16 => have h := h.2; split at h <;> (rw [h.2]; first | exact few_0 | exact few_2)
  case h_17 => have h := h.2; split at h <;> (rw [h.2]; first | exact few_0 | exact few_2)
  case h_18 => have h := h.2; split at h <;> (rw [h.2]; first | exact few_0 | exact few_2)
  case h_19 => have h := h.2; split at h <;> (rw [h.2]; first | exact few_wri _ _ | exact few_2)
  case h_20 => exact h.elim
theorem DoTo.few {i : Nat} {W W' : WoS} {l : List ByteArray} {er : Int} {t : List UInt8} (h : DoTo i W l W' er t) : Few er := by
  unfold DoTo at h
  split at h
  · rw [h.2.1]; exact few_3
  · exact h.few
/-- cut at every line feed -/
def linesL : List UInt8 → List (List UInt8)
  | [] => [[]]
  | c :: r => if c = 10 then [] :: linesL r else
    match linesL r with
    | h :: t => (c :: h) :: t
    | [] => [[c]]
/-- a text's lines: a line feed at its end begins no other -/
def linesT (s : List UInt8) : List (List UInt8) := linesL (Lib.trimSuffix s [10])
theorem linesL_ne (s : List UInt8) : linesL s ≠ [] := by
  cases s with
  | nil => simp [linesL]
  | cons c r =>
    unfold linesL
    split
    · simp
    · split <;> simp
theorem linesL_cons (c : UInt8) (r : List UInt8) : linesL (c :: r) = if c = 10 then [] :: linesL r else match linesL r with | h :: t => (c :: h) :: t | [] => [[c]] := rfl
theorem linesL_app (s t : List UInt8) : linesL (s ++ 10 :: t) = linesL s ++ linesL t := by
  induction s with
  | nil => simp [linesL]
  | cons c r ih =>
    rw [List.cons_append, linesL_cons, linesL_cons c r]
    by_cases e : c = 10
    · rw [if_pos e, if_pos e, ih]; rfl
    · rw [if_neg e, if_neg e, ih]
      cases h : linesL r with
      | nil => exact absurd h (linesL_ne r)
      | cons x y => rfl
theorem trim_nl (a : List UInt8) : Lib.trimSuffix (a ++ [10]) [10] = a := by
  unfold Lib.trimSuffix
  rw [if_pos (by simp [Lib.hasSuffix])]
  simp
theorem trim_app (a b : List UInt8) (hb : b ≠ []) : Lib.trimSuffix (a ++ b) [10] = a ++ Lib.trimSuffix b [10] := by
  obtain ⟨c, x, rfl⟩ : ∃ c x, b = c ++ [x] := by
    rcases List.eq_nil_or_concat b with e | ⟨c, x, e⟩
    · exact absurd e hb
    · exact ⟨c, x, by simpa using e⟩
  by_cases e : x = 10
  · subst e
    rw [← List.append_assoc, trim_nl, trim_nl]
  · unfold Lib.trimSuffix
    have no : ∀ z : List UInt8, ¬ Lib.hasSuffix (z ++ [x]) [10] = true := fun z q => by
      have q1 := List.isSuffixOf_iff_suffix.1 q
      obtain ⟨u, hu⟩ := q1
      have := List.append_inj_right' hu rfl
      injection this with this
      exact e this.symm
    rw [if_neg (by rw [← List.append_assoc]; exact no _), if_neg (no _)]
theorem linesT_cut (a b : List UInt8) : ∃ r, linesT (a ++ 10 :: b) = linesT (a ++ [10]) ++ r := by
  unfold linesT
  rw [trim_nl]
  by_cases h : b = []
  · subst h
    exact ⟨[], by rw [trim_nl, List.append_nil]⟩
  · refine ⟨linesL (Lib.trimSuffix b [10]), ?_⟩
    rw [show a ++ 10 :: b = (a ++ [10]) ++ b by simp, trim_app _ _ h, List.append_assoc, List.singleton_append, linesL_app]
theorem cut_nil : Lib.cut [] [10] = ([], [], false) := by decide
theorem cut_cons (c : UInt8) (r : List UInt8) : Lib.cut (c :: r) [10] = if c = 10 then ([], r, true) else (c :: (Lib.cut r [10]).1, (Lib.cut r [10]).2.1, (Lib.cut r [10]).2.2) := by
  have hx : Lib.index (c :: r) [10] = if c = 10 then 0 else if Lib.index r [10] == -1 then -1 else Lib.index r [10] + 1 := by
    conv => lhs; unfold Lib.index
    by_cases e : c = 10
    · simp [e, List.isPrefixOf]
    · simp [e, List.isPrefixOf, Ne.symm e]
  have hg := Lib.index_ge r [10]
  unfold Lib.cut
  rw [hx]
  by_cases e : c = 10
  · simp [e]
  · rw [if_neg e, if_neg e]
    by_cases q : Lib.index r [10] = -1
    · simp [q]
    · have q0 : 0 ≤ Lib.index r [10] := by omega
      rw [if_neg (show ¬ (Lib.index r [10] == -1) = true by simp [q]), if_pos (show 0 ≤ Lib.index r [10] + 1 by omega), if_pos q0, show (Lib.index r [10] + 1).toNat = (Lib.index r [10]).toNat + 1 by omega]
      simp
theorem linesL_cut (s : List UInt8) : linesL s = if (Lib.cut s [10]).2.2 = true then (Lib.cut s [10]).1 :: linesL (Lib.cut s [10]).2.1 else [(Lib.cut s [10]).1] := by
  induction s with
  | nil => rw [cut_nil]; rfl
  | cons c r ih =>
    rw [linesL_cons, cut_cons]
    by_cases e : c = 10
    · simp [e]
    · rw [if_neg e, if_neg e, ih]
      by_cases q : (Lib.cut r [10]).2.2 = true
      · simp [q]
      · simp [q]
theorem cut_less (s : List UInt8) (h : (Lib.cut s [10]).2.2 = true) : (Lib.cut s [10]).2.1.length < s.length := by
  induction s with
  | nil => rw [cut_nil] at h; cases h
  | cons c r ih =>
    rw [cut_cons] at h ⊢
    by_cases e : c = 10
    · simp [e]
    · rw [if_neg e] at h ⊢
      have := ih h
      simp only [List.length_cons]
      omega
section
open Go.RowKit Go.Maps
set_option maxRecDepth 100000
set_option maxHeartbeats 8000000
theorem strLaw : Keyed Tryz.prog 9 := string_keyed Tryz.underlying9
theorem strKey {s : ByteArray} (h : s.size ≤ maxLen) : keyOf Tryz.prog 9 (.string s) = some (.string s.data.toList) := by
  unfold keyOf
  rw [Tryz.underlying9]
  simp [mapKey, h, Tryz.underlying9]
theorem str_key (s : List UInt8) : WideAt.IsKeyLit (.string s) := trivial
theorem nameOf_inj : ∀ i < 19, ∀ j < 19, nameOf i = nameOf j → i = j := by decide
theorem DMapIs.put {D : DataW Value} {cb n : Nat} (hD : Tidy D) (h : DMapIs D cb n) (hn : n < 19) : DMapIs (D.put (.string (nameOf n)) (.held (doV cb n))) cb (n + 1) := by
  have hno := h.no (nameOf n) (fun i hi e => by have := nameOf_inj n hn i (by omega) e; omega)
  refine ⟨?_, fun i hi => ?_, fun s hs => ?_⟩
  · rw [size_put hD, hno.1, h.size]; simp
  · by_cases e : i = n
    · subst e
      exact ⟨has_put_same hD.isMap (str_key _) _, fun z => atKey_put_same hD.isMap (str_key _) _ z⟩
    · have hne : (Lit.string (nameOf i)) ≠ .string (nameOf n) := fun e2 => e (nameOf_inj i (by omega) n hn (by injection e2))
      have hh := h.has i (by omega)
      exact ⟨by rw [has_put_other hne]; exact hh.1, fun z => by rw [atKey_put_other hne]; exact hh.2 z⟩
  · have hne : (Lit.string s) ≠ .string (nameOf n) := fun e2 => hs n (by omega) (by injection e2)
    have hh := h.no s (fun i hi => hs i (by omega))
    exact ⟨by rw [has_put_other hne]; exact hh.1, fun z => by rw [atKey_put_other hne]; exact hh.2 z⟩
theorem DMap.made (w : World) (cb : Nat) : DMap (w.alloc (.map #[] 0)) w.heap.size cb 0 :=
  ⟨_, World.ownsMap_made w _ _ _, ⟨rfl, fun i hi => absurd hi (by omega), fun _ _ => ⟨rfl, fun _ => rfl⟩⟩⟩
theorem DMap.put {w : World} {mb cb : Nat} (n : Nat) (s : ByteArray) (h : DMap w mb cb n) (hn : n < 19) (hs : s.data.toList = nameOf n) (hz : s.size ≤ maxLen) : ∃ w', (Instr.mapUpdate 55 (.map (some mb)) (.string s) (doV cb n)).run Tryz.prog w = .ok () w' ∧ Hid (DMap w' mb cb (n + 1) ∧ w.grownBy w' (some mb)) := by
  obtain ⟨D, o, d⟩ := h
  obtain ⟨w', hr, o', t⟩ := o.store strLaw Tryz.underlying55 (by simp only [maxLen]; omega) (strKey hz) (val := doV cb n) (d := .held (doV cb n)) (ps := []) rfl
  rw [hs] at o'
  exact ⟨w', hr, ⟨_, o', d.put (o.tidy strLaw) hn⟩, t.grown⟩
theorem grown_below {n mb : Nat} {w w1 w2 : World} (hb : Below n w w1) (hm : n ≤ mb) (g : w1.grownBy w2 (some mb)) (hn : n ≤ w1.heap.size) : Below n w w2 :=
  ⟨g.os.trans hb.os, g.tape.trans hb.tape, g.output.trans hb.output, Nat.le_trans hb.size g.size, fun k hk => (g.block k (by omega) (fun e => by injection e with e; omega)).trans (hb.block k hk)⟩
theorem table_any (cb : Nat) (w : World) : Calls Tryz.prog 19 #[.pointer (some ⟨cb, 0, none⟩)] w fun e w' => e = .returned (.map (some w.heap.size)) ∧ DMap w' w.heap.size cb 19 ∧ Below w.heap.size w w' := by
  have M0 : Hid (DMap (w.alloc (.map #[] 0)) w.heap.size cb 0 ∧ Below w.heap.size w (w.alloc (.map #[] 0))) := ⟨DMap.made w cb, boxed (Below.refl _ w) _⟩
  obtain ⟨w1, r1, H⟩ := DMap.put 0 ⟨#[97, 98, 111, 114, 116]⟩ M0.out.1 (by omega) (by rfl) (by decide)
  have M1 : Hid (DMap w1 w.heap.size cb 1 ∧ Below w.heap.size w w1) := ⟨H.out.1, grown_below M0.out.2 (Nat.le_refl _) H.out.2 M0.out.2.size⟩
  replace r1 : (Instr.mapUpdate 55 (.map (some w.heap.size)) (.string ⟨#[97, 98, 111, 114, 116]⟩) (.func (.func 46) #[.pointer (some ⟨cb, 0, none⟩)] #[])).run Tryz.prog (w.alloc (.map #[] 0)) = .ok () w1 := r1
  clear H M0
  obtain ⟨w2, r2, H⟩ := DMap.put 1 ⟨#[97, 115, 107]⟩ M1.out.1 (by omega) (by rfl) (by decide)
  have M2 : Hid (DMap w2 w.heap.size cb 2 ∧ Below w.heap.size w w2) := ⟨H.out.1, grown_below M1.out.2 (Nat.le_refl _) H.out.2 M1.out.2.size⟩
  replace r2 : (Instr.mapUpdate 55 (.map (some w.heap.size)) (.string ⟨#[97, 115, 107]⟩) (.func (.func 47) #[.pointer (some ⟨cb, 0, none⟩)] #[])).run Tryz.prog w1 = .ok () w2 := r2
  clear H M1
  obtain ⟨w3, r3, H⟩ := DMap.put 2 ⟨#[98, 101, 103, 105, 110]⟩ M2.out.1 (by omega) (by rfl) (by decide)
  have M3 : Hid (DMap w3 w.heap.size cb 3 ∧ Below w.heap.size w w3) := ⟨H.out.1, grown_below M2.out.2 (Nat.le_refl _) H.out.2 M2.out.2.size⟩
  replace r3 : (Instr.mapUpdate 55 (.map (some w.heap.size)) (.string ⟨#[98, 101, 103, 105, 110]⟩) (.func (.func 48) #[.pointer (some ⟨cb, 0, none⟩)] #[])).run Tryz.prog w2 = .ok () w3 := r3
  clear H M2
  obtain ⟨w4, r4, H⟩ := DMap.put 3 ⟨#[99, 97, 108, 109]⟩ M3.out.1 (by omega) (by rfl) (by decide)
  have M4 : Hid (DMap w4 w.heap.size cb 4 ∧ Below w.heap.size w w4) := ⟨H.out.1, grown_below M3.out.2 (Nat.le_refl _) H.out.2 M3.out.2.size⟩
  replace r4 : (Instr.mapUpdate 55 (.map (some w.heap.size)) (.string ⟨#[99, 97, 108, 109]⟩) (.func (.func 49) #[.pointer (some ⟨cb, 0, none⟩)] #[])).run Tryz.prog w3 = .ok () w4 := r4
  clear H M3
  obtain ⟨w5, r5, H⟩ := DMap.put 4 ⟨#[99, 108, 105, 101, 110, 116]⟩ M4.out.1 (by omega) (by rfl) (by decide)
  have M5 : Hid (DMap w5 w.heap.size cb 5 ∧ Below w.heap.size w w5) := ⟨H.out.1, grown_below M4.out.2 (Nat.le_refl _) H.out.2 M4.out.2.size⟩
  replace r5 : (Instr.mapUpdate 55 (.map (some w.heap.size)) (.string ⟨#[99, 108, 105, 101, 110, 116]⟩) (.func (.func 50) #[.pointer (some ⟨cb, 0, none⟩)] #[])).run Tryz.prog w4 = .ok () w5 := r5
  clear H M4
  obtain ⟨w6, r6, H⟩ := DMap.put 5 ⟨#[99, 111, 109, 109, 105, 116]⟩ M5.out.1 (by omega) (by rfl) (by decide)
  have M6 : Hid (DMap w6 w.heap.size cb 6 ∧ Below w.heap.size w w6) := ⟨H.out.1, grown_below M5.out.2 (Nat.le_refl _) H.out.2 M5.out.2.size⟩
  replace r6 : (Instr.mapUpdate 55 (.map (some w.heap.size)) (.string ⟨#[99, 111, 109, 109, 105, 116]⟩) (.func (.func 51) #[.pointer (some ⟨cb, 0, none⟩)] #[])).run Tryz.prog w5 = .ok () w6 := r6
  clear H M5
  obtain ⟨w7, r7, H⟩ := DMap.put 6 ⟨#[100, 101, 108, 105, 118, 101, 114]⟩ M6.out.1 (by omega) (by rfl) (by decide)
  have M7 : Hid (DMap w7 w.heap.size cb 7 ∧ Below w.heap.size w w7) := ⟨H.out.1, grown_below M6.out.2 (Nat.le_refl _) H.out.2 M6.out.2.size⟩
  replace r7 : (Instr.mapUpdate 55 (.map (some w.heap.size)) (.string ⟨#[100, 101, 108, 105, 118, 101, 114]⟩) (.func (.func 52) #[.pointer (some ⟨cb, 0, none⟩)] #[])).run Tryz.prog w6 = .ok () w7 := r7
  clear H M6
  obtain ⟨w8, r8, H⟩ := DMap.put 7 ⟨#[100, 114, 111, 112]⟩ M7.out.1 (by omega) (by rfl) (by decide)
  have M8 : Hid (DMap w8 w.heap.size cb 8 ∧ Below w.heap.size w w8) := ⟨H.out.1, grown_below M7.out.2 (Nat.le_refl _) H.out.2 M7.out.2.size⟩
  replace r8 : (Instr.mapUpdate 55 (.map (some w.heap.size)) (.string ⟨#[100, 114, 111, 112]⟩) (.func (.func 53) #[.pointer (some ⟨cb, 0, none⟩)] #[])).run Tryz.prog w7 = .ok () w8 := r8
  clear H M7
  obtain ⟨w9, r9, H⟩ := DMap.put 8 ⟨#[103, 111, 101, 115]⟩ M8.out.1 (by omega) (by rfl) (by decide)
  have M9 : Hid (DMap w9 w.heap.size cb 9 ∧ Below w.heap.size w w9) := ⟨H.out.1, grown_below M8.out.2 (Nat.le_refl _) H.out.2 M8.out.2.size⟩
  replace r9 : (Instr.mapUpdate 55 (.map (some w.heap.size)) (.string ⟨#[103, 111, 101, 115]⟩) (.func (.func 54) #[.pointer (some ⟨cb, 0, none⟩)] #[])).run Tryz.prog w8 = .ok () w9 := r9
  clear H M8
  obtain ⟨w10, r10, H⟩ := DMap.put 9 ⟨#[104, 101, 108, 112]⟩ M9.out.1 (by omega) (by rfl) (by decide)
  have M10 : Hid (DMap w10 w.heap.size cb 10 ∧ Below w.heap.size w w10) := ⟨H.out.1, grown_below M9.out.2 (Nat.le_refl _) H.out.2 M9.out.2.size⟩
  replace r10 : (Instr.mapUpdate 55 (.map (some w.heap.size)) (.string ⟨#[104, 101, 108, 112]⟩) (.func (.func 55) #[.pointer (some ⟨cb, 0, none⟩)] #[])).run Tryz.prog w9 = .ok () w10 := r10
  clear H M9
  obtain ⟨w11, r11, H⟩ := DMap.put 10 ⟨#[108, 111, 115, 101]⟩ M10.out.1 (by omega) (by rfl) (by decide)
  have M11 : Hid (DMap w11 w.heap.size cb 11 ∧ Below w.heap.size w w11) := ⟨H.out.1, grown_below M10.out.2 (Nat.le_refl _) H.out.2 M10.out.2.size⟩
  replace r11 : (Instr.mapUpdate 55 (.map (some w.heap.size)) (.string ⟨#[108, 111, 115, 101]⟩) (.func (.func 56) #[.pointer (some ⟨cb, 0, none⟩)] #[])).run Tryz.prog w10 = .ok () w11 := r11
  clear H M10
  obtain ⟨w12, r12, H⟩ := DMap.put 11 ⟨#[109, 97, 110, 121]⟩ M11.out.1 (by omega) (by rfl) (by decide)
  have M12 : Hid (DMap w12 w.heap.size cb 12 ∧ Below w.heap.size w w12) := ⟨H.out.1, grown_below M11.out.2 (Nat.le_refl _) H.out.2 M11.out.2.size⟩
  replace r12 : (Instr.mapUpdate 55 (.map (some w.heap.size)) (.string ⟨#[109, 97, 110, 121]⟩) (.func (.func 57) #[.pointer (some ⟨cb, 0, none⟩)] #[])).run Tryz.prog w11 = .ok () w12 := r12
  clear H M11
  obtain ⟨w13, r13, H⟩ := DMap.put 12 ⟨#[109, 111, 118, 101]⟩ M12.out.1 (by omega) (by rfl) (by decide)
  have M13 : Hid (DMap w13 w.heap.size cb 13 ∧ Below w.heap.size w w13) := ⟨H.out.1, grown_below M12.out.2 (Nat.le_refl _) H.out.2 M12.out.2.size⟩
  replace r13 : (Instr.mapUpdate 55 (.map (some w.heap.size)) (.string ⟨#[109, 111, 118, 101]⟩) (.func (.func 58) #[.pointer (some ⟨cb, 0, none⟩)] #[])).run Tryz.prog w12 = .ok () w13 := r13
  clear H M12
  obtain ⟨w14, r14, H⟩ := DMap.put 13 ⟨#[114, 101, 97, 100]⟩ M13.out.1 (by omega) (by rfl) (by decide)
  have M14 : Hid (DMap w14 w.heap.size cb 14 ∧ Below w.heap.size w w14) := ⟨H.out.1, grown_below M13.out.2 (Nat.le_refl _) H.out.2 M13.out.2.size⟩
  replace r14 : (Instr.mapUpdate 55 (.map (some w.heap.size)) (.string ⟨#[114, 101, 97, 100]⟩) (.func (.func 59) #[.pointer (some ⟨cb, 0, none⟩)] #[])).run Tryz.prog w13 = .ok () w14 := r14
  clear H M13
  obtain ⟨w15, r15, H⟩ := DMap.put 14 ⟨#[115, 105, 116, 101]⟩ M14.out.1 (by omega) (by rfl) (by decide)
  have M15 : Hid (DMap w15 w.heap.size cb 15 ∧ Below w.heap.size w w15) := ⟨H.out.1, grown_below M14.out.2 (Nat.le_refl _) H.out.2 M14.out.2.size⟩
  replace r15 : (Instr.mapUpdate 55 (.map (some w.heap.size)) (.string ⟨#[115, 105, 116, 101]⟩) (.func (.func 60) #[.pointer (some ⟨cb, 0, none⟩)] #[])).run Tryz.prog w14 = .ok () w15 := r15
  clear H M14
  obtain ⟨w16, r16, H⟩ := DMap.put 15 ⟨#[115, 119, 101, 101, 112]⟩ M15.out.1 (by omega) (by rfl) (by decide)
  have M16 : Hid (DMap w16 w.heap.size cb 16 ∧ Below w.heap.size w w16) := ⟨H.out.1, grown_below M15.out.2 (Nat.le_refl _) H.out.2 M15.out.2.size⟩
  replace r16 : (Instr.mapUpdate 55 (.map (some w.heap.size)) (.string ⟨#[115, 119, 101, 101, 112]⟩) (.func (.func 61) #[.pointer (some ⟨cb, 0, none⟩)] #[])).run Tryz.prog w15 = .ok () w16 := r16
  clear H M15
  obtain ⟨w17, r17, H⟩ := DMap.put 16 ⟨#[116, 119, 105, 99, 101]⟩ M16.out.1 (by omega) (by rfl) (by decide)
  have M17 : Hid (DMap w17 w.heap.size cb 17 ∧ Below w.heap.size w w17) := ⟨H.out.1, grown_below M16.out.2 (Nat.le_refl _) H.out.2 M16.out.2.size⟩
  replace r17 : (Instr.mapUpdate 55 (.map (some w.heap.size)) (.string ⟨#[116, 119, 105, 99, 101]⟩) (.func (.func 62) #[.pointer (some ⟨cb, 0, none⟩)] #[])).run Tryz.prog w16 = .ok () w17 := r17
  clear H M16
  obtain ⟨w18, r18, H⟩ := DMap.put 17 ⟨#[119, 111, 114, 108, 100]⟩ M17.out.1 (by omega) (by rfl) (by decide)
  have M18 : Hid (DMap w18 w.heap.size cb 18 ∧ Below w.heap.size w w18) := ⟨H.out.1, grown_below M17.out.2 (Nat.le_refl _) H.out.2 M17.out.2.size⟩
  replace r18 : (Instr.mapUpdate 55 (.map (some w.heap.size)) (.string ⟨#[119, 111, 114, 108, 100]⟩) (.func (.func 63) #[.pointer (some ⟨cb, 0, none⟩)] #[])).run Tryz.prog w17 = .ok () w18 := r18
  clear H M17
  obtain ⟨w19, r19, H⟩ := DMap.put 18 ⟨#[119, 114, 105, 116, 101]⟩ M18.out.1 (by omega) (by rfl) (by decide)
  have M19 : Hid (DMap w19 w.heap.size cb 19 ∧ Below w.heap.size w w19) := ⟨H.out.1, grown_below M18.out.2 (Nat.le_refl _) H.out.2 M18.out.2.size⟩
  replace r19 : (Instr.mapUpdate 55 (.map (some w.heap.size)) (.string ⟨#[119, 114, 105, 116, 101]⟩) (.func (.func 64) #[.pointer (some ⟨cb, 0, none⟩)] #[])).run Tryz.prog w18 = .ok () w19 := r19
  clear H M18
  have hmm := @run_makeMap Tryz.prog
  go_enter Tryz.func19, Tryz.ntmps19
  go_wp2
  go_ret
  exact ⟨rfl, M19.out.1, M19.out.2⟩
end
section
open Go.RowKit Go.Lib
set_option maxRecDepth 100000
set_option maxHeartbeats 8000000
theorem isBlank_any (x : Nat) (w : World) : Calls Tryz.prog 71 #[.int .i32 (x : Int)] w fun e w' => e = .returned (.bool (decide (x = 32))) ∧ w' = w := by
  have h : ((x : Int) == 32) = decide (x = 32) := by rw [Bool.eq_iff_iff, beq_iff_eq, decide_eq_true_eq]; omega
  go_enter Tryz.func71, Tryz.ntmps71
  go_wp2
  go_ret
  exact ⟨rfl, rfl⟩
theorem words_any (s : ByteArray) (hs : s.size ≤ 4294967296) (w : World) : Calls Tryz.prog 26 #[.string s] w fun e w' => ∃ A, e = .returned (.slice (some ⟨A, 0, none⟩) (wordsB s).length (wordsB s).length) ∧ w.heap.size ≤ A ∧ StrIn w' (some ⟨A, 0, none⟩) (wordsB s).length (wordsB s) ∧ Below w.heap.size w w' := by
  have FF := Tryz.strings_FieldsFunc_runes 71 #[] (fun args w => by kernel_rfl) (fun r => decide (r = 32)) s w hs (fun W x _ _ => (isBlank_any x W).mono fun e w' ⟨h1, h2⟩ => ⟨h1, 0, h2⟩)
  go_enter Tryz.func26, Tryz.ntmps26
  go_wp2_with fail
  refine FF.mono ?_
  rintro e w1 ⟨A, rfl, hA, ho, hb⟩
  have FIN : Hid (StrIn w1 (some ⟨A, 0, none⟩) (wordsB s).length (wordsB s)) := ⟨Nat.le_refl _, fun j x hx => ⟨A, 0, rfl, (ho.lt A rfl).2, by
    have hj : j < (wordsB s).length := (List.getElem?_eq_some_iff.1 hx).1
    rw [Nat.zero_add, ho.cellAt j (by rw [Nat.mul_one]; exact hj), List.getElem?_map]
    show Option.map _ (wordsB s)[j]? = _
    rw [hx]; rfl⟩⟩
  clear ho FF
  go_wp2
  go_ret
  exact ⟨A, rfl, hA, FIN.out, hb⟩
end
section
open Go.RowKit
set_option maxRecDepth 100000
set_option maxHeartbeats 8000000
theorem catch_idle (p : Addr) (w : World) :
    CallsD Tryz.prog 25 #[.pointer (some p)] .returning w fun e u' w' => e = .returned (.tuple #[]) ∧ u' = .returning ∧ w' = w := by
  have ta : ∀ w, (Instr.typeAssert .nilIface 20 26 true).run Tryz.prog w = .ok (.tuple #[.int .i64 0, .bool false]) w := fun _ => by kernel_rfl
  refine callsD_of_wpS Tryz.func25 rfl fun c₀ cs hu => ?_
  apply wpS_seq
  apply wpS_region
  simp [wpOpsS, go_sem, recoverD, hu, Tryz.ntmps25, Exit.thenS, ta]
  apply wpS_seq
  apply wpS_region
  simp [wpOpsS, go_sem, Exit.thenS]
  refine wpS_cond (t := false) (by simp [Act.eval, Array.replicate]) ?_
  simp only [Bool.false_eq_true, if_false]
  refine wpS_of_wp (wp_skip ?_)
  cases c₀
  simp_all [bodyPostS, results, Tryz.results25]
theorem catch_panicking (p : Addr) (s : Value) (n : Int) (hn : wfI n) (older : List PanicEntry) (w : World) (g : Gl w) (hc : w.cell? p = some s) (hz : w.frozen? p = false) :
    CallsD Tryz.prog 25 #[.pointer (some p)] (.panicking ({ v := .iface 26 (.int .i64 n), recovered := false } :: older)) w fun e u' w' =>
      e = .returned (.tuple #[]) ∧ u' = .panicking ({ v := .iface 26 (.int .i64 n), recovered := true } :: older) ∧ ∃ w2, Below w.heap.size w w2 ∧ w' = w2.setCell p (.string (bya (errT n))) := by
  have ta : ∀ w, (Instr.typeAssert (.iface 26 (.int .i64 n)) 20 26 true).run Tryz.prog w = .ok (.tuple #[.int .i64 n, .bool true]) w := fun _ => by kernel_rfl
  have WR := wrong_any n hn w g
  refine callsD_of_wpS Tryz.func25 rfl fun c₀ cs hu => ?_
  apply wpS_seq
  apply wpS_region
  simp [wpOpsS, go_sem, recoverD, hu, Tryz.ntmps25, Exit.thenS, ta]
  apply wpS_seq
  apply wpS_region
  simp [wpOpsS, go_sem, Exit.thenS]
  refine wpS_cond (t := true) (by simp [Act.eval, Array.replicate]) ?_
  simp only [if_true]
  refine wpS_of_wp ?_
  simp only [Array.replicate, List.replicate, List.setIfInBounds_toArray, List.set_cons_zero, List.set_cons_succ, List.append_toArray, List.cons_append, List.nil_append]
  go_wp2_with fail
  refine WR.mono ?_
  rintro e w2 ⟨rfl, hb⟩
  have lp : p.block < w.heap.size := World.block_lt_of_cell? _ _ hc
  have hc2 : w2.cell? p = some s := (hb.cell lp).trans hc
  have hz2 : w2.frozen? p = false := (hb.frozen lp).trans hz
  go_wp2
  simp [bodyPostS, results, Tryz.results25]
  exact ⟨w2, hb, rfl⟩
end
section
open Go.RowKit
set_option maxRecDepth 100000
set_option maxHeartbeats 4000000
section
variable {cb mb b j cap : Nat} {Gw G : Nat → Prop} {W : WoS} {a : Option Addr} {l : List ByteArray}
theorem do_drop (w : World) (h : DoPre w cb mb b Gw G W j a cap l) : Calls Tryz.prog 53 #[.pointer (some ⟨cb, 0, none⟩), .slice a l.length cap] w (DoPost 7 W l w cb mb G) := by
  have HH : Hid (DoPre w cb mb b Gw G W j a cap l) := h
  have N1 := two_any h.sm w h.gl h.st
  clear h
  go_enter Tryz.func53, Tryz.ntmps53
  go_wp2_with fail
  refine N1.mono ?_
  rintro e w1 ⟨hb1, (⟨u, v, hv, rfl⟩ | ⟨hv, rfl⟩)⟩
  · have c1 := (HH.out.ck.later hb1).cell0
    have OP := op_drop u v w1 (HH.out.ck.later hb1).pw
    go_wp2_with fail
    refine OP.mono ?_
    rintro e w2 ⟨W', er, hc, rfl, hp⟩
    have MU := must_any er w2 (HH.out.gl2 hb1 hp)
    have HC : Hid (∀ e w3, Below w2.heap.size w2 w3 → EndIs er (nameOf 7) e → DoPost 7 W l w cb mb G e w3) := fun e w3 hb3 he => HH.out.yes (by decide) hv.out hb1 (hc.data (by decide)) hp hb3 he
    clear hc hp c1 OP
    go_wp2_with fail
    refine MU.mono ?_
    rintro e w3 ⟨hb3, (⟨h0, rfl⟩ | ⟨h0, rfl⟩)⟩
    · have HF := HC.out _ _ hb3 (.inl ⟨h0, rfl⟩)
      clear h0 HC MU
      go_wp2
      go_ret
      exact HF
    · exact ⟨rfl, HC.out _ _ hb3 (.inr ⟨h0, rfl⟩)⟩
  · exact ⟨rfl, HH.out.no (by decide) hv.out hb1⟩
theorem do_calm (w : World) (h : DoPre w cb mb b Gw G W j a cap l) : Calls Tryz.prog 49 #[.pointer (some ⟨cb, 0, none⟩), .slice a l.length cap] w (DoPost 3 W l w cb mb G) := by
  have HH : Hid (DoPre w cb mb b Gw G W j a cap l) := h
  have N1 := none_any h.sm w h.gl h.st
  clear h
  go_enter Tryz.func49, Tryz.ntmps49
  go_wp2_with fail
  refine N1.mono ?_
  rintro e w1 ⟨hb1, (⟨hv, rfl⟩ | ⟨hv, rfl⟩)⟩
  · have c1 := (HH.out.ck.later hb1).cell0
    have OP := pw_calm w1 (HH.out.ck.later hb1).pw HH.out.wi.wf
    go_wp2_with fail
    refine OP.mono ?_
    rintro e w2 ⟨rfl, W', hc, hp⟩
    have HF : DoPost 3 W l w cb mb G (.returned (.string (bya (nameOf 3)))) w2 := HH.out.yes (ns := []) (by decide) hv.out hb1 ⟨rfl, hc.out.1, rfl⟩ hp (Below.refl _ _) (.inl ⟨rfl, rfl⟩)
    clear hc hp c1 OP
    go_wp2
    go_ret
    exact HF
  · exact ⟨rfl, HH.out.no (by decide) hv.out hb1⟩
end
/-- a new world is there, or the one that was stays -/
def MadeEnd (cb : Nat) (mv : Value) (n c : Int) (w : World) (e : Ending) (w' : World) : Prop :=
  (((1 ≤ n ∧ n ≤ 4) ∧ (0 ≤ c ∧ c ≤ 6)) ∧ e = .returned (.tuple #[]) ∧ ∃ b' G', w'.heap[cb]? = some (.cells #[.pointer (some ⟨b', 0, none⟩), mv] 57 (0, 0)) ∧ PW w' b' G' (newW n.toNat c.toNat) ∧ (∀ k, G' k → w.heap.size ≤ k) ∧ Touch (fun k => k = cb) w w')
  ∨ (¬ ((1 ≤ n ∧ n ≤ 4) ∧ (0 ≤ c ∧ c ≤ 6)) ∧ e = thrown 2 ∧ Below w.heap.size w w')
theorem makeWorld_any {cb : Nat} {p mv : Value} (n c : Int) (w : World) (hbox : w.heap[cb]? = some (.cells #[p, mv] 57 (0, 0))) (g : Gl w) :
    Calls Tryz.prog 20 #[.pointer (some ⟨cb, 0, none⟩), .int .i64 n, .int .i64 c] w (MadeEnd cb mv n c w) := by
  have hlt : cb < w.heap.size := (Array.getElem?_eq_some_iff.1 hbox).1
  by_cases h : (1 ≤ n ∧ n ≤ 4) ∧ (0 ≤ c ∧ c ≤ 6)
  · obtain ⟨i, rfl⟩ : ∃ i : Nat, n = i := ⟨n.toNat, by omega⟩
    obtain ⟨k, rfl⟩ : ∃ k : Nat, c = k := ⟨c.toNat, by omega⟩
    have NW := pw_new (n := i) (c := k) (by omega) (by omega) (by omega) w
    have HH : Hid (((1 ≤ (i : Int) ∧ (i : Int) ≤ 4) ∧ (0 ≤ (k : Int) ∧ (k : Int) ≤ 6)) ∧ w.heap[cb]? = some (.cells #[p, mv] 57 (0, 0)) ∧ Gl w) := ⟨h, hbox, g⟩
    clear h hbox g
    go_enter Tryz.func20, Tryz.ntmps20
    go_wp2_with fail
    refine NW.mono ?_
    rintro e w1 ⟨rfl, G', hp, hg, hb⟩
    have hb1 := (hb.block cb hlt).trans HH.out.2.1
    have MU := must_any 0 w1 (HH.out.2.2.later hb)
    rw [show errV 0 = Value.nilIface from rfl] at MU
    go_wp2_with fail
    refine MU.mono ?_
    rintro e w2 ⟨hb2, (⟨_, rfl⟩ | ⟨h0, _⟩)⟩
    · have hb3 := (hb2.block cb (Nat.lt_of_lt_of_le hlt hb.size)).trans hb1
      have c0 : w2.cell? ⟨cb, 0, none⟩ = some p := by rw [Lib.cell_of_heap hb3]; rfl
      have f0 : w2.frozen? ⟨cb, 0, none⟩ = false := Lib.frozen_of_heap hb3 0
      have FIN : Hid (MadeEnd cb mv i k w (.returned (.tuple #[])) (w2.setCell ⟨cb, 0, none⟩ (.pointer (some ⟨w.heap.size, 0, none⟩)))) := by
        have bb := behind hb hb2
        refine .inl ⟨HH.out.1, rfl, w.heap.size, G', by simp [World.setCell, Array.getElem?_modify, hb3], ?_, hg, bb.os, bb.tape, bb.output, by simp [World.setCell]; exact bb.size, fun q hq hn => (Below.heap_setCell _ _ _ _ hn).trans (bb.block q hq)⟩
        rw [Int.toNat_natCast, Int.toNat_natCast]
        exact (hp.later hb2).kept (fun q e => Below.heap_setCell _ _ _ _ (fun e2 => by have := hg q e; have : q = cb := e2; omega)) (by simp [World.setCell])
      clear hb3 hb2 hb1 hb hp hg MU NW
      go_wp2
      go_end0
      exact FIN.out
    · exact absurd rfl h0
  · have NW := pw_new_no h w
    have HH : Hid (¬ ((1 ≤ n ∧ n ≤ 4) ∧ (0 ≤ c ∧ c ≤ 6)) ∧ Gl w) := ⟨h, g⟩
    clear h hbox g
    go_enter Tryz.func20, Tryz.ntmps20
    go_wp2_with fail
    refine NW.mono ?_
    rintro e w1 ⟨rfl, hb⟩
    have MU := must_any 2 w1 (HH.out.2.later hb)
    generalize errV 2 = ev at MU
    go_wp2_with fail
    refine MU.mono ?_
    rintro e w2 ⟨hb2, (⟨h0, _⟩ | ⟨_, rfl⟩)⟩
    · exact absurd h0 (by decide)
    · exact ⟨rfl, .inr ⟨HH.out.1, rfl, behind hb hb2⟩⟩
section
variable {cb mb b j cap : Nat} {Gw G : Nat → Prop} {W : WoS} {a : Option Addr} {l : List ByteArray}
theorem do_world (w : World) (h : DoPre w cb mb b Gw G W j a cap l) : Calls Tryz.prog 63 #[.pointer (some ⟨cb, 0, none⟩), .slice a l.length cap] w (DoPost 17 W l w cb mb G) := by
  have HH : Hid (DoPre w cb mb b Gw G W j a cap l) := h
  have N1 := two_any h.sm w h.gl h.st
  clear h
  go_enter Tryz.func63, Tryz.ntmps63
  go_wp2_with fail
  refine N1.mono ?_
  rintro e w1 ⟨hb1, (⟨u, v, hv, rfl⟩ | ⟨hv, rfl⟩)⟩
  · have MK := makeWorld_any u v w1 (HH.out.ck.later hb1).box (HH.out.gl.later hb1)
    go_wp2_with fail
    refine MK.mono ?_
    rintro e w2 (⟨hr, rfl, b', G', hbx, hp, hg, tt⟩ | ⟨hr, rfl, hb2⟩)
    · have HF : DoPost 17 W l w cb mb G (.returned (.string (bya (nameOf 17)))) w2 := by
        have h1 := HH.out.ck.later hb1
        have lc := h1.ltc
        have lm := h1.map.lt
        refine ⟨newW u.toNat v.toNat, 0, nameOf 17, by unfold DoTo; rw [if_neg (by decide), show numsN (arity 17) l = some [u, v] from hv.out]; exact ⟨rfl, by rw [if_pos hr]; exact ⟨rfl, rfl⟩⟩, .inl ⟨rfl, rfl⟩, fun k => k = cb ∨ k = mb ∨ G' k, ⟨b', G', ⟨hbx, h1.map.kept (tt.block mb lm (fun e => h1.n1 e.symm)), hp, h1.n1, fun e => by have := hg cb e; omega, fun e => by have := hg mb e; omega⟩, fun _ => Iff.rfl⟩, fun k hk => ?_, (Touch.ofBelow hb1).trans ⟨tt.os, tt.tape, tt.output, tt.size, fun k hk hn => tt.block k hk (fun e => hn ((HH.out.g k).2 (.inl e)))⟩⟩
        rcases hk with rfl | rfl | e
        · exact .inl ((HH.out.g k).2 (.inl rfl))
        · exact .inl ((HH.out.g k).2 (.inr (.inl rfl)))
        · exact .inr (Nat.le_trans hb1.size (hg k e))
      clear hbx hp hg tt MK
      go_wp2
      go_ret
      exact HF
    · exact ⟨rfl, HH.out.yes (W' := W) (er := 2) (told := nameOf 17) (by decide) hv.out hb1 ⟨rfl, by rw [if_neg hr]; exact ⟨rfl, rfl⟩⟩ (PWPo.same (HH.out.ck.later hb1).pw (Below.refl _ _)) hb2 (.inr ⟨by decide, rfl⟩)⟩
  · exact ⟨rfl, HH.out.no (by decide) hv.out hb1⟩
end
end
def leBy (x y : List UInt8) : Bool := decide (x ≤ y)
theorem cmdN_sorted : cmdN.Pairwise (fun x y => leBy x y = true) := by decide
theorem sort_cmd {ss : List (List UInt8)} (h : ss.Perm cmdN) : ss.mergeSort (fun x y => decide (x ≤ y)) = cmdN := by
  have ht : ∀ a b c : List UInt8, decide (a ≤ b) = true → decide (b ≤ c) = true → decide (a ≤ c) = true := fun a b c h1 h2 => decide_eq_true (List.le_trans (of_decide_eq_true h1) (of_decide_eq_true h2))
  have hl : ∀ a b : List UInt8, (decide (a ≤ b) || decide (b ≤ a)) = true := fun a b => by
    rcases List.le_total a b with q | q <;> simp [q]
  have hp := List.pairwise_mergeSort ht hl ss
  have hq := (List.mergeSort_perm ss (fun x y => decide (x ≤ y))).trans h
  exact hq.eq_of_pairwise (fun a b _ _ h1 h2 => List.le_antisymm (of_decide_eq_true h1) (of_decide_eq_true h2)) hp cmdN_sorted
section
open Go.RowKit Go.Maps
theorem names_mem (x : List UInt8) : x ∈ cmdN ↔ ∃ i, i < 19 ∧ x = nameOf i := by
  constructor
  · intro h
    obtain ⟨i, hi, e⟩ := List.mem_iff_getElem.1 h
    exact ⟨i, hi, by unfold nameOf; rw [List.getD_eq_getElem?_getD, List.getElem?_eq_getElem hi]; exact e.symm⟩
  · rintro ⟨i, hi, rfl⟩
    unfold nameOf
    rw [List.getD_eq_getElem?_getD, List.getElem?_eq_getElem (show i < cmdN.length from hi)]
    exact List.getElem_mem _
theorem table_names {w : World} {mb cb : Nat} {D : DataW Value} (h : w.ownsMap Tryz.prog 9 heldR mb 19 D) (d : DMapIs D cb 19) {ss : List (List UInt8)} (hs : ss.Perm (Go.strKeys D)) : ss.mergeSort (fun x y => decide (x ≤ y)) = cmdN := by
  have hc : Go.Collected D (fun _ => false) cmdN := ⟨by decide, fun x => by
    rw [names_mem]
    constructor
    · rintro ⟨i, hi, rfl⟩
      exact ⟨(d.has i hi).1, rfl⟩
    · rintro ⟨q, _⟩
      rcases Classical.em (∃ i, i < 19 ∧ x = nameOf i) with e | e
      · exact e
      · have := (d.no x (fun i hi e2 => e ⟨i, hi, e2⟩)).1
        rw [q] at this
        cases this⟩
  exact sort_cmd (hs.trans (hc.perm h strLaw Tryz.underlying9 (fun _ => rfl)).symm)
end
open Go.RowKit
set_option maxRecDepth 100000
set_option maxHeartbeats 8000000
/-- behind newClerk -/
def NewCk (cb : Nat) (w w' : World) : Prop := ∃ mb G, CkIs cb mb (newW 2 2) w' G ∧ (∀ k, G k → w.heap.size ≤ k) ∧ Below w.heap.size w w' ∧ Gl w'
theorem newClerk_any (w : World) (g : Gl w) : Calls Tryz.prog 8 #[] w fun e w' => ∃ cb, e = .returned (.pointer (some ⟨cb, 0, none⟩)) ∧ NewCk cb w w' := by
  have HG : Hid (Gl w) := g
  have hb0 := boxed (Below.refl w.heap.size w) (.cells #[.pointer none, .map none] 57)
  have TB := table_any w.heap.size (w.alloc (.cells #[.pointer none, .map none] 57))
  clear g
  go_enter Tryz.func8, Tryz.ntmps8
  go_wp2_with fail
  refine TB.mono ?_
  rintro e w1 ⟨rfl, hD, hb1⟩
  have lz : (w.alloc (.cells #[.pointer none, .map none] 57)).heap.size = w.heap.size + 1 := by simp
  rw [lz] at hD
  have hx1 : w1.heap[w.heap.size]? = some (.cells #[.pointer none, .map none] 57 (0, 0)) := (hb1.block w.heap.size (by rw [lz]; omega)).trans (by show (w.heap.push _)[w.heap.size]? = _; exact Array.getElem?_push_size)
  have c1 : w1.cell? ⟨w.heap.size, 1, none⟩ = some (.map none) := by rw [Lib.cell_of_heap hx1]; rfl
  have f1 : w1.frozen? ⟨w.heap.size, 1, none⟩ = false := Lib.frozen_of_heap hx1 1
  have hx2 : (w1.setCell ⟨w.heap.size, 1, none⟩ (.map (some (w.heap.size + 1)))).heap[w.heap.size]? = some (.cells #[.pointer none, .map (some (w.heap.size + 1))] 57 (0, 0)) := by simp [World.setCell, Array.getElem?_modify, hx1]
  have hbw1 : Below w.heap.size w w1 := behind hb0 hb1
  have hbw2 : Below w.heap.size w (w1.setCell ⟨w.heap.size, 1, none⟩ (.map (some (w.heap.size + 1)))) := Below.setCell hbw1 (Nat.le_refl _) _
  have l1 := hD.lt
  have MK := makeWorld_any 2 2 _ hx2 (HG.out.later hbw2)
  have HM : Hid (DMap (w1.setCell ⟨w.heap.size, 1, none⟩ (.map (some (w.heap.size + 1)))) (w.heap.size + 1) w.heap.size 19 ∧ Below w.heap.size w (w1.setCell ⟨w.heap.size, 1, none⟩ (.map (some (w.heap.size + 1))))) := ⟨hD.kept (Below.heap_setCell _ _ _ _ (by show w.heap.size + 1 ≠ w.heap.size; omega)), hbw2⟩
  clear hbw1 hbw2 hx1 hx2 hb0 hb1 hD TB
  go_wp2_with fail
  refine MK.mono ?_
  rintro e w3 (⟨hr, rfl, b', G', hbx, hp, hg, tt⟩ | ⟨hr, _⟩)
  rotate_left
  · exact absurd (by omega) hr
  have FIN : Hid (NewCk w.heap.size w w3) := by
    obtain ⟨m, hb2⟩ := HM.out
    have ls := hb2.size
    have lm := m.lt
    have q : ∀ k, G' k → w.heap.size + 1 < k := fun k hk => by have := hg k hk; omega
    refine ⟨w.heap.size + 1, fun k => k = w.heap.size ∨ k = w.heap.size + 1 ∨ G' k, ⟨b', G', ⟨hbx, m.kept (tt.block _ lm (by omega)), hp, by omega, fun e => by have := q _ e; omega, fun e => by have := q _ e; omega⟩, fun _ => Iff.rfl⟩, fun k hk => ?_, ?_, ?_⟩
    · rcases hk with rfl | rfl | e
      · exact Nat.le_refl _
      · omega
      · have := q k e; omega
    · exact ⟨tt.os.trans hb2.os, tt.tape.trans hb2.tape, tt.output.trans hb2.output, Nat.le_trans hb2.size tt.size, fun k hk => (tt.block k (by omega) (by omega)).trans (hb2.block k hk)⟩
    · have sz := HG.out.sz
      exact (HG.out.later hb2).kept (fun k hk => tt.block k (by omega) (by omega)) tt.size
  clear hbx hp hg tt MK HM c1 f1
  go_wp2
  go_ret
  exact ⟨_, rfl, FIN.out⟩
end Go.Proofs.YtoanjdndmlffdaaGreatDoor
