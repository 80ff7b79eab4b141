import Derived.Test.YtoanjdndmlffdaaGreatDoorDkM7
import Derived.Test.YtoanjdndmlffdaaGreatDoorDkM9
namespace Go.Proofs.YtoanjdndmlffdaaGreatDoor
theorem blk4 {a b c d : Int} (h : ∀ x ∈ [a, b, c, d], wfI x) : (blkd [a, b, c, d]).length ≤ 88 := by have := blkd_len h; simpa using this
theorem CmdTo.len {i : Nat} {W W' : WoS} {l : List Int} {d : ByteArray} {er : Int} {t : List UInt8} (hD : DkI W) (h : CmdTo i W l d W' er t) (h0 : er = 0) : t.length ≤ 400 := by
  have H0 := h
  unfold CmdTo at h
  split at h
  case h_5 k =>
    obtain ⟨at_, p0, p1, p2, p3, s0, s1, s2, s3, op, e, C, _⟩ := op_client (b := 0) (G := fun _ => False) k hD
    rw [(CmdTo.det (H0.data (d' := ⟨#[]⟩) (by decide)) C.cmd).2.2]
    split
    · have l1 : (blkd [at_]).length ≤ 22 := by have := blkd_len (l := [at_]) (fun x hx => C.wf x (by simp at hx; simp [hx])); simpa using this
      have l2 := blk4 (a := p0) (b := p1) (c := p2) (d := p3) (fun x hx => C.wf x (by simp at hx ⊢; rcases hx with e | e | e | e <;> simp [e]))
      have l3 := blk4 (a := s0) (b := s1) (c := s2) (d := s3) (fun x hx => C.wf x (by simp at hx ⊢; rcases hx with e | e | e | e <;> simp [e]))
      split <;> simp only [List.length_append, List.length_cons, List.length_nil] <;> omega
    · simp
  case h_6 k =>
    obtain ⟨a, b, c, d, d0, d1, d2, d3, e, W2, told, C, _⟩ := op_commit (b := 0) (G := fun _ => False) k hD
    obtain ⟨_, e2, e3⟩ := CmdTo.det (H0.data (d' := ⟨#[]⟩) (by decide)) C.cmd
    rw [e3, C.yes (e2 ▸ h0)]
    have l2 := blk4 (a := a) (b := b) (c := c) (d := d) (fun x hx => C.wf x (by simp at hx ⊢; rcases hx with e | e | e | e <;> simp [e]))
    have l3 := blk4 (a := d0) (b := d1) (c := d2) (d := d3) (fun x hx => C.wf x (by simp at hx ⊢; rcases hx with e | e | e | e <;> simp [e]))
    split
    · decide
    · simp only [List.length_append, List.length_cons, List.length_nil]
      omega
  case h_12 =>
    obtain ⟨j, hj⟩ := hD.pl
    have := hj.wf.net
    rw [h.1]
    have l1 := blkd_len (l := [(W.net.length : Int), W.lost]) (fun x hx => by
      simp at hx
      rcases hx with rfl | rfl
      · exact ⟨by omega, by omega⟩
      · exact hD.lost)
    simp at l1
    omega
  case h_14 k key =>
    have h := h.2
    split at h
    · rename_i q
      obtain ⟨i, rfl, hi, e⟩ := there_nat q
      obtain ⟨j, hj⟩ := hD.pl
      have := sread_short (S := W.S (W.at_ i)) (s := W.ses i) (key := key) (hD.ses i hi) (hj.wf.inv _ (hj.wf.at_ i hi))
      rw [h.1, e]
      rw [Lib.size_eq] at this
      simp only [List.length_append, List.length_cons, List.length_nil]
      omega
    · rw [h.1]; simp
  case h_15 k =>
    obtain ⟨a0, a1, a2, a3, wn, vn, e, tx, C, _⟩ := op_site (b := 0) (G := fun _ => False) k hD
    rw [(CmdTo.det (H0.data (d' := ⟨#[]⟩) (by decide)) C.cmd).2.2]
    split
    · have l2 := blk4 (a := a0) (b := a1) (c := a2) (d := a3) (fun x hx => C.wf x (by simp at hx ⊢; rcases hx with e | e | e | e <;> simp [e]))
      have l1 : (blkd [wn, vn]).length ≤ 44 := by have := blkd_len (l := [wn, vn]) (fun x hx => C.wf x (by simp at hx ⊢; rcases hx with e | e <;> simp [e])); simpa using this
      have l3 := join_len 13 (tx.map (·.data.toList)) (fun y hy => by obtain ⟨x, hx, rfl⟩ := List.mem_map.1 hy; exact C.ts x hx)
      rw [List.length_map, C.tl] at l3
      simp only [List.length_append, List.length_cons, List.length_nil]
      omega
    · simp
  case h_20 => exact h.elim
  all_goals (rw [h.1]; decide)
theorem AnsTo.len {W W' : WoS} {line : ByteArray} {t : List UInt8} (hD : DkI W) (h : AnsTo W line W' t) : t.length ≤ 400 := by
  have er : ∀ n : Int, Few n → (errT n).length ≤ 400 := fun n hn => by
    have := Lib.itoa_length_le n hn.wf.1 hn.wf.2
    unfold errT
    simp only [List.length_append, List.length_cons, List.length_nil]
    omega
  unfold AnsTo at h
  split at h
  · rw [h.2]; decide
  · split at h
    · rw [h.2]; exact er 3 few_3
    · obtain ⟨e, u, hd, rfl⟩ := h
      split
      · rename_i h0
        unfold DoTo at hd
        split at hd
        · rw [hd.2.2]; simp
        · exact hd.len hD h0
      · exact er e hd.few
theorem AnsTo.keeps {W W' : WoS} {line : ByteArray} {t : List UInt8} (hD : DkI W) (h : AnsTo W line W' t) : DkI W' := by
  unfold AnsTo at h
  split at h
  · rw [h.1]; exact hD
  · split at h
    · rw [h.1]; exact hD
    · obtain ⟨e, u, hd, _⟩ := h
      exact hD.does hd
theorem TalkTo.len {W A : WoS} {l : List ByteArray} {s : List UInt8} (hD : DkI W) (h : TalkTo W l s A) : s.length ≤ 401 * l.length ∧ DkI A := by
  induction h with
  | nil => exact ⟨by simp, hD⟩
  | snoc h1 h2 ih =>
    obtain ⟨i1, i2⟩ := ih
    have := h2.len i2
    refine ⟨?_, h2.keeps i2⟩
    simp only [List.length_append, List.length_cons, List.length_nil]
    omega
theorem linesL_many (s : List UInt8) : (linesL s).length ≤ s.length + 1 ∧ ∀ x ∈ linesL s, x.length ≤ s.length := by
  induction s with
  | nil => simp [linesL]
  | cons c r ih =>
    rw [linesL_cons]
    by_cases e : c = 10
    · rw [if_pos e]
      refine ⟨by simp only [List.length_cons]; have := ih.1; omega, fun x hx => ?_⟩
      rcases List.mem_cons.1 hx with rfl | q
      · simp
      · have := ih.2 x q; simp only [List.length_cons]; omega
    · rw [if_neg e]
      cases h : linesL r with
      | nil => exact absurd h (linesL_ne r)
      | cons y z =>
        rw [h] at ih
        refine ⟨by have := ih.1; simp only [List.length_cons] at this ⊢; omega, fun x hx => ?_⟩
        rcases List.mem_cons.1 hx with rfl | q
        · have := ih.2 y (by simp); simp only [List.length_cons]; omega
        · have := ih.2 x (by simp [q]); simp only [List.length_cons]; omega
theorem trim_len (s : List UInt8) : (Lib.trimSuffix s [10]).length ≤ s.length := by
  unfold Lib.trimSuffix
  split
  · simp
  · exact Nat.le_refl _
theorem linesT_many (s : List UInt8) : (linesT s).length ≤ s.length + 1 ∧ ∀ x ∈ linesT s, x.length ≤ s.length := by
  have h := linesL_many (Lib.trimSuffix s [10])
  have := trim_len s
  exact ⟨by have := h.1; unfold linesT; omega, fun x hx => Nat.le_trans (h.2 x hx) this⟩
theorem t_words0 : wordsB (bya [98, 101, 103, 105, 110, 32, 48]) = [bya [98, 101, 103, 105, 110], bya [48]] := by kernel_rfl
theorem t_words1 : wordsB (bya [120]) = [bya [120]] := by kernel_rfl
theorem t_lines : linesT [98, 101, 103, 105, 110, 32, 48, 10, 120, 10] = [[98, 101, 103, 105, 110, 32, 48], [120]] := by decide
theorem t_itoa0 : Lib.itoa 0 = [48] := by simp [Lib.itoa, Lib.decDigits]
theorem t_itoa3 : Lib.itoa 3 = [51] := by simp [Lib.itoa, Lib.decDigits]
theorem t_num : numW (bya [48]) = some 0 := by
  have h : Lib.parseIntB 64 (bya [48]).data.toList = .ok 0 := by kernel_rfl
  unfold numW
  rw [h]
  dsimp only
  rw [t_itoa0, if_pos rfl]
theorem t_talk : ∃ A, TalkTo (newW 2 2) [bya [98, 101, 103, 105, 110, 32, 48], bya [120]] [98, 101, 103, 105, 110, 10, 101, 114, 114, 111, 114, 32, 51, 10] A := by
  obtain ⟨W1, h1⟩ : ∃ W1, AnsTo (newW 2 2) (bya [98, 101, 103, 105, 110, 32, 48]) W1 [98, 101, 103, 105, 110] := by
    refine ⟨setSes (newW 2 2) 0 (begS (newS 0) newSes), ?_⟩
    unfold AnsTo
    rw [t_words0]
    dsimp only
    rw [show cmdN.idxOf? [98, 101, 103, 105, 110] = some 2 from by decide]
    refine ⟨0, nameOf 2, ?_, by rw [if_pos rfl]; rfl⟩
    unfold DoTo
    rw [show (if (2 : Nat) = 18 then (if [bya [48]].length = 3 then numsN 2 ([bya [48]].take 2) else none) else numsN (arity 2) [bya [48]]) = some [0] from by
      rw [if_neg (by decide)]
      unfold numsN
      rw [if_pos (by decide)]
      unfold numsW
      rw [t_num]
      rfl]
    exact ⟨rfl, rfl, rfl⟩
  have h2 : AnsTo W1 (bya [120]) W1 (errT 3) := by
    unfold AnsTo
    rw [t_words1]
    dsimp only
    rw [show cmdN.idxOf? [120] = none from by decide]
    exact ⟨rfl, rfl⟩
  have h := TalkTo.snoc (TalkTo.snoc .nil h1) h2
  unfold errT at h
  rw [t_itoa3] at h
  exact ⟨_, h⟩
theorem t_told {out : List UInt8} {A : WoS} (h : TalkTo (newW 2 2) ((linesT [98, 101, 103, 105, 110, 32, 48, 10, 120, 10]).map bya) out A) : out = [98, 101, 103, 105, 110, 10, 101, 114, 114, 111, 114, 32, 51, 10] := by
  rw [t_lines] at h
  obtain ⟨B, k⟩ := t_talk
  exact (TalkTo.det h k).2
theorem pieces_pure {a b x y : List UInt8} {A B : WoS} (h : TalkTo (newW 2 2) ((linesT (a ++ [10])).map bya) x A) (k : TalkTo (newW 2 2) ((linesT (a ++ 10 :: b)).map bya) y B) : ∃ u, y = x ++ u := by
  obtain ⟨r, e⟩ := linesT_cut a b
  rw [e, List.map_append] at k
  obtain ⟨s, C, u, k1, k2⟩ := TalkTo.cut k _ _ rfl
  rw [(TalkTo.det h k1).2]
  exact ⟨u, k2⟩
end Go.Proofs.YtoanjdndmlffdaaGreatDoor
