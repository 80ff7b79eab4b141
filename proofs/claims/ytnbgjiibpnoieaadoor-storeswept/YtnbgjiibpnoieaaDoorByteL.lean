/-
  A string's bytes as a list: the model holds strings against each other by it.
-/
namespace Go.Proofs.YtnbgjiibpnoieaaDoor

/-- a string's bytes -/
abbrev toL (s : ByteArray) : List UInt8 := s.data.toList
theorem toL_append (a b : ByteArray) : toL (a ++ b) = toL a ++ toL b := by
  show (a ++ b).data.toList = _
  rw [ByteArray.data_append, Array.toList_append]
theorem toL_inj {a b : ByteArray} (h : toL a = toL b) : a = b := by
  obtain ⟨⟨x⟩⟩ := a
  obtain ⟨⟨y⟩⟩ := b
  have h' : x = y := h
  rw [h']
theorem toL_length (s : ByteArray) : (toL s).length = s.size := by
  show s.data.toList.length = s.data.size
  rw [Array.length_toList]

/-- the model holds strings against each other by this list -/
theorem byteList (s : ByteArray) : s.toList = toL s := by
  have loop : ∀ (n i : Nat) (r : List UInt8), s.size - i = n → ByteArray.toList.loop s i r = r.reverse ++ (toL s).drop i := by
    intro n
    induction n with
    | zero =>
      intro i r hn
      unfold ByteArray.toList.loop
      rw [if_neg (by omega), List.drop_eq_nil_of_le (by rw [toL_length]; omega), List.append_nil]
    | succ n ih =>
      intro i r hn
      unfold ByteArray.toList.loop
      rw [if_pos (by omega), ih _ _ (by omega)]
      have hi : i < (toL s).length := by rw [toL_length]; omega
      rw [List.drop_eq_getElem_cons hi, List.reverse_cons, List.append_assoc]
      congr 2
      have hi2 : i < s.data.size := by have := toL_length s; rw [Array.length_toList] at hi; exact hi
      show [s.data[i]!] ++ _ = s.data.toList[i] :: _
      rw [getElem!_pos s.data i hi2, Array.getElem_toList]
      rfl
  exact loop s.size 0 [] (by omega)
theorem strB (a b : ByteArray) : (a.toList == b.toList) = decide (a = b) := by
  rw [byteList, byteList]
  by_cases h : a = b
  · rw [h]; simp
  · rw [decide_eq_false h]
    exact beq_eq_false_iff_ne.2 (fun e => h (toL_inj e))

end Go.Proofs.YtnbgjiibpnoieaaDoor
