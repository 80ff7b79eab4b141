/-
  The plain mathematics of stamps: what two stamps' order is, as integers; no Go in sight.
-/
namespace Go.Proofs.YtnbgjiibpnoieaaDoor

/-- two pairs of numbers are the same -/
def same2 (a b c d : Int) : Bool := a == c && b == d
/-- two rows of four numbers are the same -/
def same4 (a b c d x y z t : Int) : Bool := a == x && b == y && c == z && d == t
/-- the greater, and the lesser, of two -/
def maxZ (x y : Int) : Int := if x < y then y else x
def minZ (x y : Int) : Int := if y < x then y else x
theorem maxZ_pos {x y : Int} (h : x < y) : maxZ x y = y := if_pos h
theorem maxZ_neg {x y : Int} (h : ¬ x < y) : maxZ x y = x := if_neg h
theorem minZ_pos {x y : Int} (h : y < x) : minZ x y = y := if_pos h
theorem minZ_neg {x y : Int} (h : ¬ y < x) : minZ x y = x := if_neg h
/-- no number of the second row is above the first's -/
def covB (a0 a1 a2 a3 b0 b1 b2 b3 : Int) : Bool := decide (b0 ≤ a0) && decide (b1 ≤ a1) && decide (b2 ≤ a2) && decide (b3 ≤ a3)
/-- how two integers compare: -1, 0 or 1 -/
def cmpZ (x y : Int) : Int := if x < y then -1 else if y < x then 1 else 0
/-- how two stamps compare: by the wall, then by the count -/
def cmpS (aw ac bw bc : Int) : Int := if cmpZ aw bw = 0 then cmpZ ac bc else cmpZ aw bw
/-- a number that may be a time -/
def timeB (n : Int) : Bool := decide (0 ≤ n) && decide (n ≤ 1099511627776)

theorem same4_self (x y z t : Int) : same4 x y z t x y z t = true := by simp [same4]
theorem same2_self (x y : Int) : same2 x y x y = true := by simp [same2]
theorem cmpZ_lt {x y : Int} (h : x < y) : cmpZ x y = -1 := by unfold cmpZ; rw [if_pos h]
theorem cmpZ_gt {x y : Int} (h : y < x) : cmpZ x y = 1 := by unfold cmpZ; rw [if_neg (by omega), if_pos h]
theorem cmpZ_eq (x : Int) : cmpZ x x = 0 := by unfold cmpZ; rw [if_neg (by omega), if_neg (by omega)]
/-- all four are times -/
def timesB (a0 a1 a2 a3 : Int) : Bool := timeB a0 && timeB a1 && timeB a2 && timeB a3
theorem timeB_true {n : Int} (h0 : 0 ≤ n) (h1 : n ≤ 1099511627776) : timeB n = true := by simp [timeB, h0, h1]
theorem timeB_iff {n : Int} : timeB n = true ↔ 0 ≤ n ∧ n ≤ 1099511627776 := by simp [timeB]

theorem cmpZ_cases (x y : Int) : (x < y ∧ cmpZ x y = -1) ∨ (x = y ∧ cmpZ x y = 0) ∨ (y < x ∧ cmpZ x y = 1) := by
  rcases Int.lt_trichotomy x y with h | h | h
  · exact .inl ⟨h, cmpZ_lt h⟩
  · subst h; exact .inr (.inl ⟨rfl, cmpZ_eq x⟩)
  · exact .inr (.inr ⟨h, cmpZ_gt h⟩)

/-- how stamps compare, said by the numbers -/
theorem cmpS_cases (aw ac bw bc : Int) :
    ((aw < bw ∨ aw = bw ∧ ac < bc) ∧ cmpS aw ac bw bc = -1) ∨ ((aw = bw ∧ ac = bc) ∧ cmpS aw ac bw bc = 0) ∨ ((bw < aw ∨ aw = bw ∧ bc < ac) ∧ cmpS aw ac bw bc = 1) := by
  have hw := cmpZ_cases aw bw
  have hc := cmpZ_cases ac bc
  unfold cmpS
  rcases hw with ⟨h, e⟩ | ⟨h, e⟩ | ⟨h, e⟩
  · exact .inl ⟨.inl h, by rw [e]; rfl⟩
  · rcases hc with ⟨g, f⟩ | ⟨g, f⟩ | ⟨g, f⟩
    · exact .inl ⟨.inr ⟨h, g⟩, by rw [if_pos e, f]⟩
    · exact .inr (.inl ⟨⟨h, g⟩, by rw [if_pos e, f]⟩)
    · exact .inr (.inr ⟨.inr ⟨h, g⟩, by rw [if_pos e, f]⟩)
  · exact .inr (.inr ⟨.inl h, by rw [e]; rfl⟩)

/-- the five ways in which three stamps lie -/
theorem three (aw ac bw bc cw cc : Int) :
    (cmpS aw ac bw bc = 1 ∧ cmpS bw bc aw ac = -1 ∧ same2 aw ac bw bc = false) ∨
    ((cmpS aw ac bw bc = 0 ∧ cmpS bw bc aw ac = 0 ∧ same2 aw ac bw bc = true) ∧ (0 < cmpS bw bc cw cc ∨ (¬ 0 < cmpS bw bc cw cc ∧ cmpS aw ac cw cc ≤ 0))) ∨
    ((cmpS aw ac bw bc = -1 ∧ cmpS bw bc aw ac = 1 ∧ same2 aw ac bw bc = false) ∧ (0 < cmpS bw bc cw cc ∨ (¬ 0 < cmpS bw bc cw cc ∧ cmpS aw ac cw cc ≤ 0))) := by
  have x := cmpS_cases aw ac bw bc
  have x' := cmpS_cases bw bc aw ac
  have y := cmpS_cases bw bc cw cc
  have z := cmpS_cases aw ac cw cc
  rcases x with ⟨h, e⟩ | ⟨h, e⟩ | ⟨h, e⟩
  · refine .inr (.inr ⟨⟨e, by omega, by simp [same2]; omega⟩, ?_⟩)
    omega
  · refine .inr (.inl ⟨⟨e, by omega, by simp [same2]; omega⟩, ?_⟩)
    omega
  · exact .inl ⟨e, by omega, by simp [same2]; omega⟩

theorem maxZ_le (x y z : Int) : maxZ x y ≤ z ↔ x ≤ z ∧ y ≤ z := by unfold maxZ; split <;> omega
theorem le_minZ (x y z : Int) : z ≤ minZ x y ↔ z ≤ x ∧ z ≤ y := by unfold minZ; split <;> omega
theorem le_maxZ_left (x y : Int) : x ≤ maxZ x y := by unfold maxZ; split <;> omega
theorem le_maxZ_right (x y : Int) : y ≤ maxZ x y := by unfold maxZ; split <;> omega
theorem minZ_le_left (x y : Int) : minZ x y ≤ x := by unfold minZ; split <;> omega
theorem minZ_le_right (x y : Int) : minZ x y ≤ y := by unfold minZ; split <;> omega
theorem maxZ_comm (x y : Int) : maxZ x y = maxZ y x := by unfold maxZ; split <;> split <;> omega
theorem maxZ_assoc (x y z : Int) : maxZ (maxZ x y) z = maxZ x (maxZ y z) := by
  have a := maxZ_le x y z
  unfold maxZ
  repeat split <;> try omega
theorem maxZ_minZ (x y : Int) : maxZ x (minZ x y) = x := by unfold maxZ minZ; repeat split <;> try omega
theorem covB_iff {a0 a1 a2 a3 b0 b1 b2 b3 : Int} : covB a0 a1 a2 a3 b0 b1 b2 b3 = true ↔ b0 ≤ a0 ∧ b1 ≤ a1 ∧ b2 ≤ a2 ∧ b3 ≤ a3 := by simp [covB, and_assoc]
theorem same4_iff {a0 a1 a2 a3 b0 b1 b2 b3 : Int} : same4 a0 a1 a2 a3 b0 b1 b2 b3 = true ↔ a0 = b0 ∧ a1 = b1 ∧ a2 = b2 ∧ a3 = b3 := by simp [same4, and_assoc]
theorem cov_max_a (a0 a1 a2 a3 b0 b1 b2 b3 : Int) : covB (maxZ a0 b0) (maxZ a1 b1) (maxZ a2 b2) (maxZ a3 b3) a0 a1 a2 a3 = true := covB_iff.2 ⟨le_maxZ_left _ _, le_maxZ_left _ _, le_maxZ_left _ _, le_maxZ_left _ _⟩
theorem cov_max_b (a0 a1 a2 a3 b0 b1 b2 b3 : Int) : covB (maxZ a0 b0) (maxZ a1 b1) (maxZ a2 b2) (maxZ a3 b3) b0 b1 b2 b3 = true := covB_iff.2 ⟨le_maxZ_right _ _, le_maxZ_right _ _, le_maxZ_right _ _, le_maxZ_right _ _⟩
theorem cov_a_min (a0 a1 a2 a3 b0 b1 b2 b3 : Int) : covB a0 a1 a2 a3 (minZ a0 b0) (minZ a1 b1) (minZ a2 b2) (minZ a3 b3) = true := covB_iff.2 ⟨minZ_le_left _ _, minZ_le_left _ _, minZ_le_left _ _, minZ_le_left _ _⟩
theorem cov_b_min (a0 a1 a2 a3 b0 b1 b2 b3 : Int) : covB b0 b1 b2 b3 (minZ a0 b0) (minZ a1 b1) (minZ a2 b2) (minZ a3 b3) = true := covB_iff.2 ⟨minZ_le_right _ _, minZ_le_right _ _, minZ_le_right _ _, minZ_le_right _ _⟩
theorem cov_c_max (a0 a1 a2 a3 b0 b1 b2 b3 c0 c1 c2 c3 : Int) : covB c0 c1 c2 c3 (maxZ a0 b0) (maxZ a1 b1) (maxZ a2 b2) (maxZ a3 b3) = (covB c0 c1 c2 c3 a0 a1 a2 a3 && covB c0 c1 c2 c3 b0 b1 b2 b3) := by
  rw [Bool.eq_iff_iff, Bool.and_eq_true, covB_iff, covB_iff, covB_iff]; simp only [maxZ_le]; omega
theorem cov_min_c (a0 a1 a2 a3 b0 b1 b2 b3 c0 c1 c2 c3 : Int) : covB (minZ a0 b0) (minZ a1 b1) (minZ a2 b2) (minZ a3 b3) c0 c1 c2 c3 = (covB a0 a1 a2 a3 c0 c1 c2 c3 && covB b0 b1 b2 b3 c0 c1 c2 c3) := by
  rw [Bool.eq_iff_iff, Bool.and_eq_true, covB_iff, covB_iff, covB_iff]; simp only [le_minZ]; omega
theorem cov_both (a0 a1 a2 a3 b0 b1 b2 b3 : Int) : same4 a0 a1 a2 a3 b0 b1 b2 b3 = (covB a0 a1 a2 a3 b0 b1 b2 b3 && covB b0 b1 b2 b3 a0 a1 a2 a3) := by
  rw [Bool.eq_iff_iff, Bool.and_eq_true, covB_iff, covB_iff, same4_iff]; omega
theorem same_comm (a0 a1 a2 a3 b0 b1 b2 b3 : Int) : same4 (maxZ a0 b0) (maxZ a1 b1) (maxZ a2 b2) (maxZ a3 b3) (maxZ b0 a0) (maxZ b1 a1) (maxZ b2 a2) (maxZ b3 a3) = true := same4_iff.2 ⟨maxZ_comm _ _, maxZ_comm _ _, maxZ_comm _ _, maxZ_comm _ _⟩
theorem same_assoc (a0 a1 a2 a3 b0 b1 b2 b3 c0 c1 c2 c3 : Int) : same4 (maxZ (maxZ a0 b0) c0) (maxZ (maxZ a1 b1) c1) (maxZ (maxZ a2 b2) c2) (maxZ (maxZ a3 b3) c3) (maxZ a0 (maxZ b0 c0)) (maxZ a1 (maxZ b1 c1)) (maxZ a2 (maxZ b2 c2)) (maxZ a3 (maxZ b3 c3)) = true := same4_iff.2 ⟨maxZ_assoc _ _ _, maxZ_assoc _ _ _, maxZ_assoc _ _ _, maxZ_assoc _ _ _⟩
theorem same_absorb (a0 a1 a2 a3 b0 b1 b2 b3 : Int) : same4 (maxZ a0 (minZ a0 b0)) (maxZ a1 (minZ a1 b1)) (maxZ a2 (minZ a2 b2)) (maxZ a3 (minZ a3 b3)) a0 a1 a2 a3 = true := same4_iff.2 ⟨maxZ_minZ _ _, maxZ_minZ _ _, maxZ_minZ _ _, maxZ_minZ _ _⟩

end Go.Proofs.YtnbgjiibpnoieaaDoor
