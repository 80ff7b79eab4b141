/-
  Bytes read back: which number bytes begin with, strictly and laxly; that no bytes are of two transactions; no Go in sight.
-/
import Derived.Test.YteebebahlegmlaaWrites
import Derived.Test.YteebebahlegmlaaAskS
namespace Go.Proofs.Yteebebahlegmlaa

/-- a string's bytes -/
abbrev toL (s : ByteArray) : List UInt8 := s.data.toList
theorem toL_append (a b : ByteArray) : toL (a ++ b) = toL a ++ toL b := by
  show (a ++ b).data.toList = _
  rw [ByteArray.data_append, Array.toList_append]
theorem toL_inj {a b : ByteArray} (h : toL a = toL b) : a = b := by
  obtain ⟨⟨x⟩⟩ := a
  obtain ⟨⟨y⟩⟩ := b
  have h' : x = y := h
  rw [h']
theorem toL_length (s : ByteArray) : (toL s).length = s.size := by
  show s.data.toList.length = s.data.size
  rw [Array.length_toList]

/-- the model holds strings against each other by this list -/
theorem byteList (s : ByteArray) : s.toList = toL s := by
  have loop : ∀ (n i : Nat) (r : List UInt8), s.size - i = n → ByteArray.toList.loop s i r = r.reverse ++ (toL s).drop i := by
    intro n
    induction n with
    | zero =>
      intro i r hn
      unfold ByteArray.toList.loop
      rw [if_neg (by omega), List.drop_eq_nil_of_le (by rw [toL_length]; omega), List.append_nil]
    | succ n ih =>
      intro i r hn
      unfold ByteArray.toList.loop
      rw [if_pos (by omega), ih _ _ (by omega)]
      have hi : i < (toL s).length := by rw [toL_length]; omega
      rw [List.drop_eq_getElem_cons hi, List.reverse_cons, List.append_assoc]
      congr 2
      have hi2 : i < s.data.size := by have := toL_length s; rw [Array.length_toList] at hi; exact hi
      show [s.data[i]!] ++ _ = s.data.toList[i] :: _
      rw [getElem!_pos s.data i hi2, Array.getElem_toList]
      rfl
  exact loop s.size 0 [] (by omega)
theorem strB (a b : ByteArray) : (a.toList == b.toList) = decide (a = b) := by
  rw [byteList, byteList]
  by_cases h : a = b
  · rw [h]; simp
  · rw [decide_eq_false h]
    exact beq_eq_false_iff_ne.2 (fun e => h (toL_inj e))

/-- a number's bytes -/
abbrev numL (f : Nat) (n : Int) : List UInt8 := toL (numS f n)
theorem numL_lt {f : Nat} {n : Int} (h : n < 128) : numL f n = [UInt8.ofNat n.toNat] := by
  show toL (numS f n) = _
  rw [numS_lt h]
  rfl
theorem numL_ge {f : Nat} {n : Int} (h : ¬ n < 128) : numL (f + 1) n = UInt8.ofNat (n % 128 + 128).toNat :: numL f (n / 128) := by
  show toL (numS (f + 1) n) = _
  rw [numS_ge h, toL_append]
  rfl

/-- the number that bytes begin with, in no more bytes than it needs, and what is behind it -/
def rdNum : Nat → List UInt8 → Option (Int × List UInt8)
  | _, [] => none
  | 0, c :: r => if c.toNat < 128 then some (c.toNat, r) else none
  | f + 1, c :: r => if c.toNat < 128 then some (c.toNat, r) else
    match rdNum f r with
    | none => none
    | some (n, r') => if n = 0 then none else some ((c.toNat : Int) - 128 + 128 * n, r')
/-- the same, in whatever many bytes -/
def lxNum : Nat → List UInt8 → Option (Int × List UInt8)
  | _, [] => none
  | 0, c :: r => if c.toNat < 128 then some (c.toNat, r) else none
  | f + 1, c :: r => if c.toNat < 128 then some (c.toNat, r) else
    match lxNum f r with
    | none => none
    | some (n, r') => some ((c.toNat : Int) - 128 + 128 * n, r')

theorem rd_lx : ∀ (f : Nat) (L : List UInt8) (x : Int × List UInt8), rdNum f L = some x → lxNum f L = some x
  | 0, [], x, h => by simp [rdNum] at h
  | f + 1, [], x, h => by simp [rdNum] at h
  | 0, c :: r, x, h => h
  | f + 1, c :: r, x, h => by
    unfold rdNum at h
    unfold lxNum
    split at h
    · rw [if_pos (by assumption)]; exact h
    · rw [if_neg (by assumption)]
      cases e : rdNum f r with
      | none => rw [e] at h; cases h
      | some y =>
        obtain ⟨n, r'⟩ := y
        rw [e] at h
        rw [rd_lx f r _ e]
        simp only at h ⊢
        split at h
        · cases h
        · exact h

theorem byteN {n : Int} (h0 : 0 ≤ n) (h1 : n < 256) : ((UInt8.ofNat n.toNat).toNat : Int) = n := by
  rw [UInt8.toNat_ofNat', Nat.mod_eq_of_lt (by omega), Int.toNat_of_nonneg h0]

theorem rd_num : ∀ (f : Nat) (n : Int) (r : List UInt8), 0 ≤ n → n < 128 ^ (f + 1) → rdNum f (numL f n ++ r) = some (n, r)
  | 0, n, r, h0, h1 => by
    have h1' : n < 128 := by simpa using h1
    have e := byteN h0 (by omega)
    rw [numL_lt h1', List.singleton_append]
    unfold rdNum
    rw [if_pos (by omega), e]
  | f + 1, n, r, h0, h1 => by
    by_cases h : n < 128
    · have e := byteN h0 (by omega)
      rw [numL_lt h, List.singleton_append]
      unfold rdNum
      rw [if_pos (by omega), e]
    · have hp : (128 : Int) ^ (f + 1 + 1) = 128 ^ (f + 1) * 128 := Int.pow_succ 128 (f + 1)
      rw [hp] at h1
      have e := byteN (n := n % 128 + 128) (by omega) (by omega)
      rw [numL_ge h, List.cons_append]
      unfold rdNum
      rw [if_neg (by omega), rd_num f (n / 128) r (by omega) (by omega)]
      simp only
      rw [if_neg (by omega), e]
      congr 2
      omega

theorem rd_sound : ∀ (f : Nat) (L : List UInt8) (n : Int) (r : List UInt8), rdNum f L = some (n, r) → (0 ≤ n ∧ n < 128 ^ (f + 1)) ∧ L = numL f n ++ r
  | 0, [], n, r, h => by simp [rdNum] at h
  | f + 1, [], n, r, h => by simp [rdNum] at h
  | 0, c :: l, n, r, h => by
    unfold rdNum at h
    split at h
    · injection h with h
      injection h with h1 h2
      subst h1 h2
      refine ⟨⟨by omega, by simp; omega⟩, ?_⟩
      rw [numL_lt (by omega)]
      simp
    · cases h
  | f + 1, c :: l, n, r, h => by
    have hp : (128 : Int) ^ (f + 1 + 1) = 128 ^ (f + 1) * 128 := Int.pow_succ 128 (f + 1)
    have hpos : (1 : Int) ≤ 128 ^ (f + 1) := Int.pow_pos (by decide)
    unfold rdNum at h
    split at h
    · injection h with h
      injection h with h1 h2
      subst h1 h2
      refine ⟨⟨by omega, by rw [hp]; omega⟩, ?_⟩
      rw [numL_lt (by omega)]
      simp
    · cases e : rdNum f l with
      | none => rw [e] at h; cases h
      | some y =>
        obtain ⟨m, r'⟩ := y
        rw [e] at h
        simp only at h
        split at h
        · cases h
        · injection h with h
          injection h with h1 h2
          subst h2
          obtain ⟨⟨m0, m1⟩, hl⟩ := rd_sound f l m r' e
          have hc := c.toNat_lt
          have q : n / 128 = m := by omega
          have q2 : n % 128 + 128 = c.toNat := by omega
          refine ⟨⟨by omega, by rw [hp]; omega⟩, ?_⟩
          rw [numL_ge (by omega), q, q2, hl]
          simp

theorem pow6 : (128 : Int) ^ (5 + 1) = 4398046511104 := by decide

theorem num_inj {n m : Int} {a b : List UInt8} (h : numL 5 n ++ a = numL 5 m ++ b) (hn : 0 ≤ n ∧ n ≤ 1099511627776) (hm : 0 ≤ m ∧ m ≤ 1099511627776) : n = m ∧ a = b := by
  have e1 := rd_num 5 n a hn.1 (by rw [pow6]; omega)
  have e2 := rd_num 5 m b hm.1 (by rw [pow6]; omega)
  rw [h, e2] at e1
  injection e1 with e1
  injection e1 with e3 e4
  exact ⟨e3.symm, e4.symm⟩

/-- a write's bytes -/
def wrL (x : Wr) : List UInt8 := numL 5 x.key ++ (numL 5 (if x.gone then 1 else 0) ++ (numL 5 (x.data.size : Int) ++ toL x.data))
def wrsL (l : List Wr) : List UInt8 := l.flatMap wrL

theorem flag_toL (g : Bool) : toL (flagS g) = numL 5 (if g then 1 else 0) := by cases g <;> rfl
theorem stepS_toL (s : ByteArray) (x : Wr) : toL (stepS s x) = toL s ++ wrL x := by
  simp only [stepS, wrL, toL_append, flag_toL, List.append_assoc]
theorem wrS_toL (s : ByteArray) (l : List Wr) : toL (wrS s l) = toL s ++ wrsL l := by
  induction l generalizing s with
  | nil => simp [wrS, wrsL]
  | cons x l ih =>
    have e := ih (stepS s x)
    rw [stepS_toL] at e
    show toL (wrS (stepS s x) l) = _
    rw [e]
    simp [wrsL]

/-- the nine numbers ahead of the writes -/
def headL (site seq wall count d0 d1 d2 d3 n : Int) (r : List UInt8) : List UInt8 := 116 :: (numL 5 site ++ (numL 5 seq ++ (numL 5 wall ++ (numL 5 count ++ (numL 5 d0 ++ (numL 5 d1 ++ (numL 5 d2 ++ (numL 5 d3 ++ (numL 5 n ++ r)))))))))
theorem txS_toL (site seq wall count d0 d1 d2 d3 : Int) (l : List Wr) : toL (txS site seq wall count d0 d1 d2 d3 l) = headL site seq wall count d0 d1 d2 d3 l.length (wrsL l) := by
  unfold txS
  rw [wrS_toL]
  have z : toL (⟨#[116]⟩ : ByteArray) = [116] := rfl
  simp only [headS, headL, toL_append, List.append_assoc, z, List.cons_append, List.nil_append]
/-- the five of an ask -/
def askL (site a0 a1 a2 a3 : Int) (r : List UInt8) : List UInt8 := 97 :: (numL 5 site ++ (numL 5 a0 ++ (numL 5 a1 ++ (numL 5 a2 ++ (numL 5 a3 ++ r)))))
theorem askS_toL (site a0 a1 a2 a3 : Int) : toL (askS site a0 a1 a2 a3) = askL site a0 a1 a2 a3 [] := by
  have z : toL (⟨#[97]⟩ : ByteArray) = [97] := rfl
  simp only [askS, askL, toL_append, List.append_assoc, z, List.cons_append, List.nil_append, List.append_nil]

/-- a transaction -/
structure TxV where
  site : Int
  seq : Int
  wall : Int
  count : Int
  d0 : Int
  d1 : Int
  d2 : Int
  d3 : Int
  l : List Wr
def TxV.ok (x : TxV) : Bool := okTx x.site x.seq x.wall x.count x.d0 x.d1 x.d2 x.d3 x.l
def TxV.bytes (x : TxV) : ByteArray := txS x.site x.seq x.wall x.count x.d0 x.d1 x.d2 x.d3 x.l
/-- L are the bytes of x, which may be -/
def Good (L : List UInt8) (x : TxV) : Prop := x.ok = true ∧ toL x.bytes = L

theorem wr_inj {x y : Wr} {a b : List UInt8} (h : wrL x ++ a = wrL y ++ b) (hx : 0 ≤ x.key ∧ x.key ≤ 7 ∧ x.data.size ≤ 12) (hy : 0 ≤ y.key ∧ y.key ≤ 7 ∧ y.data.size ≤ 12) : x = y ∧ a = b := by
  simp only [wrL, List.append_assoc] at h
  obtain ⟨h1, h⟩ := num_inj h ⟨hx.1, by omega⟩ ⟨hy.1, by omega⟩
  obtain ⟨h2, h⟩ := num_inj h (by cases x.gone <;> decide) (by cases y.gone <;> decide)
  obtain ⟨h3, h⟩ := num_inj h ⟨by omega, by omega⟩ ⟨by omega, by omega⟩
  obtain ⟨h4, h5⟩ := List.append_inj h (by rw [toL_length, toL_length]; omega)
  refine ⟨?_, h5⟩
  obtain ⟨k, d, g⟩ := x
  obtain ⟨k', d', g'⟩ := y
  simp only at h1 h2 h4
  have hg : g = g' := by
    cases g <;> cases g'
    · rfl
    · simp at h2
    · simp at h2
    · rfl
  rw [h1, toL_inj h4, hg]

theorem wrs_inj : ∀ (l m : List Wr) (a b : List UInt8), l.length = m.length → wrsL l ++ a = wrsL m ++ b → (∀ x ∈ l, 0 ≤ x.key ∧ x.key ≤ 7 ∧ x.data.size ≤ 12) → (∀ x ∈ m, 0 ≤ x.key ∧ x.key ≤ 7 ∧ x.data.size ≤ 12) → l = m ∧ a = b
  | [], [], a, b, _, h, _, _ => ⟨rfl, h⟩
  | [], _ :: _, _, _, hl, _, _, _ => by simp at hl
  | _ :: _, [], _, _, hl, _, _, _ => by simp at hl
  | x :: l, y :: m, a, b, hl, h, hx, hy => by
    have e1 : wrsL (x :: l) ++ a = wrL x ++ (wrsL l ++ a) := by simp [wrsL]
    have e2 : wrsL (y :: m) ++ b = wrL y ++ (wrsL m ++ b) := by simp [wrsL]
    rw [e1, e2] at h
    obtain ⟨h1, h2⟩ := wr_inj h (hx x (by simp)) (hy y (by simp))
    obtain ⟨h3, h4⟩ := wrs_inj l m a b (by simpa using hl) h2 (fun z hz => hx z (by simp [hz])) (fun z hz => hy z (by simp [hz]))
    exact ⟨by rw [h1, h3], h4⟩

theorem okWs_mem {l : List Wr} (h : okWs l = true) : ∀ x ∈ l, 0 ≤ x.key ∧ x.key ≤ 7 ∧ x.data.size ≤ 12 := fun x hx => by
  obtain ⟨i, hi, rfl⟩ := List.mem_iff_getElem.1 hx
  have e : wrAt l i = l[i] := by simp [wrAt, List.getD, List.getElem?_eq_getElem hi]
  have h1 := okAt_key (okWs_each h i hi)
  have h2 := okAt_size (okWs_each h i hi)
  rw [e] at h1 h2
  exact ⟨h1.1, h1.2, h2⟩

/-- what may be of a transaction -/
theorem ok_parts {x : TxV} (h : x.ok = true) : (0 ≤ x.site ∧ x.site ≤ 3) ∧ (1 ≤ x.seq ∧ x.seq ≤ 1099511627776) ∧ (0 ≤ x.wall ∧ x.wall ≤ 1099511627776) ∧ (0 ≤ x.count ∧ x.count ≤ 1099511627776) ∧ (0 ≤ x.d0 ∧ x.d0 ≤ 1099511627776) ∧ (0 ≤ x.d1 ∧ x.d1 ≤ 1099511627776) ∧ (0 ≤ x.d2 ∧ x.d2 ≤ 1099511627776) ∧ (0 ≤ x.d3 ∧ x.d3 ≤ 1099511627776) ∧ okWs x.l = true := by
  simp only [TxV.ok, okTx, Bool.and_eq_true, inB_iff, timesB, timeB_iff] at h
  obtain ⟨⟨⟨⟨⟨ts, tq⟩, tw, tc⟩, ⟨⟨t0, t1⟩, t2⟩, t3⟩, _⟩, hok⟩ := h
  exact ⟨ts, tq, tw, tc, t0, t1, t2, t3, hok⟩

/-- a transaction's bytes begin with no other one's -/
theorem tx_prefix {x y : TxV} {r : List UInt8} (hx : x.ok = true) (hy : y.ok = true) (h : toL x.bytes = toL y.bytes ++ r) : x = y ∧ r = [] := by
  obtain ⟨a1, a2, a3, a4, a5, a6, a7, a8, a9⟩ := ok_parts hx
  obtain ⟨b1, b2, b3, b4, b5, b6, b7, b8, b9⟩ := ok_parts hy
  have l1 := okWs_len a9
  have l2 := okWs_len b9
  rw [TxV.bytes, TxV.bytes, txS_toL, txS_toL] at h
  simp only [headL, List.cons_append, List.append_assoc, List.cons.injEq, true_and] at h
  obtain ⟨e1, h⟩ := num_inj h ⟨a1.1, by omega⟩ ⟨b1.1, by omega⟩
  obtain ⟨e2, h⟩ := num_inj h ⟨by omega, a2.2⟩ ⟨by omega, b2.2⟩
  obtain ⟨e3, h⟩ := num_inj h a3 b3
  obtain ⟨e4, h⟩ := num_inj h a4 b4
  obtain ⟨e5, h⟩ := num_inj h a5 b5
  obtain ⟨e6, h⟩ := num_inj h a6 b6
  obtain ⟨e7, h⟩ := num_inj h a7 b7
  obtain ⟨e8, h⟩ := num_inj h a8 b8
  obtain ⟨e9, h⟩ := num_inj h ⟨by omega, by omega⟩ ⟨by omega, by omega⟩
  obtain ⟨e10, h⟩ := wrs_inj x.l y.l [] r (by omega) (by simpa using h) (okWs_mem a9) (okWs_mem b9)
  refine ⟨?_, h.symm⟩
  obtain ⟨_, _, _, _, _, _, _, _, _⟩ := x
  obtain ⟨_, _, _, _, _, _, _, _, _⟩ := y
  simp only at e1 e2 e3 e4 e5 e6 e7 e8 e10
  subst e1 e2 e3 e4 e5 e6 e7 e8 e10
  rfl
theorem good_one {L : List UInt8} {x y : TxV} (hx : Good L x) (hy : Good L y) : x = y := (tx_prefix hx.1 hy.1 (r := []) (by rw [hx.2, hy.2, List.append_nil])).1

/-- an ask that may be, and its bytes -/
structure AskV where
  site : Int
  a0 : Int
  a1 : Int
  a2 : Int
  a3 : Int
def AskV.ok (x : AskV) : Bool := inB x.site 0 3 && timesB x.a0 x.a1 x.a2 x.a3
def AskV.bytes (x : AskV) : ByteArray := askS x.site x.a0 x.a1 x.a2 x.a3
def GoodAsk (L : List UInt8) (x : AskV) : Prop := x.ok = true ∧ toL x.bytes = L
theorem ask_parts {x : AskV} (h : x.ok = true) : (0 ≤ x.site ∧ x.site ≤ 3) ∧ (0 ≤ x.a0 ∧ x.a0 ≤ 1099511627776) ∧ (0 ≤ x.a1 ∧ x.a1 ≤ 1099511627776) ∧ (0 ≤ x.a2 ∧ x.a2 ≤ 1099511627776) ∧ (0 ≤ x.a3 ∧ x.a3 ≤ 1099511627776) := by
  simp only [AskV.ok, Bool.and_eq_true, inB_iff, timesB, timeB_iff] at h
  obtain ⟨ts, ⟨⟨t0, t1⟩, t2⟩, t3⟩ := h
  exact ⟨ts, t0, t1, t2, t3⟩
theorem ask_prefix {x y : AskV} {r : List UInt8} (hx : x.ok = true) (hy : y.ok = true) (h : toL x.bytes = toL y.bytes ++ r) : x = y ∧ r = [] := by
  obtain ⟨a1, a2, a3, a4, a5⟩ := ask_parts hx
  obtain ⟨b1, b2, b3, b4, b5⟩ := ask_parts hy
  rw [AskV.bytes, AskV.bytes, askS_toL, askS_toL] at h
  simp only [askL, List.cons_append, List.append_assoc, List.cons.injEq, true_and, List.nil_append] at h
  obtain ⟨e1, h⟩ := num_inj h ⟨a1.1, by omega⟩ ⟨b1.1, by omega⟩
  obtain ⟨e2, h⟩ := num_inj h a2 b2
  obtain ⟨e3, h⟩ := num_inj h a3 b3
  obtain ⟨e4, h⟩ := num_inj h a4 b4
  obtain ⟨e5, h⟩ := num_inj h a5 b5
  refine ⟨?_, h.symm⟩
  obtain ⟨_, _, _, _, _⟩ := x
  obtain ⟨_, _, _, _, _⟩ := y
  simp only at e1 e2 e3 e4 e5
  subst e1 e2 e3 e4 e5
  rfl
theorem goodAsk_one {L : List UInt8} {x y : AskV} (hx : GoodAsk L x) (hy : GoodAsk L y) : x = y := (ask_prefix hx.1 hy.1 (r := []) (by rw [hx.2, hy.2, List.append_nil])).1
/-- no transaction is an ask -/
theorem tx_not_ask {L : List UInt8} {x : TxV} {y : AskV} (hx : Good L x) (hy : GoodAsk L y) : False := by
  have h := hx.2.trans hy.2.symm
  rw [TxV.bytes, AskV.bytes, txS_toL, askS_toL] at h
  simp [headL, askL] at h

end Go.Proofs.Yteebebahlegmlaa
