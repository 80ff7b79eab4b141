/-
  What slices.DeleteFunc does to a key's row by Sweep's own function, as the model runs it: the whole.
-/
import Derived.Test.YtnbgjiibpnoieaaDoorPgDel
namespace Go.Proofs.YtnbgjiibpnoieaaDoor
open Go.RowKit

/-- 'clear(s)' at elements of several cells -/
theorem run_clear_k {P : Program} (w : World) (t e ty : TypeId) (z : Value) (ht : P.underlying t = some (.slice e)) (hv : ∀ w, (zeroValue e).run P w = .ok z w) (b o n c : Nat) (hn : 0 < n)
    (h1 : ∀ u ∈ (Builtin.zeroCells z.cells n).toList, u.oneCell' = true) (hc : ∀ j, j < (Builtin.zeroCells z.cells n).size → (w.cell? ⟨b, o + j, none⟩).isSome = true) (hf : ∀ j, j < (Builtin.zeroCells z.cells n).size → w.frozen? ⟨b, o + j, none⟩ = false) :
    (Builtin.clear_ #[t] ty #[.slice (some ⟨b, o, none⟩) n c]).run P w = .ok (.tuple #[]) (w.setCells b o (Builtin.zeroCells z.cells n).toList) := by
  have hst := run_storeCells_cells (P := P) b o (Builtin.zeroCells z.cells n).toList 0 w (by simpa using hc) (by simpa using hf) h1
  simp only [Nat.add_zero] at hst
  obtain ⟨m, rfl⟩ : ∃ m, n = m + 1 := ⟨n - 1, by omega⟩
  simp [Builtin.clear_, run_underlying ht, hv, hst]

theorem zeroVer_one (n : Nat) : ∀ u ∈ (Builtin.zeroCells (Value.agg #[.int .i64 0, .int .i64 0, .int .i64 0, .int .i64 0, .string ⟨#[]⟩, .bool false]).cells n).toList, u.oneCell' = true := by
  intro u hu
  simp only [Builtin.zeroCells, Array.toList_map, List.mem_map] at hu
  obtain ⟨i, _, rfl⟩ := hu
  have h6 : (Value.agg #[.int .i64 0, .int .i64 0, .int .i64 0, .int .i64 0, .string ⟨#[]⟩, .bool false]).cells = #[.int .i64 0, .int .i64 0, .int .i64 0, .int .i64 0, .string ⟨#[]⟩, .bool false] := rfl
  rw [h6]
  have hi : i % 6 < 6 := Nat.mod_lt _ (by decide)
  have e : (#[Value.int .i64 0, .int .i64 0, .int .i64 0, .int .i64 0, .string ⟨#[]⟩, .bool false] : Array Value).size = 6 := rfl
  rw [e]
  generalize i % 6 = m at hi
  match m, hi with
  | 0, _ => rfl
  | 1, _ => rfl
  | 2, _ => rfl
  | 3, _ => rfl
  | 4, _ => rfl
  | 5, _ => rfl

/-- one version of a row is another -/
theorem versL_set : ∀ (M : List Ver) (i : Nat) (v : Ver), versL (M.set i v) = ((((((versL M).set (i * 6) (.int .i64 v.wall)).set (i * 6 + 1) (.int .i64 v.count)).set (i * 6 + 2) (.int .i64 v.site)).set (i * 6 + 3) (.int .i64 v.seq)).set (i * 6 + 4) (.string v.data)).set (i * 6 + 5) (.bool v.gone)
  | [], i, v => by simp [versL]
  | x :: M, 0, v => by simp [versL, verL]
  | x :: M, i + 1, v => by
    have e : ∀ r, (i + 1) * 6 + r = (verL x).length + (i * 6 + r) := fun r => by rw [verL_length]; omega
    have e0 : (i + 1) * 6 = (verL x).length + i * 6 := by rw [verL_length]; omega
    rw [List.set_cons_succ, versL_cons, versL_cons, e 1, e 2, e 3, e 4, e 5, e0, versL_set M i v]
    simp only [List.set_append_right _ _ (Nat.le_add_right _ _), Nat.add_sub_cancel_left]

/-- a store of a whole version into a row -/
abbrev putVer (w : World) (g o : Nat) (x : Ver) : World := (((((w.setCell ⟨g, o, none⟩ (.int .i64 x.wall)).setCell ⟨g, o + 1, none⟩ (.int .i64 x.count)).setCell ⟨g, o + 2, none⟩ (.int .i64 x.site)).setCell ⟨g, o + 3, none⟩ (.int .i64 x.seq)).setCell ⟨g, o + 4, none⟩ (.string x.data)).setCell ⟨g, o + 5, none⟩ (.bool x.gone)
theorem own_putVer {w : World} {g n cap i : Nat} {T : TypeId} {M : List Ver} (h : w.ownsRow 0 T 6 (.slice (some ⟨g, 0, none⟩) n cap) n (versL M)) (v : Ver) : (putVer w g (i * 6) v).ownsRow 0 T 6 (.slice (some ⟨g, 0, none⟩) n cap) n (versL (M.set i v)) ∧ Only g w (putVer w g (i * 6) v) := by
  have s0 := h.stored (i * 6) (.int .i64 v.wall)
  have s1 := s0.1.stored (i * 6 + 1) (.int .i64 v.count)
  have s2 := s1.1.stored (i * 6 + 2) (.int .i64 v.site)
  have s3 := s2.1.stored (i * 6 + 3) (.int .i64 v.seq)
  have s4 := s3.1.stored (i * 6 + 4) (.string v.data)
  have s5 := s4.1.stored (i * 6 + 5) (.bool v.gone)
  refine ⟨by rw [versL_set]; exact s5.1, ?_⟩
  exact (((((show Only g _ _ from s0.2).trans s1.2 (.inl rfl)).trans s2.2 (.inl rfl)).trans s3.2 (.inl rfl)).trans s4.2 (.inl rfl)).trans s5.2 (.inl rfl)

/-- what DeleteFunc leaves -/
def DelPost (w : World) (sv : Value) (L' : List Ver) (v' : Value) (w' : World) : Prop :=
  w'.ownsRow 0 71 6 v' L'.length (versL L') ∧ w.grownBy w' sv.ownBlock ∧ v'.ownBlock = sv.ownBlock

/-- the row while it is gone through: the first i are what stays of the first k, those from k on are as they were -/
structure DelRow (w : World) (g n cap : Nat) (L : List Ver) (p : Ver → Bool) (i k : Nat) (M : List Ver) : Prop where
  own : w.ownsRow 0 71 6 (.slice (some ⟨g, 0, none⟩) n cap) n (versL M)
  len : M.length = n
  head : M.take i = (L.take k).filter p
  tail : M.drop k = L.drop k
  lt : i < k
theorem DelRow.at {w : World} {g n cap : Nat} {L M : List Ver} {p : Ver → Bool} {i k : Nat} (h : DelRow w g n cap L p i k M) : verAt M k = verAt L k := by
  have e := congrArg List.head? h.tail
  rw [List.head?_drop, List.head?_drop] at e
  simp only [verAt, List.getD, e]

theorem take_ver {L : List Ver} {k : Nat} (hk : k < L.length) : L.take (k + 1) = L.take k ++ [verAt L k] := by
  rw [List.take_succ_eq_append_getElem hk, verAt_eq hk]
theorem filter_all {L : List Ver} {p : Ver → Bool} {k : Nat} (hk : k ≤ L.length) (h : ∀ j, j < k → p (verAt L j) = true) : (L.take k).filter p = L.take k := by
  rw [List.filter_eq_self]
  intro v hv
  obtain ⟨i, hi, rfl⟩ := List.mem_iff_getElem.1 hv
  rw [List.length_take] at hi
  have := h i (by omega)
  rw [verAt_eq (by omega)] at this
  rw [List.getElem_take]
  exact this
theorem DelRow.later {w w' : World} {g n cap : Nat} {L M : List Ver} {p : Ver → Bool} {i k : Nat} (h : DelRow w g n cap L p i k M) (hb : Below w.heap.size w w') : DelRow w' g n cap L p i k M := ⟨own_below6 h.own hb, h.len, h.head, h.tail, h.lt⟩
theorem DelRow.skip {w : World} {g n cap : Nat} {L M : List Ver} {p : Ver → Bool} {i k : Nat} (h : DelRow w g n cap L p i k M) (hk : k < L.length) (hp : p (verAt L k) = false) : DelRow w g n cap L p i (k + 1) M := by
  refine ⟨h.own, h.len, ?_, ?_, Nat.lt_succ_of_lt h.lt⟩
  · rw [take_ver hk, List.filter_append, h.head]
    simp [hp]
  · rw [← List.drop_drop, h.tail, List.drop_drop]
theorem DelRow.keep {w : World} {g n cap : Nat} {L M : List Ver} {p : Ver → Bool} {i k : Nat} (h : DelRow w g n cap L p i k M) (hL : L.length = n) (hk : k < L.length) (hp : p (verAt L k) = true) : DelRow (putVer w g (i * 6) (verAt L k)) g n cap L p (i + 1) (k + 1) (M.set i (verAt L k)) := by
  have hi : i < M.length := by have := h.lt; have := h.len; omega
  refine ⟨(own_putVer h.own (verAt L k)).1, by rw [List.length_set]; exact h.len, ?_, ?_, Nat.succ_lt_succ h.lt⟩
  · rw [take_ver hk, List.filter_append, ← h.head, List.take_succ_eq_append_getElem (by simpa using hi), List.getElem_set_self, List.take_set_of_le (Nat.le_refl _)]
    simp [hp]
  · rw [List.drop_set_of_lt (by have := h.lt; omega), ← List.drop_drop, h.tail, List.drop_drop]

set_option maxRecDepth 100000 in
set_option maxHeartbeats 8000000 in
theorem delete_any {sv : Value} {L : List Ver} {a0 a1 a2 a3 : Int} {st : Ver} {A S : Nat} (w : World) (hown : w.ownsRow 0 71 6 sv L.length (versL L)) (hok : ∀ v ∈ L, 0 ≤ v.site ∧ v.site ≤ 3) (hl : L.length ≤ 1000) (RA : RowL w A [.int .i64 a0, .int .i64 a1, .int .i64 a2, .int .i64 a3]) (RS : RowL w S (verL st)) (hA : sv.ownBlock ≠ some A) (hS : sv.ownBlock ≠ some S) :
    Calls Tryd.prog 66 #[sv, .func (.func 67) #[] #[.pointer (some ⟨A, 0, none⟩), .pointer (some ⟨S, 0, none⟩)]] w fun e w' =>
      ∃ v', e = .returned v' ∧ DelPost w sv (L.filter fun v => !delV a0 a1 a2 a3 st v) v' w' := by
  obtain ⟨a, cap, rfl, hV⟩ := vsIn_own hown
  have hix := index_any w hV hok hl RA RS
  have HOK : Hid (∀ v ∈ L, 0 ≤ v.site ∧ v.site ≤ 3) := hok
  obtain ⟨P, hP⟩ : ∃ P : Ver → Bool, P = fun v => !delV a0 a1 a2 a3 st v := ⟨_, rfl⟩
  have HP : Hid (P = fun v => !delV a0 a1 a2 a3 st v) := hP
  rw [← hP]
  clear hok hP
  go_enter Tryd.func66, Tryd.ntmps66
  go_wp2_with fail
  refine hix.mono ?_
  rintro e w1 ⟨r, rfl, hI, hb1⟩
  rcases hI with ⟨rfl, hall⟩ | ⟨k, hk, rfl, hd, hnt⟩
  · have FE : Hid (L.filter P = L) := by
      show L.filter P = L
      rw [List.filter_eq_self, HP.out]
      intro v hv
      simp [hall v hv]
    have own1 := own_below6 hown hb1
    clear hall
    go_wp2_with fail
    go_ret
    rw [FE.out]
    exact ⟨_, rfl, own1, ⟨hb1.os, hb1.tape, hb1.output, hb1.size, fun k hk _ => hb1.block k hk⟩, rfl⟩
  · obtain ⟨g, hgl, rfl, hcc⟩ : ∃ b, b < w.heap.size ∧ a = some ⟨b, 0, none⟩ ∧ ∀ i r u, i < L.length → (verL (verAt L i))[r]? = some u → w.cell? ⟨b, i * 6 + r, none⟩ = some u := by
      rcases hV.held with h0 | h0
      · rw [h0] at hk; simp at hk
      · exact h0
    obtain ⟨n, hn⟩ : ∃ n, L.length = n := ⟨_, rfl⟩
    have hc1 := hV.len
    have hc2 := hV.cap
    have D0 : DelRow w1 g n cap L P k (k + 1) L := by
      rw [← hn]
      refine ⟨own_below6 hown hb1, rfl, ?_, rfl, Nat.lt_succ_self _⟩
      rw [take_ver hk, List.filter_append, filter_all (by omega) (fun j hj => by rw [HP.out]; simp [hnt j hj]), HP.out]
      simp [hd]
    have hgA : A ≠ g := fun e => hA (by rw [e]; rfl)
    have hgS : S ≠ g := fun e => hS (by rw [e]; rfl)
    have LN : Hid (L.length = n) := hn
    rw [hn] at hl hc1 hk ⊢
    have ne1 : ((k : Int) == -1) = false := beq_eq_false_iff_ne.2 (by omega)
    have RA1 := RA.later hb1
    have RS1 := RS.later hb1
    have O1 : Only g w w1 := Only.ofBelow hb1
    clear hcc hV hown hnt hd hn hix RA RS hb1 hA hS
    go_wp2_with fail
    go_loopw [5, 6] (fun s5 s6 wr => ∃ (i j : Nat) (zi zj : Int) (M : List Ver), j ≤ n ∧ zi = i ∧ zj = j ∧ s5 = .int .i64 zi ∧ s6 = .int .i64 zj ∧ Hid (DelRow wr g n cap L P i j M) ∧ RowL wr A [.int .i64 a0, .int .i64 a1, .int .i64 a2, .int .i64 a3] ∧ RowL wr S (verL st) ∧ Only g w wr) (fun _ j _ => n - (intOf j).toNat)
    case atStart => exact ⟨k, k + 1, k, (k : Int) + 1, L, by omega, rfl, by omega, rfl, by go_num, D0, RA1, RS1, O1⟩
    case round =>
      clear D0 RA1 RS1 O1
      obtain ⟨i, j, zi, zj, M, hj, hzi, hzj, rfl, rfl, DD, RA, RS, O⟩ := hrel
      have DR := DD.out
      have hij := DR.lt
      have hil : i < n := by omega
      have HZ : Hid (zi = i ∧ zj = j) := ⟨hzi, hzj⟩
      by_cases hlt : j < n
      · have h1 : zj < (n : Int) := by omega
        have h2 : zj.toNat = j := by omega
        have h3 : 0 ≤ zj := by omega
        have h4 : zi < (n : Int) := by omega
        have h5 : zi.toNat = i := by omega
        have h6 : 0 ≤ zi := by omega
        clear hzi hzj
        obtain ⟨y, hy⟩ : ∃ y, verAt L j = y := ⟨_, rfl⟩
        have hsy := HOK.out _ (verAt_mem (l := L) (i := j) (by rw [LN.out]; exact hlt))
        rw [hy] at hsy
        have hMy : verAt M j = y := DR.at.trans hy
        have q := fun r u (h : (verL (verAt M j))[r]? = some u) => (DR.own.cells (g := g) rfl _ u (versL_at M j r u (by rw [DR.len]; exact hlt) h))
        have q2 := fun r u (h : (verL y)[r]? = some u) => (by have := q r u (by rw [hMy]; exact h); rwa [addr_add] at this : wr.cell? ⟨g, j * 6 + r, none⟩ = some u)
        have x0 : wr.cell? ⟨g, j * 6, none⟩ = some (.int .i64 y.wall) := q2 0 _ rfl
        have x1 : wr.cell? ⟨g, j * 6 + 1, none⟩ = some (.int .i64 y.count) := q2 1 _ rfl
        have x2 : wr.cell? ⟨g, j * 6 + 2, none⟩ = some (.int .i64 y.site) := q2 2 _ rfl
        have x3 : wr.cell? ⟨g, j * 6 + 3, none⟩ = some (.int .i64 y.seq) := q2 3 _ rfl
        have x4 : wr.cell? ⟨g, j * 6 + 4, none⟩ = some (.string y.data) := q2 4 _ rfl
        have x5 : wr.cell? ⟨g, j * 6 + 5, none⟩ = some (.bool y.gone) := q2 5 _ rfl
        have Y : Hid (verAt L j = y) := hy
        have HS : Hid (0 ≤ y.site ∧ y.site ≤ 3) := hsy
        have hbx := boxed (Below.refl _ wr) (.cells #[.int .i64 y.wall, .int .i64 y.count, .int .i64 y.site, .int .i64 y.seq, .string y.data, .bool y.gone] 71)
        have RX := RowL.new (w := wr) (T := 71) (verL y) rfl
        change RowL (wr.alloc (.cells #[.int .i64 y.wall, .int .i64 y.count, .int .i64 y.site, .int .i64 y.seq, .string y.data, .bool y.gone] 71)) wr.heap.size (verL y) at RX
        have RA1 := RA.later hbx
        have RS1 := RS.later hbx
        have DR1 := DR.later hbx
        have O1 := O.trans (Only.ofBelow (g := g) hbx) (.inl rfl)
        have hgw : g < wr.heap.size := by have := O.size; omega
        clear hy hsy hMy q q2 DR DD RA RS O
        have D1 : Hid (DelRow (wr.alloc (.cells #[.int .i64 y.wall, .int .i64 y.count, .int .i64 y.site, .int .i64 y.seq, .string y.data, .bool y.gone] 71)) g n cap L P i j M) := DR1
        clear DR1
        cases hd : delV a0 a1 a2 a3 st y
        · have HD : Hid (delV a0 a1 a2 a3 st y = false) := hd
          clear hd
          go_wp2_with fail
          refine (del_is HD.out HS.out.1 HS.out.2 _ RA1 RS1).mono ?_
          rintro e w2 ⟨rfl, hb2⟩
          have D2 := D1.out.later hb2
          have RA2 := RA1.later hb2
          have RS2 := RS1.later hb2
          have RX2 := RX.later hb2
          have O2 := O1.trans (Only.ofBelow (g := g) hb2) (.inl rfl)
          obtain ⟨old, hold⟩ : ∃ old, verAt M i = old := ⟨_, rfl⟩
          have q := fun r u (h : (verL old)[r]? = some u) => (by
            have := (D2.own.cells (g := g) rfl _ u (versL_at M i r u (by rw [D2.len]; exact hil) (by rw [hold]; exact h)))
            rwa [addr_add] at this : w2.cell? ⟨g, i * 6 + r, none⟩ = some u)
          have z0 : w2.cell? ⟨g, i * 6, none⟩ = some (.int .i64 old.wall) := q 0 _ rfl
          have z1 : w2.cell? ⟨g, i * 6 + 1, none⟩ = some (.int .i64 old.count) := q 1 _ rfl
          have z2 : w2.cell? ⟨g, i * 6 + 2, none⟩ = some (.int .i64 old.site) := q 2 _ rfl
          have z3 : w2.cell? ⟨g, i * 6 + 3, none⟩ = some (.int .i64 old.seq) := q 3 _ rfl
          have z4 : w2.cell? ⟨g, i * 6 + 4, none⟩ = some (.string old.data) := q 4 _ rfl
          have z5 : w2.cell? ⟨g, i * 6 + 5, none⟩ = some (.bool old.gone) := q 5 _ rfl
          have fz := fun t => D2.own.frozenAt t
          have y0 := RX2.cell 0 _ rfl
          have y1 := RX2.cell 1 _ rfl
          have y2 := RX2.cell 2 _ rfl
          have y3 := RX2.cell 3 _ rfl
          have y4 := RX2.cell 4 _ rfl
          have y5 := RX2.cell 5 _ rfl
          have DK := D2.keep LN.out (by rw [LN.out]; exact hlt) (by rw [Y.out, HP.out]; simp [HD.out])
          rw [Y.out] at DK
          have O3 := O2.trans (own_putVer (i := i) D2.own y).2 (.inl rfl)
          have RA3 : RowL (putVer w2 g (i * 6) y) A [.int .i64 a0, .int .i64 a1, .int .i64 a2, .int .i64 a3] := RA2.only (own_putVer (i := i) D2.own y).2 hgA
          have RS3 : RowL (putVer w2 g (i * 6) y) S (verL st) := RS2.only (own_putVer (i := i) D2.own y).2 hgS
          have DK' : Hid (DelRow (putVer w2 g (i * 6) y) g n cap L P (i + 1) (j + 1) (M.set i y)) := DK
          clear q hold D2 RA2 RS2 O2 DK RX2 hb2
          go_wp2_with fail
          go_roundw
          case rel => exact ⟨i + 1, j + 1, zi + 1, zj + 1, M.set i y, by omega, by have := HZ.out; omega, by have := HZ.out; omega, by go_num, by go_num, DK', RA3, RS3, O3⟩
          case measure => simp [intOf]; omega
        · have HD : Hid (delV a0 a1 a2 a3 st y = true) := hd
          clear hd
          go_wp2_with fail
          refine (del_is HD.out HS.out.1 HS.out.2 _ RA1 RS1).mono ?_
          rintro e w2 ⟨rfl, hb2⟩
          have D2 : Hid (DelRow w2 g n cap L P i (j + 1) M) := (D1.out.later hb2).skip (by rw [LN.out]; exact hlt) (by rw [Y.out, HP.out]; simp [HD.out])
          have RA2 := RA1.later hb2
          have RS2 := RS1.later hb2
          have O2 := O1.trans (Only.ofBelow (g := g) hb2) (.inl rfl)
          clear hb2
          go_wp2_with fail
          go_roundw
          case rel => exact ⟨i, j + 1, zi, zj + 1, M, by omega, by have := HZ.out; omega, by have := HZ.out; omega, rfl, by go_num, D2, RA2, RS2, O2⟩
          case measure => simp [intOf]; omega
      · have hjn : j = n := by omega
        have h1 : ¬ zj < (n : Int) := by omega
        have h5 : zi.toNat = i := by omega
        have h6 : 0 ≤ zi := by omega
        have h7 : zi ≤ (n : Int) := by omega
        have h8 : ¬ (cap = i) := by omega
        obtain ⟨g1, cap1, cur, h', hB, hg, hnc, hcm, hcs, htake⟩ := DR.own.2.resolve_left (fun h => by simp at h)
        simp only [Value.slice.injEq, Option.some.injEq, Addr.mk.injEq, and_true, true_and] at h'
        obtain ⟨rfl, rfl⟩ := h'
        have hz6 : (Value.agg #[.int .i64 0, .int .i64 0, .int .i64 0, .int .i64 0, .string ⟨#[]⟩, .bool false]).cells.size = 6 := rfl
        obtain ⟨ZS, hZS⟩ : ∃ ZS, ZS = Builtin.zeroCells (Value.agg #[.int .i64 0, .int .i64 0, .int .i64 0, .int .i64 0, .string ⟨#[]⟩, .bool false]).cells (n - i) := ⟨_, rfl⟩
        have hZl : ZS.size = (n - i) * 6 := by rw [hZS, size_zeroCells, hz6]
        have hcl : ∀ ty, (Builtin.clear_ #[62] ty #[.slice (some ⟨g, i * 6, none⟩) (n - i) (cap - i)]).run Tryd.prog wr = .ok (.tuple #[]) (wr.setCells g (i * 6) ZS.toList) := fun ty => by
          rw [hZS]
          refine run_clear_k wr _ 71 ty _ Tryd.underlying62 Tryd.zeroValue71 g (i * 6) (n - i) (cap - i) (by omega) (zeroVer_one _) (fun t ht => ?_) (fun t ht => frozen_of_row wr g _ cur _ hg)
          rw [size_zeroCells, hz6] at ht
          rw [cell_of_row wr g _ cur _ (0, 0) hg, Array.getElem?_eq_getElem (by omega)]
          rfl
        obtain ⟨W2, hW2⟩ : ∃ W2, W2 = wr.setCells g (i * 6) ZS.toList := ⟨_, rfl⟩
        have hLF : L.filter P = M.take i := by
          rw [DR.head, List.take_of_length_le (by rw [LN.out]; omega)]
        have hLl : (M.take i).length = i := by rw [List.length_take, DR.len]; omega
        have OUT : Hid (DelPost w (.slice (some ⟨g, 0, none⟩) n cap) (L.filter P) (.slice (some ⟨g, 0, none⟩) i cap) W2) := by
          obtain ⟨c1, q1, q2⟩ := heap_setCells g ZS.toList (i * 6) wr hg
          rw [← hW2] at q1
          have OK := own_of_cells (w := W2) (B := 0) (n := i) (cap := cap) (k := 6) (xs := versL (M.take i)) (Nat.zero_le _) q1 hcm (by omega) (by omega) (by rw [versL_length, hLl]) (fun t u hu => by
            have ht : t < i * 6 := by have := (List.getElem?_eq_some_iff.1 hu).1; rwa [versL_length, hLl] at this
            rw [hW2, World.cell?_setCells_out g _ _ _ _ (fun _ _ => .inl ht)]
            have := DR.own.cells (g := g) rfl t u (by rw [← versL_take, List.getElem?_take, if_pos ht] at hu; exact hu)
            rwa [addr_add] at this)
          rw [hLF]
          refine ⟨by rw [hLl]; exact OK, ?_, rfl⟩
          have o2 : Only g wr W2 := by rw [hW2]; exact only_setCells _ _ _ _
          exact O.trans o2 (.inl rfl)
        rw [← hW2] at hcl
        clear hW2 hZS hZl hz6 hLF hLl hB hg hnc hcm hcs htake DR DD O RA RS hzi hzj
        go_wp2_with fail
        go_ret
        exact ⟨_, rfl, OUT.out⟩

end Go.Proofs.YtnbgjiibpnoieaaDoor
