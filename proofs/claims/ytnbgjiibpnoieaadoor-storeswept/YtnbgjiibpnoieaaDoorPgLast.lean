/-
  What store.fromBehind tells, and which version store.last is, as the model runs them: a range over a function.
-/
import Derived.Test.YtnbgjiibpnoieaaDoorPgSearch
import Derived.RangeFuncNested
import Derived.RangeFuncBound
import Derived.RangeFuncCalls
import Derived.RangeFuncLeaves
import Derived.Shelf.Abstract
import Derived.Shelf.RegionOpen
import Derived.WalkKit
import Derived.OwnWalkIn
import Derived.TacticsInMore
import Derived.LoopNIn
import Derived.LoopIn
namespace Go.Proofs.YtnbgjiibpnoieaaDoor
open Go.RowKit Go.Shelf
attribute [local go_sem] Oper.semAt_some

/-- a version of a site that is -/
abbrev SV := { v : Ver // 0 ≤ v.site ∧ v.site ≤ 3 }

/-- the last k of them, the last one first -/
def behindL {α : Type} (L : List α) (k : Nat) : List α := L.reverse.take k
theorem behindL_succ {α : Type} {L : List α} {k : Nat} (h : k < L.length) : behindL L (k + 1) = behindL L k ++ [L[L.length - 1 - k]] := by
  unfold behindL
  rw [List.take_succ_eq_append_getElem (by simpa using h), List.getElem_reverse]
theorem behindL_length {α : Type} {L : List α} {k : Nat} (h : k ≤ L.length) : (behindL L k).length = k := by
  unfold behindL
  rw [List.length_take, List.length_reverse]
  omega

/-- what the iterator reads: the slice's value in its box, and the versions' cells, below n₀ -/
def VsBelow (n₀ : Nat) (W : World) (sv : Value) (L : List Ver) : Prop :=
  ∃ a cap, sv = .slice a L.length cap ∧ L.length ≤ cap ∧ cap ≤ 9223372036854775807 ∧ (L = [] ∨ ∃ b, b < n₀ ∧ a = some ⟨b, 0, none⟩ ∧ ∀ i r u, i < L.length → (verL (verAt L i))[r]? = some u → W.cell? ⟨b, i * 6 + r, none⟩ = some u)

set_option maxRecDepth 100000 in
set_option maxHeartbeats 2000000 in
theorem behind1_in (F : Fence) (n : Nat) (h7 : F.fn 85) (hro : F.round = none) (hn : 1 ≤ n) (l Bs n₀ : Nat) (sv : Value) (L : List SV) (hl : L.length ≤ 1000) (J Jx : List SV → World → Prop)
    (hBn : Bs < n₀) (hY : ∀ pre x W, J pre W → pre.length < L.length → YieldAt F (n - 1) Tryd.prog l #[.agg #[.int .i64 x.1.wall, .int .i64 x.1.count, .int .i64 x.1.site, .int .i64 x.1.seq, .string x.1.data, .bool x.1.gone]] W fun e W' =>
      (e = .returned (.bool true) ∧ J (pre ++ [x]) W' ∧ Below n₀ W W') ∨ (e = .returned (.bool false) ∧ Jx (pre ++ [x]) W'))
    (W : World) (hBs : W.cell? ⟨Bs, 0, none⟩ = some sv) (hV : VsBelow n₀ W sv (L.map (·.1))) (h0 : J [] W) :
    CallsIn F n Tryd.prog 85 #[.func (.yield l) #[] #[], .pointer (some ⟨Bs, 0, none⟩)] W fun e W' => (∃ v, e = .returned v) ∧
      ((∃ ys, ys = L.reverse ∧ J ys W') ∨ (∃ pre, (∃ k, k < L.length ∧ pre = behindL L (k + 1)) ∧ Jx pre W')) := by
  obtain ⟨a, cap, rfl, hc1, hc2, hheld⟩ := hV
  rw [List.length_map] at hBs hc1 hheld
  have HB : Hid (Bs < n₀) := hBn
  refine callsIn_of_wp Tryd.func85 rfl h7 ?_ hro
  simp only [Tryd.ntmps85, List.size_toArray, List.length_cons, List.length_nil, Nat.reduceAdd, Nat.reduceSub, Array.replicate_succ, Array.replicate_zero, List.push_toArray, List.append_toArray, List.nil_append, List.cons_append]
  gi_wp2
  gi_loopw [3] (fun i wr => ∃ (k : Nat) (z : Int), k ≤ L.length ∧ z = (L.length : Int) - 1 - k ∧ i = .int .i64 z ∧ J (behindL L k) wr ∧ Below n₀ W wr) (fun i _ => (intOf i + 1).toNat)
  case atStart => exact ⟨0, (L.length : Int) - 1, Nat.zero_le _, by omega, by go_num, h0, Below.refl _ _⟩
  case round =>
    obtain ⟨k, z, hk, hz, rfl, hJs, hnx⟩ := hrel
    have HZ : Hid (z = (L.length : Int) - 1 - k) := hz
    have hB2 : wr.cell? ⟨Bs, 0, none⟩ = some (.slice a L.length cap) := (hnx.cell (p := ⟨Bs, 0, none⟩) hBn).trans hBs
    by_cases hlt : k < L.length
    · obtain ⟨b, hb, rfl, hcc⟩ := hheld.resolve_left (fun h => by rw [List.map_eq_nil_iff] at h; rw [h] at hlt; simp at hlt)
      obtain ⟨m, hm⟩ : ∃ m, L.length - 1 - k = m := ⟨_, rfl⟩
      have hm1 : m < L.length := by omega
      have hzm : z.toNat = m := by omega
      have hz0 : 0 ≤ z := by omega
      have hz1 : z < (L.length : Int) := by omega
      obtain ⟨⟨y, hsy⟩, hy0⟩ : ∃ y, L[m] = y := ⟨_, rfl⟩
      have hy : verAt (L.map (·.1)) m = y := by rw [verAt_eq (by simpa using hm1), List.getElem_map, hy0]
      have q := fun r u h => (hnx.cell (p := ⟨b, m * 6 + r, none⟩) hb).trans (hcc m r u hm1 h)
      have x0 : wr.cell? ⟨b, m * 6, none⟩ = some (.int .i64 y.wall) := q 0 _ (by rw [hy]; rfl)
      have x1 : wr.cell? ⟨b, m * 6 + 1, none⟩ = some (.int .i64 y.count) := q 1 _ (by rw [hy]; rfl)
      have x2 : wr.cell? ⟨b, m * 6 + 2, none⟩ = some (.int .i64 y.site) := q 2 _ (by rw [hy]; rfl)
      have x3 : wr.cell? ⟨b, m * 6 + 3, none⟩ = some (.int .i64 y.seq) := q 3 _ (by rw [hy]; rfl)
      have x4 : wr.cell? ⟨b, m * 6 + 4, none⟩ = some (.string y.data) := q 4 _ (by rw [hy]; rfl)
      have x5 : wr.cell? ⟨b, m * 6 + 5, none⟩ = some (.bool y.gone) := q 5 _ (by rw [hy]; rfl)
      have NX : Hid (behindL L (k + 1) = behindL L k ++ [⟨y, hsy⟩]) := by
        show behindL L (k + 1) = _
        rw [behindL_succ hlt, ← hy0]
        simp only [hm]
      obtain ⟨fn, tmps, assign, body, hyy, hR⟩ := hY _ ⟨y, hsy⟩ wr hJs (by rw [behindL_length hk]; exact hlt)
      clear q hcc hz hy hm hY hy0
      dsimp only at hyy
      gi_wp2
      refine hR.mono ?_
      rintro e W3 (⟨rfl, hJ3, hk3⟩ | ⟨rfl, hJx3⟩)
      · gi_wp2
        go_roundw
        case rel => exact ⟨k + 1, z - 1, by omega, by have := HZ.out; omega, by go_num, by rw [NX.out]; exact hJ3, hnx.trans hk3⟩
        case measure => simp [intOf]; omega
      · gi_wp2
        refine bodyPost_ret (results_none rfl _ _ _) rfl ?_
        exact ⟨⟨_, rfl⟩, .inr ⟨_, ⟨k, hlt, rfl⟩, by rw [NX.out]; exact hJx3⟩⟩
    · have hzn : ¬ 0 ≤ z := by omega
      clear hz
      have ALL : Hid (behindL L k = L.reverse) := by show behindL L k = L.reverse; unfold behindL; rw [List.take_of_length_le (by rw [List.length_reverse]; omega)]
      gi_wp2
      go_end0
      rw [ALL.out] at hJs
      exact ⟨⟨_, rfl⟩, .inl hJs⟩

set_option maxHeartbeats 1000000 in
theorem fromBehind_in (F : Fence) (n : Nat) (h5 : F.fn 77) (hro : F.round = none) (a : Option Addr) (len cap : Nat) (w : World) :
    CallsIn F n Tryd.prog 77 #[.slice a len cap] w fun e w' => e = .returned (.func (.func 85) #[] #[.pointer (some ⟨w.heap.size, 0, none⟩)]) ∧ w' = w.alloc (.cells #[.slice a len cap] 62) := by
  refine callsIn_of_wp Tryd.func77 rfl h5 ?_ hro
  simp only [Tryd.ntmps77, List.size_toArray, List.length_cons, List.length_nil, Nat.reduceAdd, Nat.reduceSub, Array.replicate_succ, Array.replicate_zero, List.push_toArray, List.append_toArray, List.nil_append, List.cons_append]
  gi_wp2
  go_ret
  exact ⟨rfl, rfl⟩

theorem behind_stops (F : Fence) (n : Nat) (h7 : F.fn 85) (hro : F.round = none) (hn : 1 ≤ n) (Bs n₀ : Nat) (sv : Value) (L : List SV) (hl : L.length ≤ 1000) (w : World) (hBs : Bs < n₀) (hn₀ : n₀ ≤ w.heap.size)
    (hc : w.cell? ⟨Bs, 0, none⟩ = some sv) (hV : VsBelow n₀ w sv (L.map (·.1))) :
    SeqStopsK F n Tryd.prog 85 #[.pointer (some ⟨Bs, 0, none⟩)] (fun x : SV => #[Value.agg #[.int .i64 x.1.wall, .int .i64 x.1.count, .int .i64 x.1.site, .int .i64 x.1.seq, .string x.1.data, .bool x.1.gone]]) (Below n₀) (fun ys => ys = L.reverse) (fun pre => ∃ k, k < L.length ∧ pre = behindL L (k + 1)) L.length w := fun l J Jx W hW _ _ hY h0 => by
  have hb := hW.mono hn₀
  have hc' := (hb.cell (p := ⟨Bs, 0, none⟩) hBs).trans hc
  obtain ⟨a, cap, rfl, hc1, hc2, hheld⟩ := hV
  exact behind1_in F n h7 hro hn l Bs n₀ _ L hl J Jx hBs hY W hc' ⟨a, cap, rfl, hc1, hc2, hheld.imp_right fun ⟨b, hb1, e, hcc⟩ => ⟨b, hb1, e, fun i r u hi hu => (hb.cell (p := ⟨b, i * 6 + r, none⟩) hb1).trans (hcc i r u hi hu)⟩⟩ h0

/-- the first of them that a vector has -/
def lastB (a0 a1 a2 a3 : Int) (L : List Ver) : Option Ver := L.reverse.find? (hasV a0 a1 a2 a3)

/-- what is handed back out of the two boxes -/
theorem pgLast_results {tmps : Array Value} {w : World} {b c : Nat} {v : Ver} {sv : Bool} (h : RowL w b (verL v)) (h1 : w.cell? ⟨c, 0, none⟩ = some (.bool sv)) (h2 : tmps[4]? = some (.pointer (some ⟨b, 0, none⟩))) (h3 : tmps[5]? = some (.pointer (some ⟨c, 0, none⟩))) :
    (results Tryd.f65 tmps).run Tryd.prog w = .ok (.tuple #[.agg (verL v).toArray, .bool sv]) w := by
  have z0 := h.cell 0 _ rfl
  have z1 := h.cell 1 _ rfl
  have z2 := h.cell 2 _ rfl
  have z3 := h.cell 3 _ rfl
  have z4 := h.cell 4 _ rfl
  have z5 := h.cell 5 _ rfl
  simp [results, Tryd.results65, go_sem, h1, h2, h3, z0, z1, z2, z3, z4, z5, verL]

/-- rows of cells are the loop's own -/
theorem RowL.abides {X Y : World} {b : Nat} {vs : List Value} {row : Option Nat} (h : RowL X b vs) (hg : X.grownBy Y row) (hr : ∀ r, row = some r → ∃ o : Obj, X.heap[r]? = some o ∧ o.isCells = false) (hn : 0 < vs.length) : RowL Y b vs := by
  refine h.kept (hg.block b h.lt fun e => ?_) hg.size
  obtain ⟨o, ho, hc⟩ := hr b e.symm
  have := h.cell 0 vs[0] (List.getElem?_eq_getElem hn)
  unfold World.cell? at this
  rw [ho] at this
  cases o <;> simp_all [Obj.isCells]

theorem RowL.verSet {w : World} {b : Nat} {y : Ver} (h : RowL w b (verL y)) (x : Ver) : RowL ((((((w.setCell ⟨b, 0, none⟩ (.int .i64 x.wall)).setCell ⟨b, 1, none⟩ (.int .i64 x.count)).setCell ⟨b, 2, none⟩ (.int .i64 x.site)).setCell ⟨b, 3, none⟩ (.int .i64 x.seq)).setCell ⟨b, 4, none⟩ (.string x.data)).setCell ⟨b, 5, none⟩ (.bool x.gone)) b (verL x) :=
  (((((h.set 0 _ (by simp [verL])).set 1 _ (by simp [verL])).set 2 _ (by simp [verL])).set 3 _ (by simp [verL])).set 4 _ (by simp [verL])).set 5 _ (by simp [verL])

/-- a version is written into a box -/
abbrev setVer (w : World) (b : Nat) (x : Ver) : World := (((((w.setCell ⟨b, 0, none⟩ (.int .i64 x.wall)).setCell ⟨b, 1, none⟩ (.int .i64 x.count)).setCell ⟨b, 2, none⟩ (.int .i64 x.site)).setCell ⟨b, 3, none⟩ (.int .i64 x.seq)).setCell ⟨b, 4, none⟩ (.string x.data)).setCell ⟨b, 5, none⟩ (.bool x.gone)
theorem RowL.verFar {w : World} {b c : Nat} {vs : List Value} (h : RowL w b vs) (hn : c ≠ b) (x : Ver) : RowL (setVer w c x) b vs :=
  (((((h.far ⟨c, 0, none⟩ _ hn).far ⟨c, 1, none⟩ _ hn).far ⟨c, 2, none⟩ _ hn).far ⟨c, 3, none⟩ _ hn).far ⟨c, 4, none⟩ _ hn).far ⟨c, 5, none⟩ _ hn
theorem keeps_setVer (W : World) (b : Nat) (x : Ver) : KeepsOthers W (setVer W b x) :=
  (((((KeepsOthers.setCell _ _ _).trans (KeepsOthers.setCell _ _ _)).trans (KeepsOthers.setCell _ _ _)).trans (KeepsOthers.setCell _ _ _)).trans (KeepsOthers.setCell _ _ _)).trans (KeepsOthers.setCell _ _ _)
theorem below_setVer {B : Nat} {w W : World} {b : Nat} (h : Below B w W) (hB : B ≤ b) (x : Ver) : Below B w (setVer W b x) :=
  (((((h.setCell (p := ⟨b, 0, none⟩) hB _).setCell (p := ⟨b, 1, none⟩) hB _).setCell (p := ⟨b, 2, none⟩) hB _).setCell (p := ⟨b, 3, none⟩) hB _).setCell (p := ⟨b, 4, none⟩) hB _).setCell (p := ⟨b, 5, none⟩) hB _

/-- x is the first of these that a vector has, and the last of them -/
def FirstIn (a0 a1 a2 a3 : Int) (pre : List SV) (x : SV) : Prop := ∃ p, pre = p ++ [x] ∧ (∀ y ∈ p, hasV a0 a1 a2 a3 y.1 = false) ∧ hasV a0 a1 a2 a3 x.1 = true
theorem FirstIn.find {a0 a1 a2 a3 : Int} {LS : List SV} {k : Nat} {x : SV} (h : FirstIn a0 a1 a2 a3 (behindL LS k) x) : lastB a0 a1 a2 a3 (LS.map (·.1)) = some x.1 := by
  obtain ⟨p, e, hp, hx⟩ := h
  have e2 : LS.reverse = (p ++ [x]) ++ LS.reverse.drop k := by rw [← e]; exact (List.take_append_drop k _).symm
  unfold lastB
  rw [← List.map_reverse, e2]
  simp only [List.map_append, List.find?_append, List.append_assoc]
  have h1 : (p.map (·.1)).find? (hasV a0 a1 a2 a3) = none := by
    rw [List.find?_eq_none]
    intro v hv
    obtain ⟨y, hy, rfl⟩ := List.mem_map.1 hv
    rw [hp y hy]
    decide
  rw [h1]
  simp [hx]
theorem find_none {a0 a1 a2 a3 : Int} {LS : List SV} (h : ∀ x ∈ LS.reverse, hasV a0 a1 a2 a3 x.1 = false) : lastB a0 a1 a2 a3 (LS.map (·.1)) = none := by
  unfold lastB
  rw [List.find?_eq_none]
  intro v hv
  rw [List.mem_reverse] at hv
  obtain ⟨y, hy, rfl⟩ := List.mem_map.1 hv
  rw [h y (by simpa using hy)]
  decide
theorem keepsFrom_below {B : Nat} {W W' : World} (h : Below W.heap.size W W') : KeepsFrom B W W' := ⟨h.size, fun k _ _ hk _ => (h.block k (Array.getElem?_eq_some_iff.1 hk).1).trans hk⟩

set_option maxRecDepth 100000 in
set_option maxHeartbeats 8000000 in
/-- the last version of a row that a vector has -/
theorem last_any {a : Option Addr} {cap : Nat} {L : List Ver} (a0 a1 a2 a3 : Int) (w : World) (hV : VsIn w a cap L) (hok : ∀ v ∈ L, 0 ≤ v.site ∧ v.site ≤ 3) (hl : L.length ≤ 1000) :
    Calls Tryd.prog 65 #[.slice a L.length cap, .agg #[.int .i64 a0, .int .i64 a1, .int .i64 a2, .int .i64 a3]] w fun e w' =>
      e = .returned (.tuple #[.agg (bestL (lastB a0 a1 a2 a3 L)).toArray, .bool (someB (lastB a0 a1 a2 a3 L))]) ∧ Below w.heap.size w w' := by
  refine (callsIn_wide (n := 6)).1 ?_
  obtain ⟨LS, hLS⟩ : ∃ LS : List SV, LS.map (·.1) = L := ⟨L.attachWith _ hok, by simp⟩
  have hLl : LS.length = L.length := by rw [← hLS, List.length_map]
  have RA := (((Row4.new w 37 a0 a1 a2 a3).boxed (.cells #[.int .i64 0, .int .i64 0, .int .i64 0, .int .i64 0, .string ⟨#[]⟩, .bool false] 71)).boxed (.cells #[.bool false] 4)).boxed (.cells #[.slice a L.length cap] 62)
  have RR := ((RowL.new (w := w.alloc (.cells #[.int .i64 a0, .int .i64 a1, .int .i64 a2, .int .i64 a3] 37)) (T := 71) (n := w.heap.size + 1) (verL ver0) (by simp)).boxed (.cells #[.bool false] 4)).boxed (.cells #[.slice a L.length cap] 62)
  have RF := (RowL.new (w := (w.alloc (.cells #[.int .i64 a0, .int .i64 a1, .int .i64 a2, .int .i64 a3] 37)).alloc (.cells (verL ver0).toArray 71)) (T := 4) (n := w.heap.size + 1 + 1) [.bool false] (by simp)).boxed (.cells #[.slice a L.length cap] 62)
  have RL := RowL.new (w := ((w.alloc (.cells #[.int .i64 a0, .int .i64 a1, .int .i64 a2, .int .i64 a3] 37)).alloc (.cells (verL ver0).toArray 71)).alloc (.cells #[.bool false] 4)) (T := 62) (n := w.heap.size + 1 + 1 + 1) [.slice a L.length cap] (by simp)
  have hb := boxed (boxed (boxed (boxed (Below.refl _ w) (.cells #[.int .i64 a0, .int .i64 a1, .int .i64 a2, .int .i64 a3] 37)) (.cells (verL ver0).toArray 71)) (.cells #[.bool false] 4)) (.cells #[.slice a L.length cap] 62)
  refine callsIn_of_wp_marks Tryd.func65 rfl trivial ?_ rfl
  simp only [Tryd.ntmps65, List.size_toArray, List.length_cons, List.length_nil, Nat.reduceAdd, Nat.reduceSub, Array.replicate_succ, Array.replicate_zero, List.push_toArray, List.append_toArray, List.nil_append, List.cons_append]
  gi_wp2_with (refine ⟨trivial, ?_⟩; gi_at_call 77; refine (fromBehind_in Fence.wide _ trivial rfl _ _ _ _).mono ?_; rintro e w' ⟨rfl, rfl⟩)
  have hsz : ((((w.alloc (.cells #[.int .i64 a0, .int .i64 a1, .int .i64 a2, .int .i64 a3] 37)).alloc (.cells (verL ver0).toArray 71)).alloc (.cells #[.bool false] 4)).alloc (.cells #[.slice a L.length cap] 62)).heap.size = w.heap.size + 4 := by simp
  obtain ⟨W0, hW0⟩ : ∃ W0, (((w.alloc (.cells #[.int .i64 a0, .int .i64 a1, .int .i64 a2, .int .i64 a3] 37)).alloc (.cells #[.int .i64 0, .int .i64 0, .int .i64 0, .int .i64 0, .string ⟨#[]⟩, .bool false] 71)).alloc (.cells #[.bool false] 4)).alloc (.cells #[.slice a L.length cap] 62) = W0 := ⟨_, rfl⟩
  have RA0 : RowL W0 w.heap.size [.int .i64 a0, .int .i64 a1, .int .i64 a2, .int .i64 a3] := by
    rw [← hW0]
    exact (((RowL.new (w := w) (T := 37) [.int .i64 a0, .int .i64 a1, .int .i64 a2, .int .i64 a3] rfl).boxed _).boxed _).boxed _
  have RR0 : RowL W0 (w.heap.size + 1) (verL ver0) := by rw [← hW0]; exact RR
  have RF0 : RowL W0 (w.heap.size + 1 + 1) [.bool false] := by rw [← hW0]; exact RF
  have RL0 : RowL W0 (w.heap.size + 1 + 1 + 1) [.slice a L.length cap] := by rw [← hW0]; exact RL
  have hb0 : Below w.heap.size w W0 := by rw [← hW0]; exact hb
  have hsz0 : W0.heap.size = w.heap.size + 4 := by rw [← hW0]; exact hsz
  rw [hW0]
  clear RA RR RF RL hb hsz hW0
  have VB : VsBelow (w.heap.size + 4) W0 (.slice a L.length cap) (LS.map (·.1)) := by
    rw [hLS]
    exact ⟨a, cap, rfl, hV.len, hV.cap, hV.held.imp_right fun ⟨b, hb1, e, hcc⟩ => ⟨b, by omega, e, fun i r u hi hu => cell_later hb0 (hcc i r u hi hu)⟩⟩
  have HLS : Hid (LS.map (·.1) = L) := hLS
  have HLL : Hid (LS.length = L.length) := hLl
  clear hLS hLl hV
  refine wpIn_rangeFunc_ownH rfl (by decide) (gf := 85) (lb := #[.pointer (some ⟨w.heap.size + 1 + 1 + 1, 0, none⟩)]) rfl trivial (enters_of Tryd.func85 (by kernel_rfl) rfl)
    (behind_stops Fence.wide 5 trivial rfl (by decide) (w.heap.size + 1 + 1 + 1) (w.heap.size + 4) (.slice a L.length cap) LS (by have := HLL.out; omega) W0 (by omega) (by omega) (RL0.cell 0 _ rfl) VB) belowK_t (belowK_b (by omega)) (Below.refl _ _) (fun _ => rfl)
    (fun pre W => Below W0.heap.size W0 W ∧ ∀ x ∈ pre, hasV a0 a1 a2 a3 x.1 = false)
    (fun c pre W => (∃ x : SV, c = .ret ∧ (RowL W (w.heap.size + 1) (verL x.1) ∧ RowL W (w.heap.size + 1 + 1) [.bool true]) ∧ FirstIn a0 a1 a2 a3 pre x) ∧ Below w.heap.size w W)
    (OwnFrom.and (ownFrom_below (Nat.le_refl _) (Nat.le_refl _)) (ownFrom_pure _ _))
    (fun c => OwnFrom.and (Own.from (fun s A B row hs hg hr => by obtain ⟨x, e, ⟨h1, h2⟩, h3⟩ := hs; exact ⟨x, e, ⟨h1.abides hg hr (by simp [verL]), h2.abides hg hr (by simp)⟩, h3⟩) _) (ownFrom_below (Nat.le_refl _) (by omega)))
    ⟨Below.refl _ _, by simp⟩
    (fun x a' W => ∃ Bx, w.heap.size + 1 + 1 < Bx ∧ RowL W Bx (verL x.1) ∧ a' = { tmps := #[.slice a L.length cap, .agg #[.int .i64 a0, .int .i64 a1, .int .i64 a2, .int .i64 a3], undef, .pointer (some ⟨w.heap.size, 0, none⟩), .pointer (some ⟨w.heap.size + 1, 0, none⟩), .pointer (some ⟨w.heap.size + 1 + 1, 0, none⟩), .pointer (some ⟨Bx, 0, none⟩), .slice a L.length cap, .func (.func 85) #[] #[.pointer (some ⟨w.heap.size + 1 + 1 + 1, 0, none⟩)], .agg #[.int .i64 x.1.wall, .int .i64 x.1.count, .int .i64 x.1.site, .int .i64 x.1.seq, .string x.1.data, .bool x.1.gone], undef, undef, undef, undef, undef], defers := [] })
    (fun x a' _ X Y row hs hg hr => by obtain ⟨Bx, h1, h2, h3⟩ := hs; exact ⟨Bx, h1, h2.abides hg (fun r e => (hr r e).2) (by simp [verL]), h3⟩)
    ?assign ?body ?done ?stop
  case assign =>
    rintro l pre x W K ⟨B1, N1⟩ hK
    have s1 := B1.size
    gi_wp2
    exact hK _ _ ((KeepsOthers.alloc _ _).from _) ((Below.refl _ W).alloc (by omega) _) ⟨boxed B1 _, N1⟩ ⟨W.heap.size, by omega, RowL.new (w := W) (T := 71) (verL x.1) rfl, rfl⟩
  case body =>
    rintro l pre ⟨x, hx0, hx1⟩ a' W hl ⟨r, hr⟩ ⟨B1, N1⟩ ⟨Bx, hBx, RX, rfl⟩ hlt
    have NN : Hid (∀ x ∈ pre, hasV a0 a1 a2 a3 x.1 = false) := N1
    clear N1 VB
    simp only at RX hx0 hx1
    have RA1 := RA0.later B1
    have c0 := RA1.cell 0 _ rfl
    have c1 := RA1.cell 1 _ rfl
    have c2 := RA1.cell 2 _ rfl
    have c3 := RA1.cell 3 _ rfl
    have x0 := RX.cell 0 _ rfl
    have x1 := RX.cell 1 _ rfl
    have x2 := RX.cell 2 _ rfl
    have x3 := RX.cell 3 _ rfl
    have x4 := RX.cell 4 _ rfl
    have x5 := RX.cell 5 _ rfl
    have RR1 := RR0.later B1
    have RF1 := RF0.later B1
    cases hh : hasV a0 a1 a2 a3 x
    · have HH : Hid (hasV a0 a1 a2 a3 x = false) := hh
      clear hh
      gi_wp2_with (refine ⟨trivial, ?_⟩; gi_at_call 68; refine (CallsIn.inRound l (callsIn_wide.2 (has_is HH.out hx0 hx1 _))).mono ?_; rintro e w' ⟨rfl, hb7⟩)
      exact ⟨keepsFrom_below hb7, hb7.mono (by have := B1.size; omega), behind B1 hb7, fun y hy => by
        rcases List.mem_append.1 hy with h | h
        · exact NN.out y h
        · obtain rfl := List.mem_singleton.1 h
          exact HH.out⟩
    · have HH : Hid (hasV a0 a1 a2 a3 x = true) := hh
      clear hh
      gi_wp2_with (refine ⟨trivial, ?_⟩; gi_at_call 68; refine (CallsIn.inRound l (callsIn_wide.2 (has_is HH.out hx0 hx1 _))).mono ?_; rintro e w' ⟨rfl, hb7⟩; replace RX := RX.later hb7; replace RR1 := RR1.later hb7; replace RF1 := RF1.later hb7; have y0 := RX.cell 0 _ rfl; have y1 := RX.cell 1 _ rfl; have y2 := RX.cell 2 _ rfl; have y3 := RX.cell 3 _ rfl; have y4 := RX.cell 4 _ rfl; have y5 := RX.cell 5 _ rfl; have r0 := RR1.cell 0 _ rfl; have r1 := RR1.cell 1 _ rfl; have r2 := RR1.cell 2 _ rfl; have r3 := RR1.cell 3 _ rfl; have r4 := RR1.cell 4 _ rfl; have r5 := RR1.cell 5 _ rfl; have f0 := RF1.cell 0 _ rfl; have g0 := RR1.free 0 (by simp [verL]); have g1 := RR1.free 1 (by simp [verL]); have g2 := RR1.free 2 (by simp [verL]); have g3 := RR1.free 3 (by simp [verL]); have g4 := RR1.free 4 (by simp [verL]); have g5 := RR1.free 5 (by simp [verL]); have g6 := RF1.free 0 (by simp))
      have hB7 : Below w.heap.size w w' := behind (behind hb0 B1) (hb7.mono (Nat.le_refl _))
      refine ⟨(keepsFrom_below hb7).trans (((keeps_setVer w' (w.heap.size + 1) x).trans (KeepsOthers.setCell _ ⟨w.heap.size + 1 + 1, 0, none⟩ (.bool true))).from _), ⟨⟨x, hx0, hx1⟩, rfl, ⟨(RR1.verSet x).far ⟨w.heap.size + 1 + 1, 0, none⟩ (.bool true) (by simp), ?_⟩, ⟨pre, rfl, NN.out, HH.out⟩⟩, (below_setVer hB7 (b := w.heap.size + 1) (by omega) x).setCell (p := ⟨w.heap.size + 1 + 1, 0, none⟩) (by simp; omega) _⟩
      exact (RF1.verFar (c := w.heap.size + 1) (by omega) x).set 0 (.bool true) (by simp)
  case done =>
    rintro D ys W hD rfl ⟨B1, N1⟩ hK
    have RR1 := RR0.later B1
    have RF1 := RF0.later B1
    have r0 := RR1.cell 0 _ rfl
    have r1 := RR1.cell 1 _ rfl
    have r2 := RR1.cell 2 _ rfl
    have r3 := RR1.cell 3 _ rfl
    have r4 := RR1.cell 4 _ rfl
    have r5 := RR1.cell 5 _ rfl
    have f0 := RF1.cell 0 _ rfl
    have g0 := RR1.free 0 (by simp [verL])
    have g1 := RR1.free 1 (by simp [verL])
    have g2 := RR1.free 2 (by simp [verL])
    have g3 := RR1.free 3 (by simp [verL])
    have g4 := RR1.free 4 (by simp [verL])
    have g5 := RR1.free 5 (by simp [verL])
    have g6 := RF1.free 0 (by simp)
    have LN : Hid (lastB a0 a1 a2 a3 L = none) := by show _ = _; rw [← HLS.out]; exact find_none N1
    have BW : Below w.heap.size w W := behind hb0 B1
    clear N1 VB
    gi_wp2
    have hK' := ((keeps_setVer W (w.heap.size + 1) ver0).trans (KeepsOthers.setCell _ ⟨w.heap.size + 1 + 1, 0, none⟩ (.bool false))).same D _ hK rfl
    refine ⟨by simp, .inl ⟨_, _, rfl, run_takeDeferred hK', ?_⟩⟩
    have R2 := ((RR1.verSet ver0).far ⟨w.heap.size + 1 + 1, 0, none⟩ (.bool false) (by simp)).abides (grownBy_putObj' _ D (.deferred none)) (fun r e => by cases e; exact ⟨_, hK', rfl⟩) (by simp [verL])
    have R3 := ((RF1.verFar (c := w.heap.size + 1) (by omega) ver0).set 0 (.bool false) (by simp)).abides (grownBy_putObj' _ D (.deferred none)) (fun r e => by cases e; exact ⟨_, hK', rfl⟩) (by simp)
    rw [LN.out]
    exact ⟨_, pgLast_results (v := ver0) R2 (R3.cell 0 _ rfl) rfl rfl, rfl, ((below_setVer BW (b := w.heap.size + 1) (by omega) ver0).setCell (p := ⟨w.heap.size + 1 + 1, 0, none⟩) (by simp; omega) _).trans (belowK_b (w := w) (Nat.le_refl _) _ D _ _ (by omega) hK' rfl rfl)⟩
  case stop =>
    rintro D c pre W hD ⟨k, hk, rfl⟩ ⟨⟨x, rfl, ⟨R1, R2⟩, hf⟩, hB⟩ hK
    have LN : Hid (lastB a0 a1 a2 a3 L = some x.1) := by show _ = _; rw [← HLS.out]; exact hf.find
    clear hf VB
    gi_wp2
    refine ⟨by simp, .inl ⟨_, _, rfl, run_takeDeferred hK, ?_⟩⟩
    have R3 := R1.abides (grownBy_putObj' _ D (.deferred none)) (fun r e => by cases e; exact ⟨_, hK, rfl⟩) (by simp [verL])
    have R4 := R2.abides (grownBy_putObj' _ D (.deferred none)) (fun r e => by cases e; exact ⟨_, hK, rfl⟩) (by simp)
    rw [LN.out]
    exact ⟨_, pgLast_results (v := x.1) R3 (R4.cell 0 _ rfl) rfl rfl, rfl, hB.trans (belowK_b (w := w) (Nat.le_refl _) _ D _ _ (by omega) hK rfl rfl)⟩

end Go.Proofs.YtnbgjiibpnoieaaDoor
