import Derived.Test.YtoanjdndmlffdaaGreatDoorPgSearch
import Derived.RangeFuncNested
import Derived.RangeFuncBound
import Derived.OwnWalkIn
import Derived.LoopNIn
import Derived.LoopIn
import Derived.Test.YtoanjdndmlffdaaGreatDoorSiteC
namespace Go.Proofs.YtoanjdndmlffdaaGreatDoor
open Go.RowKit
section
open Go.Shelf
attribute [local go_sem] Oper.semAt_some

/-- a version of a site that is -/
abbrev SV := { v : Ver // 0 ≤ v.site ∧ v.site ≤ 3 }

/-- the last k of them, the last one first -/
def behindL {α : Type} (L : List α) (k : Nat) : List α := L.reverse.take k
theorem behindL_succ {α : Type} {L : List α} {k : Nat} (h : k < L.length) : behindL L (k + 1) = behindL L k ++ [L[L.length - 1 - k]] := by
  unfold behindL
  rw [List.take_succ_eq_append_getElem (by simpa using h), List.getElem_reverse]
theorem behindL_length {α : Type} {L : List α} {k : Nat} (h : k ≤ L.length) : (behindL L k).length = k := by
  unfold behindL
  rw [List.length_take, List.length_reverse]
  omega

/-- what the iterator reads: the slice's value in its box, and the versions' cells, below n₀ -/
def VsBelow (n₀ : Nat) (W : World) (sv : Value) (L : List Ver) : Prop :=
  ∃ a cap, sv = .slice a L.length cap ∧ L.length ≤ cap ∧ cap ≤ 9223372036854775807 ∧ (L = [] ∨ ∃ b, b < n₀ ∧ a = some ⟨b, 0, none⟩ ∧ ∀ i r u, i < L.length → (verL (verAt L i))[r]? = some u → W.cell? ⟨b, i * 6 + r, none⟩ = some u)

set_option maxRecDepth 100000 in
set_option maxHeartbeats 2000000 in
theorem behind1_in (F : Fence) (n : Nat) (h7 : F.fn 288) (hro : F.round = none) (hn : 1 ≤ n) (l Bs n₀ : Nat) (sv : Value) (L : List SV) (hl : L.length ≤ 1000) (J Jx : List SV → World → Prop)
    (hBn : Bs < n₀) (hY : ∀ pre x W, J pre W → pre.length < L.length → YieldAt F (n - 1) Tryz.prog l #[.agg #[.int .i64 x.1.wall, .int .i64 x.1.count, .int .i64 x.1.site, .int .i64 x.1.seq, .string x.1.data, .bool x.1.gone]] W fun e W' =>
      (e = .returned (.bool true) ∧ J (pre ++ [x]) W' ∧ Below n₀ W W') ∨ (e = .returned (.bool false) ∧ Jx (pre ++ [x]) W'))
    (W : World) (hBs : W.cell? ⟨Bs, 0, none⟩ = some sv) (hV : VsBelow n₀ W sv (L.map (·.1))) (h0 : J [] W) :
    CallsIn F n Tryz.prog 288 #[.func (.yield l) #[] #[], .pointer (some ⟨Bs, 0, none⟩)] W fun e W' => (∃ v, e = .returned v) ∧
      ((∃ ys, ys = L.reverse ∧ J ys W') ∨ (∃ pre, (∃ k, k < L.length ∧ pre = behindL L (k + 1)) ∧ Jx pre W')) := by
  obtain ⟨a, cap, rfl, hc1, hc2, hheld⟩ := hV
  rw [List.length_map] at hBs hc1 hheld
  have HB : Hid (Bs < n₀) := hBn
  refine callsIn_of_wp Tryz.func288 rfl h7 ?_ hro
  simp only [Tryz.ntmps288, List.size_toArray, List.length_cons, List.length_nil, Nat.reduceAdd, Nat.reduceSub, Array.replicate_succ, Array.replicate_zero, List.push_toArray, List.append_toArray, List.nil_append, List.cons_append]
  gi_wp2
  gi_loopw [3] (fun i wr => ∃ (k : Nat) (z : Int), k ≤ L.length ∧ z = (L.length : Int) - 1 - k ∧ i = .int .i64 z ∧ J (behindL L k) wr ∧ Below n₀ W wr) (fun i _ => (intOf i + 1).toNat)
  case atStart => exact ⟨0, (L.length : Int) - 1, Nat.zero_le _, by omega, by go_num, h0, Below.refl _ _⟩
  case round =>
    obtain ⟨k, z, hk, hz, rfl, hJs, hnx⟩ := hrel
    have HZ : Hid (z = (L.length : Int) - 1 - k) := hz
    have hB2 : wr.cell? ⟨Bs, 0, none⟩ = some (.slice a L.length cap) := (hnx.cell (p := ⟨Bs, 0, none⟩) hBn).trans hBs
    by_cases hlt : k < L.length
    · obtain ⟨b, hb, rfl, hcc⟩ := hheld.resolve_left (fun h => by rw [List.map_eq_nil_iff] at h; rw [h] at hlt; simp at hlt)
      obtain ⟨m, hm⟩ : ∃ m, L.length - 1 - k = m := ⟨_, rfl⟩
      have hm1 : m < L.length := by omega
      have hzm : z.toNat = m := by omega
      have hz0 : 0 ≤ z := by omega
      have hz1 : z < (L.length : Int) := by omega
      obtain ⟨⟨y, hsy⟩, hy0⟩ : ∃ y, L[m] = y := ⟨_, rfl⟩
      have hy : verAt (L.map (·.1)) m = y := by rw [verAt_eq (by simpa using hm1), List.getElem_map, hy0]
      have q := fun r u h => (hnx.cell (p := ⟨b, m * 6 + r, none⟩) hb).trans (hcc m r u hm1 h)
      have x0 : wr.cell? ⟨b, m * 6, none⟩ = some (.int .i64 y.wall) := q 0 _ (by rw [hy]; rfl)
      have x1 : wr.cell? ⟨b, m * 6 + 1, none⟩ = some (.int .i64 y.count) := q 1 _ (by rw [hy]; rfl)
      have x2 : wr.cell? ⟨b, m * 6 + 2, none⟩ = some (.int .i64 y.site) := q 2 _ (by rw [hy]; rfl)
      have x3 : wr.cell? ⟨b, m * 6 + 3, none⟩ = some (.int .i64 y.seq) := q 3 _ (by rw [hy]; rfl)
      have x4 : wr.cell? ⟨b, m * 6 + 4, none⟩ = some (.string y.data) := q 4 _ (by rw [hy]; rfl)
      have x5 : wr.cell? ⟨b, m * 6 + 5, none⟩ = some (.bool y.gone) := q 5 _ (by rw [hy]; rfl)
      have NX : Hid (behindL L (k + 1) = behindL L k ++ [⟨y, hsy⟩]) := by
        show behindL L (k + 1) = _
        rw [behindL_succ hlt, ← hy0]
        simp only [hm]
      obtain ⟨fn, tmps, assign, body, hyy, hR⟩ := hY _ ⟨y, hsy⟩ wr hJs (by rw [behindL_length hk]; exact hlt)
      clear q hcc hz hy hm hY hy0
      dsimp only at hyy
      gi_wp2
      refine hR.mono ?_
      rintro e W3 (⟨rfl, hJ3, hk3⟩ | ⟨rfl, hJx3⟩)
      · gi_wp2
        go_roundw
        case rel => exact ⟨k + 1, z - 1, by omega, by have := HZ.out; omega, by go_num, by rw [NX.out]; exact hJ3, hnx.trans hk3⟩
        case measure => simp [intOf]; omega
      · gi_wp2
        refine bodyPost_ret (results_none rfl _ _ _) rfl ?_
        exact ⟨⟨_, rfl⟩, .inr ⟨_, ⟨k, hlt, rfl⟩, by rw [NX.out]; exact hJx3⟩⟩
    · have hzn : ¬ 0 ≤ z := by omega
      clear hz
      have ALL : Hid (behindL L k = L.reverse) := by show behindL L k = L.reverse; unfold behindL; rw [List.take_of_length_le (by rw [List.length_reverse]; omega)]
      gi_wp2
      go_end0
      rw [ALL.out] at hJs
      exact ⟨⟨_, rfl⟩, .inl hJs⟩

set_option maxHeartbeats 1000000 in
theorem fromBehind_in (F : Fence) (n : Nat) (h5 : F.fn 281) (hro : F.round = none) (a : Option Addr) (len cap : Nat) (w : World) :
    CallsIn F n Tryz.prog 281 #[.slice a len cap] w fun e w' => e = .returned (.func (.func 288) #[] #[.pointer (some ⟨w.heap.size, 0, none⟩)]) ∧ w' = w.alloc (.cells #[.slice a len cap] 215) := by
  refine callsIn_of_wp Tryz.func281 rfl h5 ?_ hro
  simp only [Tryz.ntmps281, List.size_toArray, List.length_cons, List.length_nil, Nat.reduceAdd, Nat.reduceSub, Array.replicate_succ, Array.replicate_zero, List.push_toArray, List.append_toArray, List.nil_append, List.cons_append]
  gi_wp2
  go_ret
  exact ⟨rfl, rfl⟩

theorem behind_stops (F : Fence) (n : Nat) (h7 : F.fn 288) (hro : F.round = none) (hn : 1 ≤ n) (Bs n₀ : Nat) (sv : Value) (L : List SV) (hl : L.length ≤ 1000) (w : World) (hBs : Bs < n₀) (hn₀ : n₀ ≤ w.heap.size)
    (hc : w.cell? ⟨Bs, 0, none⟩ = some sv) (hV : VsBelow n₀ w sv (L.map (·.1))) :
    SeqStopsK F n Tryz.prog 288 #[.pointer (some ⟨Bs, 0, none⟩)] (fun x : SV => #[Value.agg #[.int .i64 x.1.wall, .int .i64 x.1.count, .int .i64 x.1.site, .int .i64 x.1.seq, .string x.1.data, .bool x.1.gone]]) (Below n₀) (fun ys => ys = L.reverse) (fun pre => ∃ k, k < L.length ∧ pre = behindL L (k + 1)) L.length w := fun l J Jx W hW _ _ hY h0 => by
  have hb := hW.mono hn₀
  have hc' := (hb.cell (p := ⟨Bs, 0, none⟩) hBs).trans hc
  obtain ⟨a, cap, rfl, hc1, hc2, hheld⟩ := hV
  exact behind1_in F n h7 hro hn l Bs n₀ _ L hl J Jx hBs hY W hc' ⟨a, cap, rfl, hc1, hc2, hheld.imp_right fun ⟨b, hb1, e, hcc⟩ => ⟨b, hb1, e, fun i r u hi hu => (hb.cell (p := ⟨b, i * 6 + r, none⟩) hb1).trans (hcc i r u hi hu)⟩⟩ h0

/-- the first of them that a vector has -/
def lastB (a0 a1 a2 a3 : Int) (L : List Ver) : Option Ver := L.reverse.find? (hasV a0 a1 a2 a3)

theorem pgLast_results {tmps : Array Value} {w : World} {b c : Nat} {v : Ver} {sv : Bool} (h : RowL w b (verL v)) (h1 : w.cell? ⟨c, 0, none⟩ = some (.bool sv)) (h2 : tmps[4]? = some (.pointer (some ⟨b, 0, none⟩))) (h3 : tmps[5]? = some (.pointer (some ⟨c, 0, none⟩))) :
    (results Tryz.f260 tmps).run Tryz.prog w = .ok (.tuple #[.agg (verL v).toArray, .bool sv]) w := by
  have z0 := h.cell 0 _ rfl
  have z1 := h.cell 1 _ rfl
  have z2 := h.cell 2 _ rfl
  have z3 := h.cell 3 _ rfl
  have z4 := h.cell 4 _ rfl
  have z5 := h.cell 5 _ rfl
  simp [results, Tryz.results260, go_sem, h1, h2, h3, z0, z1, z2, z3, z4, z5, verL]

theorem RowL.abides {X Y : World} {b : Nat} {vs : List Value} {row : Option Nat} (h : RowL X b vs) (hg : X.grownBy Y row) (hr : ∀ r, row = some r → ∃ o : Obj, X.heap[r]? = some o ∧ o.isCells = false) (hn : 0 < vs.length) : RowL Y b vs := by
  refine h.kept (hg.block b h.lt fun e => ?_) hg.size
  obtain ⟨o, ho, hc⟩ := hr b e.symm
  have := h.cell 0 vs[0] (List.getElem?_eq_getElem hn)
  unfold World.cell? at this
  rw [ho] at this
  cases o <;> simp_all [Obj.isCells]

theorem RowL.verSet {w : World} {b : Nat} {y : Ver} (h : RowL w b (verL y)) (x : Ver) : RowL ((((((w.setCell ⟨b, 0, none⟩ (.int .i64 x.wall)).setCell ⟨b, 1, none⟩ (.int .i64 x.count)).setCell ⟨b, 2, none⟩ (.int .i64 x.site)).setCell ⟨b, 3, none⟩ (.int .i64 x.seq)).setCell ⟨b, 4, none⟩ (.string x.data)).setCell ⟨b, 5, none⟩ (.bool x.gone)) b (verL x) :=
  (((((h.set 0 _ (by simp [verL])).set 1 _ (by simp [verL])).set 2 _ (by simp [verL])).set 3 _ (by simp [verL])).set 4 _ (by simp [verL])).set 5 _ (by simp [verL])

/-- a version is written into a box -/
abbrev setVer (w : World) (b : Nat) (x : Ver) : World := (((((w.setCell ⟨b, 0, none⟩ (.int .i64 x.wall)).setCell ⟨b, 1, none⟩ (.int .i64 x.count)).setCell ⟨b, 2, none⟩ (.int .i64 x.site)).setCell ⟨b, 3, none⟩ (.int .i64 x.seq)).setCell ⟨b, 4, none⟩ (.string x.data)).setCell ⟨b, 5, none⟩ (.bool x.gone)
theorem RowL.verFar {w : World} {b c : Nat} {vs : List Value} (h : RowL w b vs) (hn : c ≠ b) (x : Ver) : RowL (setVer w c x) b vs :=
  (((((h.far ⟨c, 0, none⟩ _ hn).far ⟨c, 1, none⟩ _ hn).far ⟨c, 2, none⟩ _ hn).far ⟨c, 3, none⟩ _ hn).far ⟨c, 4, none⟩ _ hn).far ⟨c, 5, none⟩ _ hn
theorem keeps_setVer (W : World) (b : Nat) (x : Ver) : KeepsOthers W (setVer W b x) :=
  (((((KeepsOthers.setCell _ _ _).trans (KeepsOthers.setCell _ _ _)).trans (KeepsOthers.setCell _ _ _)).trans (KeepsOthers.setCell _ _ _)).trans (KeepsOthers.setCell _ _ _)).trans (KeepsOthers.setCell _ _ _)
theorem below_setVer {B : Nat} {w W : World} {b : Nat} (h : Below B w W) (hB : B ≤ b) (x : Ver) : Below B w (setVer W b x) :=
  (((((h.setCell (p := ⟨b, 0, none⟩) hB _).setCell (p := ⟨b, 1, none⟩) hB _).setCell (p := ⟨b, 2, none⟩) hB _).setCell (p := ⟨b, 3, none⟩) hB _).setCell (p := ⟨b, 4, none⟩) hB _).setCell (p := ⟨b, 5, none⟩) hB _

/-- x is the first of these that a vector has, and the last of them -/
def FirstIn (a0 a1 a2 a3 : Int) (pre : List SV) (x : SV) : Prop := ∃ p, pre = p ++ [x] ∧ (∀ y ∈ p, hasV a0 a1 a2 a3 y.1 = false) ∧ hasV a0 a1 a2 a3 x.1 = true
theorem FirstIn.find {a0 a1 a2 a3 : Int} {LS : List SV} {k : Nat} {x : SV} (h : FirstIn a0 a1 a2 a3 (behindL LS k) x) : lastB a0 a1 a2 a3 (LS.map (·.1)) = some x.1 := by
  obtain ⟨p, e, hp, hx⟩ := h
  have e2 : LS.reverse = (p ++ [x]) ++ LS.reverse.drop k := by rw [← e]; exact (List.take_append_drop k _).symm
  unfold lastB
  rw [← List.map_reverse, e2]
  simp only [List.map_append, List.find?_append, List.append_assoc]
  have h1 : (p.map (·.1)).find? (hasV a0 a1 a2 a3) = none := by
    rw [List.find?_eq_none]
    intro v hv
    obtain ⟨y, hy, rfl⟩ := List.mem_map.1 hv
    rw [hp y hy]
    decide
  rw [h1]
  simp [hx]
theorem find_none {a0 a1 a2 a3 : Int} {LS : List SV} (h : ∀ x ∈ LS.reverse, hasV a0 a1 a2 a3 x.1 = false) : lastB a0 a1 a2 a3 (LS.map (·.1)) = none := by
  unfold lastB
  rw [List.find?_eq_none]
  intro v hv
  rw [List.mem_reverse] at hv
  obtain ⟨y, hy, rfl⟩ := List.mem_map.1 hv
  rw [h y (by simpa using hy)]
  decide
theorem keepsFrom_below {B : Nat} {W W' : World} (h : Below W.heap.size W W') : KeepsFrom B W W' := ⟨h.size, fun k _ _ hk _ => (h.block k (Array.getElem?_eq_some_iff.1 hk).1).trans hk⟩

set_option maxRecDepth 100000 in
set_option maxHeartbeats 8000000 in
theorem last_any {a : Option Addr} {cap : Nat} {L : List Ver} (a0 a1 a2 a3 : Int) (w : World) (hV : VsIn w a cap L) (hok : ∀ v ∈ L, 0 ≤ v.site ∧ v.site ≤ 3) (hl : L.length ≤ 1000) :
    Calls Tryz.prog 260 #[.slice a L.length cap, .agg #[.int .i64 a0, .int .i64 a1, .int .i64 a2, .int .i64 a3]] w fun e w' =>
      e = .returned (.tuple #[.agg (bestL (lastB a0 a1 a2 a3 L)).toArray, .bool (someB (lastB a0 a1 a2 a3 L))]) ∧ Below w.heap.size w w' := by
  refine (callsIn_wide (n := 6)).1 ?_
  obtain ⟨LS, hLS⟩ : ∃ LS : List SV, LS.map (·.1) = L := ⟨L.attachWith _ hok, by simp⟩
  have hLl : LS.length = L.length := by rw [← hLS, List.length_map]
  have RA := (((Row4.new w 77 a0 a1 a2 a3).boxed (.cells #[.int .i64 0, .int .i64 0, .int .i64 0, .int .i64 0, .string ⟨#[]⟩, .bool false] 130)).boxed (.cells #[.bool false] 4)).boxed (.cells #[.slice a L.length cap] 215)
  have RR := ((RowL.new (w := w.alloc (.cells #[.int .i64 a0, .int .i64 a1, .int .i64 a2, .int .i64 a3] 77)) (T := 130) (n := w.heap.size + 1) (verL ver0) (by simp)).boxed (.cells #[.bool false] 4)).boxed (.cells #[.slice a L.length cap] 215)
  have RF := (RowL.new (w := (w.alloc (.cells #[.int .i64 a0, .int .i64 a1, .int .i64 a2, .int .i64 a3] 77)).alloc (.cells (verL ver0).toArray 130)) (T := 4) (n := w.heap.size + 1 + 1) [.bool false] (by simp)).boxed (.cells #[.slice a L.length cap] 215)
  have RL := RowL.new (w := ((w.alloc (.cells #[.int .i64 a0, .int .i64 a1, .int .i64 a2, .int .i64 a3] 77)).alloc (.cells (verL ver0).toArray 130)).alloc (.cells #[.bool false] 4)) (T := 215) (n := w.heap.size + 1 + 1 + 1) [.slice a L.length cap] (by simp)
  have hb := boxed (boxed (boxed (boxed (Below.refl _ w) (.cells #[.int .i64 a0, .int .i64 a1, .int .i64 a2, .int .i64 a3] 77)) (.cells (verL ver0).toArray 130)) (.cells #[.bool false] 4)) (.cells #[.slice a L.length cap] 215)
  refine callsIn_of_wp_marks Tryz.func260 rfl trivial ?_ rfl
  simp only [Tryz.ntmps260, List.size_toArray, List.length_cons, List.length_nil, Nat.reduceAdd, Nat.reduceSub, Array.replicate_succ, Array.replicate_zero, List.push_toArray, List.append_toArray, List.nil_append, List.cons_append]
  gi_wp2_with (refine ⟨trivial, ?_⟩; gi_at_call 281; refine (fromBehind_in Fence.wide _ trivial rfl _ _ _ _).mono ?_; rintro e w' ⟨rfl, rfl⟩)
  have hsz : ((((w.alloc (.cells #[.int .i64 a0, .int .i64 a1, .int .i64 a2, .int .i64 a3] 77)).alloc (.cells (verL ver0).toArray 130)).alloc (.cells #[.bool false] 4)).alloc (.cells #[.slice a L.length cap] 215)).heap.size = w.heap.size + 4 := by simp
  obtain ⟨W0, hW0⟩ : ∃ W0, (((w.alloc (.cells #[.int .i64 a0, .int .i64 a1, .int .i64 a2, .int .i64 a3] 77)).alloc (.cells #[.int .i64 0, .int .i64 0, .int .i64 0, .int .i64 0, .string ⟨#[]⟩, .bool false] 130)).alloc (.cells #[.bool false] 4)).alloc (.cells #[.slice a L.length cap] 215) = W0 := ⟨_, rfl⟩
  have RA0 : RowL W0 w.heap.size [.int .i64 a0, .int .i64 a1, .int .i64 a2, .int .i64 a3] := by
    rw [← hW0]
    exact (((RowL.new (w := w) (T := 77) [.int .i64 a0, .int .i64 a1, .int .i64 a2, .int .i64 a3] rfl).boxed _).boxed _).boxed _
  have RR0 : RowL W0 (w.heap.size + 1) (verL ver0) := by rw [← hW0]; exact RR
  have RF0 : RowL W0 (w.heap.size + 1 + 1) [.bool false] := by rw [← hW0]; exact RF
  have RL0 : RowL W0 (w.heap.size + 1 + 1 + 1) [.slice a L.length cap] := by rw [← hW0]; exact RL
  have hb0 : Below w.heap.size w W0 := by rw [← hW0]; exact hb
  have hsz0 : W0.heap.size = w.heap.size + 4 := by rw [← hW0]; exact hsz
  rw [hW0]
  clear RA RR RF RL hb hsz hW0
  have VB : VsBelow (w.heap.size + 4) W0 (.slice a L.length cap) (LS.map (·.1)) := by
    rw [hLS]
    exact ⟨a, cap, rfl, hV.len, hV.cap, hV.held.imp_right fun ⟨b, hb1, e, hcc⟩ => ⟨b, by omega, e, fun i r u hi hu => cell_later hb0 (hcc i r u hi hu)⟩⟩
  have HLS : Hid (LS.map (·.1) = L) := hLS
  have HLL : Hid (LS.length = L.length) := hLl
  clear hLS hLl hV
  refine wpIn_rangeFunc_ownH rfl (by decide) (gf := 288) (lb := #[.pointer (some ⟨w.heap.size + 1 + 1 + 1, 0, none⟩)]) rfl trivial (enters_of Tryz.func288 (by kernel_rfl) rfl)
    (behind_stops Fence.wide 5 trivial rfl (by decide) (w.heap.size + 1 + 1 + 1) (w.heap.size + 4) (.slice a L.length cap) LS (by have := HLL.out; omega) W0 (by omega) (by omega) (RL0.cell 0 _ rfl) VB) belowK_t (belowK_b (by omega)) (Below.refl _ _) (fun _ => rfl)
    (fun pre W => Below W0.heap.size W0 W ∧ ∀ x ∈ pre, hasV a0 a1 a2 a3 x.1 = false)
    (fun c pre W => (∃ x : SV, c = .ret ∧ (RowL W (w.heap.size + 1) (verL x.1) ∧ RowL W (w.heap.size + 1 + 1) [.bool true]) ∧ FirstIn a0 a1 a2 a3 pre x) ∧ Below w.heap.size w W)
    (OwnFrom.and (ownFrom_below (Nat.le_refl _) (Nat.le_refl _)) (ownFrom_pure _ _))
    (fun c => OwnFrom.and (Own.from (fun s A B row hs hg hr => by obtain ⟨x, e, ⟨h1, h2⟩, h3⟩ := hs; exact ⟨x, e, ⟨h1.abides hg hr (by simp [verL]), h2.abides hg hr (by simp)⟩, h3⟩) _) (ownFrom_below (Nat.le_refl _) (by omega)))
    ⟨Below.refl _ _, by simp⟩
    (fun x a' W => ∃ Bx, w.heap.size + 1 + 1 < Bx ∧ RowL W Bx (verL x.1) ∧ a' = { tmps := #[.slice a L.length cap, .agg #[.int .i64 a0, .int .i64 a1, .int .i64 a2, .int .i64 a3], undef, .pointer (some ⟨w.heap.size, 0, none⟩), .pointer (some ⟨w.heap.size + 1, 0, none⟩), .pointer (some ⟨w.heap.size + 1 + 1, 0, none⟩), .pointer (some ⟨Bx, 0, none⟩), .slice a L.length cap, .func (.func 288) #[] #[.pointer (some ⟨w.heap.size + 1 + 1 + 1, 0, none⟩)], .agg #[.int .i64 x.1.wall, .int .i64 x.1.count, .int .i64 x.1.site, .int .i64 x.1.seq, .string x.1.data, .bool x.1.gone], undef, undef, undef, undef, undef], defers := [] })
    (fun x a' _ X Y row hs hg hr => by obtain ⟨Bx, h1, h2, h3⟩ := hs; exact ⟨Bx, h1, h2.abides hg (fun r e => (hr r e).2) (by simp [verL]), h3⟩)
    ?assign ?body ?done ?stop
  case assign =>
    rintro l pre x W K ⟨B1, N1⟩ hK
    have s1 := B1.size
    gi_wp2
    exact hK _ _ ((KeepsOthers.alloc _ _).from _) ((Below.refl _ W).alloc (by omega) _) ⟨boxed B1 _, N1⟩ ⟨W.heap.size, by omega, RowL.new (w := W) (T := 130) (verL x.1) rfl, rfl⟩
  case body =>
    rintro l pre ⟨x, hx0, hx1⟩ a' W hl ⟨r, hr⟩ ⟨B1, N1⟩ ⟨Bx, hBx, RX, rfl⟩ hlt
    have NN : Hid (∀ x ∈ pre, hasV a0 a1 a2 a3 x.1 = false) := N1
    clear N1 VB
    simp only at RX hx0 hx1
    have RA1 := RA0.later B1
    have c0 := RA1.cell 0 _ rfl
    have c1 := RA1.cell 1 _ rfl
    have c2 := RA1.cell 2 _ rfl
    have c3 := RA1.cell 3 _ rfl
    have x0 := RX.cell 0 _ rfl
    have x1 := RX.cell 1 _ rfl
    have x2 := RX.cell 2 _ rfl
    have x3 := RX.cell 3 _ rfl
    have x4 := RX.cell 4 _ rfl
    have x5 := RX.cell 5 _ rfl
    have RR1 := RR0.later B1
    have RF1 := RF0.later B1
    cases hh : hasV a0 a1 a2 a3 x
    · have HH : Hid (hasV a0 a1 a2 a3 x = false) := hh
      clear hh
      gi_wp2_with (refine ⟨trivial, ?_⟩; gi_at_call 263; refine (CallsIn.inRound l (callsIn_wide.2 (has_is HH.out hx0 hx1 _))).mono ?_; rintro e w' ⟨rfl, hb7⟩)
      exact ⟨keepsFrom_below hb7, hb7.mono (by have := B1.size; omega), behind B1 hb7, fun y hy => by
        rcases List.mem_append.1 hy with h | h
        · exact NN.out y h
        · obtain rfl := List.mem_singleton.1 h
          exact HH.out⟩
    · have HH : Hid (hasV a0 a1 a2 a3 x = true) := hh
      clear hh
      gi_wp2_with (refine ⟨trivial, ?_⟩; gi_at_call 263; refine (CallsIn.inRound l (callsIn_wide.2 (has_is HH.out hx0 hx1 _))).mono ?_; rintro e w' ⟨rfl, hb7⟩; replace RX := RX.later hb7; replace RR1 := RR1.later hb7; replace RF1 := RF1.later hb7; have y0 := RX.cell 0 _ rfl; have y1 := RX.cell 1 _ rfl; have y2 := RX.cell 2 _ rfl; have y3 := RX.cell 3 _ rfl; have y4 := RX.cell 4 _ rfl; have y5 := RX.cell 5 _ rfl; have r0 := RR1.cell 0 _ rfl; have r1 := RR1.cell 1 _ rfl; have r2 := RR1.cell 2 _ rfl; have r3 := RR1.cell 3 _ rfl; have r4 := RR1.cell 4 _ rfl; have r5 := RR1.cell 5 _ rfl; have f0 := RF1.cell 0 _ rfl; have g0 := RR1.free 0 (by simp [verL]); have g1 := RR1.free 1 (by simp [verL]); have g2 := RR1.free 2 (by simp [verL]); have g3 := RR1.free 3 (by simp [verL]); have g4 := RR1.free 4 (by simp [verL]); have g5 := RR1.free 5 (by simp [verL]); have g6 := RF1.free 0 (by simp))
      have hB7 : Below w.heap.size w w' := behind (behind hb0 B1) (hb7.mono (Nat.le_refl _))
      refine ⟨(keepsFrom_below hb7).trans (((keeps_setVer w' (w.heap.size + 1) x).trans (KeepsOthers.setCell _ ⟨w.heap.size + 1 + 1, 0, none⟩ (.bool true))).from _), ⟨⟨x, hx0, hx1⟩, rfl, ⟨(RR1.verSet x).far ⟨w.heap.size + 1 + 1, 0, none⟩ (.bool true) (by simp), ?_⟩, ⟨pre, rfl, NN.out, HH.out⟩⟩, (below_setVer hB7 (b := w.heap.size + 1) (by omega) x).setCell (p := ⟨w.heap.size + 1 + 1, 0, none⟩) (by simp; omega) _⟩
      exact (RF1.verFar (c := w.heap.size + 1) (by omega) x).set 0 (.bool true) (by simp)
  case done =>
    rintro D ys W hD rfl ⟨B1, N1⟩ hK
    have RR1 := RR0.later B1
    have RF1 := RF0.later B1
    have r0 := RR1.cell 0 _ rfl
    have r1 := RR1.cell 1 _ rfl
    have r2 := RR1.cell 2 _ rfl
    have r3 := RR1.cell 3 _ rfl
    have r4 := RR1.cell 4 _ rfl
    have r5 := RR1.cell 5 _ rfl
    have f0 := RF1.cell 0 _ rfl
    have g0 := RR1.free 0 (by simp [verL])
    have g1 := RR1.free 1 (by simp [verL])
    have g2 := RR1.free 2 (by simp [verL])
    have g3 := RR1.free 3 (by simp [verL])
    have g4 := RR1.free 4 (by simp [verL])
    have g5 := RR1.free 5 (by simp [verL])
    have g6 := RF1.free 0 (by simp)
    have LN : Hid (lastB a0 a1 a2 a3 L = none) := by show _ = _; rw [← HLS.out]; exact find_none N1
    have BW : Below w.heap.size w W := behind hb0 B1
    clear N1 VB
    gi_wp2
    have hK' := ((keeps_setVer W (w.heap.size + 1) ver0).trans (KeepsOthers.setCell _ ⟨w.heap.size + 1 + 1, 0, none⟩ (.bool false))).same D _ hK rfl
    refine ⟨by simp, .inl ⟨_, _, rfl, run_takeDeferred hK', ?_⟩⟩
    have R2 := ((RR1.verSet ver0).far ⟨w.heap.size + 1 + 1, 0, none⟩ (.bool false) (by simp)).abides (grownBy_putObj' _ D (.deferred none)) (fun r e => by cases e; exact ⟨_, hK', rfl⟩) (by simp [verL])
    have R3 := ((RF1.verFar (c := w.heap.size + 1) (by omega) ver0).set 0 (.bool false) (by simp)).abides (grownBy_putObj' _ D (.deferred none)) (fun r e => by cases e; exact ⟨_, hK', rfl⟩) (by simp)
    rw [LN.out]
    exact ⟨_, pgLast_results (v := ver0) R2 (R3.cell 0 _ rfl) rfl rfl, rfl, ((below_setVer BW (b := w.heap.size + 1) (by omega) ver0).setCell (p := ⟨w.heap.size + 1 + 1, 0, none⟩) (by simp; omega) _).trans (belowK_b (w := w) (Nat.le_refl _) _ D _ _ (by omega) hK' rfl rfl)⟩
  case stop =>
    rintro D c pre W hD ⟨k, hk, rfl⟩ ⟨⟨x, rfl, ⟨R1, R2⟩, hf⟩, hB⟩ hK
    have LN : Hid (lastB a0 a1 a2 a3 L = some x.1) := by show _ = _; rw [← HLS.out]; exact hf.find
    clear hf VB
    gi_wp2
    refine ⟨by simp, .inl ⟨_, _, rfl, run_takeDeferred hK, ?_⟩⟩
    have R3 := R1.abides (grownBy_putObj' _ D (.deferred none)) (fun r e => by cases e; exact ⟨_, hK, rfl⟩) (by simp [verL])
    have R4 := R2.abides (grownBy_putObj' _ D (.deferred none)) (fun r e => by cases e; exact ⟨_, hK, rfl⟩) (by simp)
    rw [LN.out]
    exact ⟨_, pgLast_results (v := x.1) R3 (R4.cell 0 _ rfl) rfl rfl, rfl, hB.trans (belowK_b (w := w) (Nat.le_refl _) _ D _ _ (by omega) hK rfl rfl)⟩
end
section
theorem neVerB (a b : Ver) (w : World) : (binOp .neq 130 (.agg #[.int .i64 a.wall, .int .i64 a.count, .int .i64 a.site, .int .i64 a.seq, .string a.data, .bool a.gone]) (.agg #[.int .i64 b.wall, .int .i64 b.count, .int .i64 b.site, .int .i64 b.seq, .string b.data, .bool b.gone])).run Tryz.prog w = .ok (.bool (!eqV a b)) w := by
  have h := eqVerB a b w
  rw [run_eql_struct] at h
  rw [run_neq_struct]
  generalize (Op.equalIn 10000 130 _ _).run Tryz.prog w = r at *
  cases r with
  | ok b w1 =>
    simp only [Result.andThen] at h ⊢
    injection h with h1 h2
    injection h1 with h1
    rw [h1, h2]
  | halt x w1 => simp [Result.andThen] at h

/-- what is dropped: what the vector has, but for the one that stays -/
def delV (a0 a1 a2 a3 : Int) (st v : Ver) : Bool := hasV a0 a1 a2 a3 v && !eqV v st

set_option maxHeartbeats 2000000 in
theorem del_is {a0 a1 a2 a3 : Int} {st v : Ver} {r : Bool} {A S : Nat} (h : delV a0 a1 a2 a3 st v = r) (h0 : 0 ≤ v.site) (h1 : v.site ≤ 3) (w : World) (RA : RowL w A [.int .i64 a0, .int .i64 a1, .int .i64 a2, .int .i64 a3]) (RS : RowL w S (verL st)) :
    Calls Tryz.prog 262 #[.agg #[.int .i64 v.wall, .int .i64 v.count, .int .i64 v.site, .int .i64 v.seq, .string v.data, .bool v.gone], .pointer (some ⟨A, 0, none⟩), .pointer (some ⟨S, 0, none⟩)] w fun e w' => e = .returned (.bool r) ∧ Below w.heap.size w w' := by
  have hne := neVerB
  have RX := RowL.new (w := w) (T := 130) (verL v) rfl
  have hb := boxed (Below.refl _ w) (.cells (verL v).toArray 130)
  change RowL (w.alloc (.cells #[.int .i64 v.wall, .int .i64 v.count, .int .i64 v.site, .int .i64 v.seq, .string v.data, .bool v.gone] 130)) w.heap.size (verL v) at RX
  change Below w.heap.size w (w.alloc (.cells #[.int .i64 v.wall, .int .i64 v.count, .int .i64 v.site, .int .i64 v.seq, .string v.data, .bool v.gone] 130)) at hb
  have RA1 := RA.later hb
  have RS1 := RS.later hb
  have c0 := RA1.cell 0 _ rfl
  have c1 := RA1.cell 1 _ rfl
  have c2 := RA1.cell 2 _ rfl
  have c3 := RA1.cell 3 _ rfl
  have H : Hid (delV a0 a1 a2 a3 st v = r) := h
  clear h
  cases hh : hasV a0 a1 a2 a3 v
  · have HH : Hid (hasV a0 a1 a2 a3 v = false) := hh
    have HR : Hid (r = false) := by show r = false; rw [← H.out, delV, hh]; rfl
    clear hh
    go_enter Tryz.func262, Tryz.ntmps262
    go_wp2_with fail
    refine (has_is HH.out h0 h1 _).mono ?_
    rintro e w1 ⟨rfl, hb1⟩
    go_wp2_with fail
    go_ret
    exact ⟨by rw [HR.out]; rfl, behind hb hb1⟩
  · have HH : Hid (hasV a0 a1 a2 a3 v = true) := hh
    have HR : Hid (r = !eqV v st) := by show r = _; rw [← H.out, delV, hh]; rfl
    clear hh
    go_enter Tryz.func262, Tryz.ntmps262
    go_wp2_with fail
    refine (has_is HH.out h0 h1 _).mono ?_
    rintro e w1 ⟨rfl, hb1⟩
    have RX2 := RX.later hb1
    have RS2 := RS1.later hb1
    have x0 := RX2.cell 0 _ rfl
    have x1 := RX2.cell 1 _ rfl
    have x2 := RX2.cell 2 _ rfl
    have x3 := RX2.cell 3 _ rfl
    have x4 := RX2.cell 4 _ rfl
    have x5 := RX2.cell 5 _ rfl
    have y0 := RS2.cell 0 _ rfl
    have y1 := RS2.cell 1 _ rfl
    have y2 := RS2.cell 2 _ rfl
    have y3 := RS2.cell 3 _ rfl
    have y4 := RS2.cell 4 _ rfl
    have y5 := RS2.cell 5 _ rfl
    go_wp2_with fail
    go_ret
    exact ⟨by rw [HR.out]; rfl, behind hb hb1⟩

/-- which one is the first to be dropped -/
def IdxPost (a0 a1 a2 a3 : Int) (st : Ver) (L : List Ver) (r : Int) : Prop :=
  (r = -1 ∧ ∀ v ∈ L, delV a0 a1 a2 a3 st v = false) ∨ ∃ k : Nat, k < L.length ∧ r = k ∧ delV a0 a1 a2 a3 st (verAt L k) = true ∧ ∀ j, j < k → delV a0 a1 a2 a3 st (verAt L j) = false

set_option maxHeartbeats 4000000 in
theorem index_any {a : Option Addr} {cap : Nat} {L : List Ver} {a0 a1 a2 a3 : Int} {st : Ver} {A S : Nat} (w : World) (hV : VsIn w a cap L) (hok : ∀ v ∈ L, 0 ≤ v.site ∧ v.site ≤ 3) (hl : L.length ≤ 1000) (RA : RowL w A [.int .i64 a0, .int .i64 a1, .int .i64 a2, .int .i64 a3]) (RS : RowL w S (verL st)) :
    Calls Tryz.prog 282 #[.slice a L.length cap, .func (.func 262) #[] #[.pointer (some ⟨A, 0, none⟩), .pointer (some ⟨S, 0, none⟩)]] w fun e w' =>
      ∃ r : Int, e = .returned (.int .i64 r) ∧ IdxPost a0 a1 a2 a3 st L r ∧ Below w.heap.size w w' := by
  have HOK : Hid (∀ v ∈ L, 0 ≤ v.site ∧ v.site ≤ 3) := hok
  clear hok
  go_enter Tryz.func282, Tryz.ntmps282
  go_wp2_with fail
  go_loopw [8] (fun iv wr => ∃ (k : Nat) (z : Int), k ≤ L.length ∧ z = k ∧ iv = .int .i64 z ∧ Hid (∀ j, j < k → delV a0 a1 a2 a3 st (verAt L j) = false) ∧ Below w.heap.size w wr) (fun i _ => L.length - (intOf i).toNat)
  case atStart => exact ⟨0, 0, by omega, rfl, rfl, (fun j hj => by omega : ∀ j, j < 0 → delV a0 a1 a2 a3 st (verAt L j) = false), Below.refl _ _⟩
  case round =>
    obtain ⟨k, z, hk, hz, rfl, NT, hb⟩ := hrel
    have HZ : Hid (z = k) := hz
    by_cases hlt : k < L.length
    · have h1 : z < (L.length : Int) := by omega
      have h2 : z.toNat = k := by omega
      have h3 : 0 ≤ z := by omega
      clear hz
      have hV4 := hV.later hb
      obtain ⟨b, hbl, rfl, hcc⟩ : ∃ b, b < wr.heap.size ∧ a = some ⟨b, 0, none⟩ ∧ ∀ i r u, i < L.length → (verL (verAt L i))[r]? = some u → wr.cell? ⟨b, i * 6 + r, none⟩ = some u := by
        rcases hV4.held with h0 | h0
        · rw [h0] at hlt; simp at hlt
        · exact h0
      obtain ⟨y, hy⟩ : ∃ y, verAt L k = y := ⟨_, rfl⟩
      have hsy := HOK.out _ (verAt_mem hlt)
      rw [hy] at hsy
      have x0 : wr.cell? ⟨b, k * 6, none⟩ = some (.int .i64 y.wall) := hcc k 0 _ hlt (by rw [hy]; rfl)
      have x1 : wr.cell? ⟨b, k * 6 + 1, none⟩ = some (.int .i64 y.count) := hcc k 1 _ hlt (by rw [hy]; rfl)
      have x2 : wr.cell? ⟨b, k * 6 + 2, none⟩ = some (.int .i64 y.site) := hcc k 2 _ hlt (by rw [hy]; rfl)
      have x3 : wr.cell? ⟨b, k * 6 + 3, none⟩ = some (.int .i64 y.seq) := hcc k 3 _ hlt (by rw [hy]; rfl)
      have x4 : wr.cell? ⟨b, k * 6 + 4, none⟩ = some (.string y.data) := hcc k 4 _ hlt (by rw [hy]; rfl)
      have x5 : wr.cell? ⟨b, k * 6 + 5, none⟩ = some (.bool y.gone) := hcc k 5 _ hlt (by rw [hy]; rfl)
      have Y : Hid (verAt L k = y) := hy
      have HS : Hid (0 ≤ y.site ∧ y.site ≤ 3) := hsy
      have RA1 := RA.later hb
      have RS1 := RS.later hb
      clear hy hcc hV4 hsy
      cases hd : delV a0 a1 a2 a3 st y
      · have HD : Hid (delV a0 a1 a2 a3 st y = false) := hd
        clear hd
        go_wp2_with fail
        refine (del_is HD.out HS.out.1 HS.out.2 _ RA1 RS1).mono ?_
        rintro e w1 ⟨rfl, hb1⟩
        go_wp2_with fail
        go_roundw
        case rel => exact ⟨k + 1, z + 1, by omega, by have := HZ.out; omega, by go_num, (fun j hj => by
            rcases Nat.lt_or_ge j k with g | g
            · exact NT.out j g
            · obtain rfl : j = k := by omega
              rw [Y.out, HD.out] : ∀ j, j < k + 1 → delV a0 a1 a2 a3 st (verAt L j) = false), behind hb hb1⟩
        case measure => simp [intOf]; omega
      · have HD : Hid (delV a0 a1 a2 a3 st y = true) := hd
        clear hd
        go_wp2_with fail
        refine (del_is HD.out HS.out.1 HS.out.2 _ RA1 RS1).mono ?_
        rintro e w1 ⟨rfl, hb1⟩
        go_wp2_with fail
        go_ret
        exact ⟨z, rfl, .inr ⟨k, hlt, HZ.out, by rw [Y.out, HD.out], NT.out⟩, behind hb hb1⟩
    · have h4 : ¬ z < (L.length : Int) := by omega
      clear hz
      go_wp2_with fail
      go_ret
      refine ⟨-1, rfl, .inl ⟨rfl, fun v hv => ?_⟩, hb⟩
      obtain ⟨i, hi, rfl⟩ := List.mem_iff_getElem.1 hv
      have e := NT.out i (by omega)
      rwa [verAt_eq hi] at e
end
section
theorem run_clear_k {P : Program} (w : World) (t e ty : TypeId) (z : Value) (ht : P.underlying t = some (.slice e)) (hv : ∀ w, (zeroValue e).run P w = .ok z w) (b o n c : Nat) (hn : 0 < n)
    (h1 : ∀ u ∈ (Builtin.zeroCells z.cells n).toList, u.oneCell' = true) (hc : ∀ j, j < (Builtin.zeroCells z.cells n).size → (w.cell? ⟨b, o + j, none⟩).isSome = true) (hf : ∀ j, j < (Builtin.zeroCells z.cells n).size → w.frozen? ⟨b, o + j, none⟩ = false) :
    (Builtin.clear_ #[t] ty #[.slice (some ⟨b, o, none⟩) n c]).run P w = .ok (.tuple #[]) (w.setCells b o (Builtin.zeroCells z.cells n).toList) := by
  have hst := run_storeCells_cells (P := P) b o (Builtin.zeroCells z.cells n).toList 0 w (by simpa using hc) (by simpa using hf) h1
  simp only [Nat.add_zero] at hst
  obtain ⟨m, rfl⟩ : ∃ m, n = m + 1 := ⟨n - 1, by omega⟩
  simp [Builtin.clear_, run_underlying ht, hv, hst]

theorem zeroVer_one (n : Nat) : ∀ u ∈ (Builtin.zeroCells (Value.agg #[.int .i64 0, .int .i64 0, .int .i64 0, .int .i64 0, .string ⟨#[]⟩, .bool false]).cells n).toList, u.oneCell' = true := by
  intro u hu
  simp only [Builtin.zeroCells, Array.toList_map, List.mem_map] at hu
  obtain ⟨i, _, rfl⟩ := hu
  have h6 : (Value.agg #[.int .i64 0, .int .i64 0, .int .i64 0, .int .i64 0, .string ⟨#[]⟩, .bool false]).cells = #[.int .i64 0, .int .i64 0, .int .i64 0, .int .i64 0, .string ⟨#[]⟩, .bool false] := rfl
  rw [h6]
  have hi : i % 6 < 6 := Nat.mod_lt _ (by decide)
  have e : (#[Value.int .i64 0, .int .i64 0, .int .i64 0, .int .i64 0, .string ⟨#[]⟩, .bool false] : Array Value).size = 6 := rfl
  rw [e]
  generalize i % 6 = m at hi
  match m, hi with
  | 0, _ => rfl
  | 1, _ => rfl
  | 2, _ => rfl
  | 3, _ => rfl
  | 4, _ => rfl
  | 5, _ => rfl

theorem versL_set : ∀ (M : List Ver) (i : Nat) (v : Ver), versL (M.set i v) = ((((((versL M).set (i * 6) (.int .i64 v.wall)).set (i * 6 + 1) (.int .i64 v.count)).set (i * 6 + 2) (.int .i64 v.site)).set (i * 6 + 3) (.int .i64 v.seq)).set (i * 6 + 4) (.string v.data)).set (i * 6 + 5) (.bool v.gone)
  | [], i, v => by simp [versL]
  | x :: M, 0, v => by simp [versL, verL]
  | x :: M, i + 1, v => by
    have e : ∀ r, (i + 1) * 6 + r = (verL x).length + (i * 6 + r) := fun r => by rw [verL_length]; omega
    have e0 : (i + 1) * 6 = (verL x).length + i * 6 := by rw [verL_length]; omega
    rw [List.set_cons_succ, versL_cons, versL_cons, e 1, e 2, e 3, e 4, e 5, e0, versL_set M i v]
    simp only [List.set_append_right _ _ (Nat.le_add_right _ _), Nat.add_sub_cancel_left]

/-- a store of a whole version into a row -/
abbrev putVer (w : World) (g o : Nat) (x : Ver) : World := (((((w.setCell ⟨g, o, none⟩ (.int .i64 x.wall)).setCell ⟨g, o + 1, none⟩ (.int .i64 x.count)).setCell ⟨g, o + 2, none⟩ (.int .i64 x.site)).setCell ⟨g, o + 3, none⟩ (.int .i64 x.seq)).setCell ⟨g, o + 4, none⟩ (.string x.data)).setCell ⟨g, o + 5, none⟩ (.bool x.gone)
theorem own_putVer {w : World} {g n cap i : Nat} {T : TypeId} {M : List Ver} (h : w.ownsRow 0 T 6 (.slice (some ⟨g, 0, none⟩) n cap) n (versL M)) (v : Ver) : (putVer w g (i * 6) v).ownsRow 0 T 6 (.slice (some ⟨g, 0, none⟩) n cap) n (versL (M.set i v)) ∧ Only g w (putVer w g (i * 6) v) := by
  have s0 := h.stored (i * 6) (.int .i64 v.wall)
  have s1 := s0.1.stored (i * 6 + 1) (.int .i64 v.count)
  have s2 := s1.1.stored (i * 6 + 2) (.int .i64 v.site)
  have s3 := s2.1.stored (i * 6 + 3) (.int .i64 v.seq)
  have s4 := s3.1.stored (i * 6 + 4) (.string v.data)
  have s5 := s4.1.stored (i * 6 + 5) (.bool v.gone)
  refine ⟨by rw [versL_set]; exact s5.1, ?_⟩
  exact (((((show Only g _ _ from s0.2).trans s1.2 (.inl rfl)).trans s2.2 (.inl rfl)).trans s3.2 (.inl rfl)).trans s4.2 (.inl rfl)).trans s5.2 (.inl rfl)

/-- what DeleteFunc leaves -/
def DelPost (w : World) (sv : Value) (L' : List Ver) (v' : Value) (w' : World) : Prop :=
  w'.ownsRow 0 130 6 v' L'.length (versL L') ∧ w.grownBy w' sv.ownBlock ∧ v'.ownBlock = sv.ownBlock

/-- the row while it is gone through: the first i are what stays of the first k, those from k on are as they were -/
structure DelRow (w : World) (g n cap : Nat) (L : List Ver) (p : Ver → Bool) (i k : Nat) (M : List Ver) : Prop where
  own : w.ownsRow 0 130 6 (.slice (some ⟨g, 0, none⟩) n cap) n (versL M)
  len : M.length = n
  head : M.take i = (L.take k).filter p
  tail : M.drop k = L.drop k
  lt : i < k
theorem DelRow.at {w : World} {g n cap : Nat} {L M : List Ver} {p : Ver → Bool} {i k : Nat} (h : DelRow w g n cap L p i k M) : verAt M k = verAt L k := by
  have e := congrArg List.head? h.tail
  rw [List.head?_drop, List.head?_drop] at e
  simp only [verAt, List.getD, e]

theorem take_ver {L : List Ver} {k : Nat} (hk : k < L.length) : L.take (k + 1) = L.take k ++ [verAt L k] := by
  rw [List.take_succ_eq_append_getElem hk, verAt_eq hk]
theorem filter_all {L : List Ver} {p : Ver → Bool} {k : Nat} (hk : k ≤ L.length) (h : ∀ j, j < k → p (verAt L j) = true) : (L.take k).filter p = L.take k := by
  rw [List.filter_eq_self]
  intro v hv
  obtain ⟨i, hi, rfl⟩ := List.mem_iff_getElem.1 hv
  rw [List.length_take] at hi
  have := h i (by omega)
  rw [verAt_eq (by omega)] at this
  rw [List.getElem_take]
  exact this
theorem DelRow.later {w w' : World} {g n cap : Nat} {L M : List Ver} {p : Ver → Bool} {i k : Nat} (h : DelRow w g n cap L p i k M) (hb : Below w.heap.size w w') : DelRow w' g n cap L p i k M := ⟨own_below6 h.own hb, h.len, h.head, h.tail, h.lt⟩
theorem DelRow.skip {w : World} {g n cap : Nat} {L M : List Ver} {p : Ver → Bool} {i k : Nat} (h : DelRow w g n cap L p i k M) (hk : k < L.length) (hp : p (verAt L k) = false) : DelRow w g n cap L p i (k + 1) M := by
  refine ⟨h.own, h.len, ?_, ?_, Nat.lt_succ_of_lt h.lt⟩
  · rw [take_ver hk, List.filter_append, h.head]
    simp [hp]
  · rw [← List.drop_drop, h.tail, List.drop_drop]
theorem DelRow.keep {w : World} {g n cap : Nat} {L M : List Ver} {p : Ver → Bool} {i k : Nat} (h : DelRow w g n cap L p i k M) (hL : L.length = n) (hk : k < L.length) (hp : p (verAt L k) = true) : DelRow (putVer w g (i * 6) (verAt L k)) g n cap L p (i + 1) (k + 1) (M.set i (verAt L k)) := by
  have hi : i < M.length := by have := h.lt; have := h.len; omega
  refine ⟨(own_putVer h.own (verAt L k)).1, by rw [List.length_set]; exact h.len, ?_, ?_, Nat.succ_lt_succ h.lt⟩
  · rw [take_ver hk, List.filter_append, ← h.head, List.take_succ_eq_append_getElem (by simpa using hi), List.getElem_set_self, List.take_set_of_le (Nat.le_refl _)]
    simp [hp]
  · rw [List.drop_set_of_lt (by have := h.lt; omega), ← List.drop_drop, h.tail, List.drop_drop]

set_option maxRecDepth 100000 in
set_option maxHeartbeats 8000000 in
theorem delete_any {sv : Value} {L : List Ver} {a0 a1 a2 a3 : Int} {st : Ver} {A S : Nat} (w : World) (hown : w.ownsRow 0 130 6 sv L.length (versL L)) (hok : ∀ v ∈ L, 0 ≤ v.site ∧ v.site ≤ 3) (hl : L.length ≤ 1000) (RA : RowL w A [.int .i64 a0, .int .i64 a1, .int .i64 a2, .int .i64 a3]) (RS : RowL w S (verL st)) (hA : sv.ownBlock ≠ some A) (hS : sv.ownBlock ≠ some S) :
    Calls Tryz.prog 261 #[sv, .func (.func 262) #[] #[.pointer (some ⟨A, 0, none⟩), .pointer (some ⟨S, 0, none⟩)]] w fun e w' =>
      ∃ v', e = .returned v' ∧ DelPost w sv (L.filter fun v => !delV a0 a1 a2 a3 st v) v' w' := by
  obtain ⟨a, cap, rfl, hV⟩ := vsIn_own hown
  have hix := index_any w hV hok hl RA RS
  have HOK : Hid (∀ v ∈ L, 0 ≤ v.site ∧ v.site ≤ 3) := hok
  obtain ⟨P, hP⟩ : ∃ P : Ver → Bool, P = fun v => !delV a0 a1 a2 a3 st v := ⟨_, rfl⟩
  have HP : Hid (P = fun v => !delV a0 a1 a2 a3 st v) := hP
  rw [← hP]
  clear hok hP
  go_enter Tryz.func261, Tryz.ntmps261
  go_wp2_with fail
  refine hix.mono ?_
  rintro e w1 ⟨r, rfl, hI, hb1⟩
  rcases hI with ⟨rfl, hall⟩ | ⟨k, hk, rfl, hd, hnt⟩
  · have FE : Hid (L.filter P = L) := by
      show L.filter P = L
      rw [List.filter_eq_self, HP.out]
      intro v hv
      simp [hall v hv]
    have own1 := own_below6 hown hb1
    clear hall
    go_wp2_with fail
    go_ret
    rw [FE.out]
    exact ⟨_, rfl, own1, ⟨hb1.os, hb1.tape, hb1.output, hb1.size, fun k hk _ => hb1.block k hk⟩, rfl⟩
  · obtain ⟨g, hgl, rfl, hcc⟩ : ∃ b, b < w.heap.size ∧ a = some ⟨b, 0, none⟩ ∧ ∀ i r u, i < L.length → (verL (verAt L i))[r]? = some u → w.cell? ⟨b, i * 6 + r, none⟩ = some u := by
      rcases hV.held with h0 | h0
      · rw [h0] at hk; simp at hk
      · exact h0
    obtain ⟨n, hn⟩ : ∃ n, L.length = n := ⟨_, rfl⟩
    have hc1 := hV.len
    have hc2 := hV.cap
    have D0 : DelRow w1 g n cap L P k (k + 1) L := by
      rw [← hn]
      refine ⟨own_below6 hown hb1, rfl, ?_, rfl, Nat.lt_succ_self _⟩
      rw [take_ver hk, List.filter_append, filter_all (by omega) (fun j hj => by rw [HP.out]; simp [hnt j hj]), HP.out]
      simp [hd]
    have hgA : A ≠ g := fun e => hA (by rw [e]; rfl)
    have hgS : S ≠ g := fun e => hS (by rw [e]; rfl)
    have LN : Hid (L.length = n) := hn
    rw [hn] at hl hc1 hk ⊢
    have ne1 : ((k : Int) == -1) = false := beq_eq_false_iff_ne.2 (by omega)
    have RA1 := RA.later hb1
    have RS1 := RS.later hb1
    have O1 : Only g w w1 := Only.ofBelow hb1
    clear hcc hV hown hnt hd hn hix RA RS hb1 hA hS
    go_wp2_with fail
    go_loopw [5, 6] (fun s5 s6 wr => ∃ (i j : Nat) (zi zj : Int) (M : List Ver), j ≤ n ∧ zi = i ∧ zj = j ∧ s5 = .int .i64 zi ∧ s6 = .int .i64 zj ∧ Hid (DelRow wr g n cap L P i j M) ∧ RowL wr A [.int .i64 a0, .int .i64 a1, .int .i64 a2, .int .i64 a3] ∧ RowL wr S (verL st) ∧ Only g w wr) (fun _ j _ => n - (intOf j).toNat)
    case atStart => exact ⟨k, k + 1, k, (k : Int) + 1, L, by omega, rfl, by omega, rfl, by go_num, D0, RA1, RS1, O1⟩
    case round =>
      clear D0 RA1 RS1 O1
      obtain ⟨i, j, zi, zj, M, hj, hzi, hzj, rfl, rfl, DD, RA, RS, O⟩ := hrel
      have DR := DD.out
      have hij := DR.lt
      have hil : i < n := by omega
      have HZ : Hid (zi = i ∧ zj = j) := ⟨hzi, hzj⟩
      by_cases hlt : j < n
      · have h1 : zj < (n : Int) := by omega
        have h2 : zj.toNat = j := by omega
        have h3 : 0 ≤ zj := by omega
        have h4 : zi < (n : Int) := by omega
        have h5 : zi.toNat = i := by omega
        have h6 : 0 ≤ zi := by omega
        clear hzi hzj
        obtain ⟨y, hy⟩ : ∃ y, verAt L j = y := ⟨_, rfl⟩
        have hsy := HOK.out _ (verAt_mem (l := L) (i := j) (by rw [LN.out]; exact hlt))
        rw [hy] at hsy
        have hMy : verAt M j = y := DR.at.trans hy
        have q := fun r u (h : (verL (verAt M j))[r]? = some u) => (DR.own.cells (g := g) rfl _ u (versL_at M j r u (by rw [DR.len]; exact hlt) h))
        have q2 := fun r u (h : (verL y)[r]? = some u) => (by have := q r u (by rw [hMy]; exact h); rwa [addr_add] at this : wr.cell? ⟨g, j * 6 + r, none⟩ = some u)
        have x0 : wr.cell? ⟨g, j * 6, none⟩ = some (.int .i64 y.wall) := q2 0 _ rfl
        have x1 : wr.cell? ⟨g, j * 6 + 1, none⟩ = some (.int .i64 y.count) := q2 1 _ rfl
        have x2 : wr.cell? ⟨g, j * 6 + 2, none⟩ = some (.int .i64 y.site) := q2 2 _ rfl
        have x3 : wr.cell? ⟨g, j * 6 + 3, none⟩ = some (.int .i64 y.seq) := q2 3 _ rfl
        have x4 : wr.cell? ⟨g, j * 6 + 4, none⟩ = some (.string y.data) := q2 4 _ rfl
        have x5 : wr.cell? ⟨g, j * 6 + 5, none⟩ = some (.bool y.gone) := q2 5 _ rfl
        have Y : Hid (verAt L j = y) := hy
        have HS : Hid (0 ≤ y.site ∧ y.site ≤ 3) := hsy
        have hbx := boxed (Below.refl _ wr) (.cells #[.int .i64 y.wall, .int .i64 y.count, .int .i64 y.site, .int .i64 y.seq, .string y.data, .bool y.gone] 130)
        have RX := RowL.new (w := wr) (T := 130) (verL y) rfl
        change RowL (wr.alloc (.cells #[.int .i64 y.wall, .int .i64 y.count, .int .i64 y.site, .int .i64 y.seq, .string y.data, .bool y.gone] 130)) wr.heap.size (verL y) at RX
        have RA1 := RA.later hbx
        have RS1 := RS.later hbx
        have DR1 := DR.later hbx
        have O1 := O.trans (Only.ofBelow (g := g) hbx) (.inl rfl)
        have hgw : g < wr.heap.size := by have := O.size; omega
        clear hy hsy hMy q q2 DR DD RA RS O
        have D1 : Hid (DelRow (wr.alloc (.cells #[.int .i64 y.wall, .int .i64 y.count, .int .i64 y.site, .int .i64 y.seq, .string y.data, .bool y.gone] 130)) g n cap L P i j M) := DR1
        clear DR1
        cases hd : delV a0 a1 a2 a3 st y
        · have HD : Hid (delV a0 a1 a2 a3 st y = false) := hd
          clear hd
          go_wp2_with fail
          refine (del_is HD.out HS.out.1 HS.out.2 _ RA1 RS1).mono ?_
          rintro e w2 ⟨rfl, hb2⟩
          have D2 := D1.out.later hb2
          have RA2 := RA1.later hb2
          have RS2 := RS1.later hb2
          have RX2 := RX.later hb2
          have O2 := O1.trans (Only.ofBelow (g := g) hb2) (.inl rfl)
          obtain ⟨old, hold⟩ : ∃ old, verAt M i = old := ⟨_, rfl⟩
          have q := fun r u (h : (verL old)[r]? = some u) => (by
            have := (D2.own.cells (g := g) rfl _ u (versL_at M i r u (by rw [D2.len]; exact hil) (by rw [hold]; exact h)))
            rwa [addr_add] at this : w2.cell? ⟨g, i * 6 + r, none⟩ = some u)
          have z0 : w2.cell? ⟨g, i * 6, none⟩ = some (.int .i64 old.wall) := q 0 _ rfl
          have z1 : w2.cell? ⟨g, i * 6 + 1, none⟩ = some (.int .i64 old.count) := q 1 _ rfl
          have z2 : w2.cell? ⟨g, i * 6 + 2, none⟩ = some (.int .i64 old.site) := q 2 _ rfl
          have z3 : w2.cell? ⟨g, i * 6 + 3, none⟩ = some (.int .i64 old.seq) := q 3 _ rfl
          have z4 : w2.cell? ⟨g, i * 6 + 4, none⟩ = some (.string old.data) := q 4 _ rfl
          have z5 : w2.cell? ⟨g, i * 6 + 5, none⟩ = some (.bool old.gone) := q 5 _ rfl
          have fz := fun t => D2.own.frozenAt t
          have y0 := RX2.cell 0 _ rfl
          have y1 := RX2.cell 1 _ rfl
          have y2 := RX2.cell 2 _ rfl
          have y3 := RX2.cell 3 _ rfl
          have y4 := RX2.cell 4 _ rfl
          have y5 := RX2.cell 5 _ rfl
          have DK := D2.keep LN.out (by rw [LN.out]; exact hlt) (by rw [Y.out, HP.out]; simp [HD.out])
          rw [Y.out] at DK
          have O3 := O2.trans (own_putVer (i := i) D2.own y).2 (.inl rfl)
          have RA3 : RowL (putVer w2 g (i * 6) y) A [.int .i64 a0, .int .i64 a1, .int .i64 a2, .int .i64 a3] := RA2.only (own_putVer (i := i) D2.own y).2 hgA
          have RS3 : RowL (putVer w2 g (i * 6) y) S (verL st) := RS2.only (own_putVer (i := i) D2.own y).2 hgS
          have DK' : Hid (DelRow (putVer w2 g (i * 6) y) g n cap L P (i + 1) (j + 1) (M.set i y)) := DK
          clear q hold D2 RA2 RS2 O2 DK RX2 hb2
          go_wp2_with fail
          go_roundw
          case rel => exact ⟨i + 1, j + 1, zi + 1, zj + 1, M.set i y, by omega, by have := HZ.out; omega, by have := HZ.out; omega, by go_num, by go_num, DK', RA3, RS3, O3⟩
          case measure => simp [intOf]; omega
        · have HD : Hid (delV a0 a1 a2 a3 st y = true) := hd
          clear hd
          go_wp2_with fail
          refine (del_is HD.out HS.out.1 HS.out.2 _ RA1 RS1).mono ?_
          rintro e w2 ⟨rfl, hb2⟩
          have D2 : Hid (DelRow w2 g n cap L P i (j + 1) M) := (D1.out.later hb2).skip (by rw [LN.out]; exact hlt) (by rw [Y.out, HP.out]; simp [HD.out])
          have RA2 := RA1.later hb2
          have RS2 := RS1.later hb2
          have O2 := O1.trans (Only.ofBelow (g := g) hb2) (.inl rfl)
          clear hb2
          go_wp2_with fail
          go_roundw
          case rel => exact ⟨i, j + 1, zi, zj + 1, M, by omega, by have := HZ.out; omega, by have := HZ.out; omega, rfl, by go_num, D2, RA2, RS2, O2⟩
          case measure => simp [intOf]; omega
      · have hjn : j = n := by omega
        have h1 : ¬ zj < (n : Int) := by omega
        have h5 : zi.toNat = i := by omega
        have h6 : 0 ≤ zi := by omega
        have h7 : zi ≤ (n : Int) := by omega
        have h8 : ¬ (cap = i) := by omega
        obtain ⟨g1, cap1, cur, h', hB, hg, hnc, hcm, hcs, htake⟩ := DR.own.2.resolve_left (fun h => by simp at h)
        simp only [Value.slice.injEq, Option.some.injEq, Addr.mk.injEq, and_true, true_and] at h'
        obtain ⟨rfl, rfl⟩ := h'
        have hz6 : (Value.agg #[.int .i64 0, .int .i64 0, .int .i64 0, .int .i64 0, .string ⟨#[]⟩, .bool false]).cells.size = 6 := rfl
        obtain ⟨ZS, hZS⟩ : ∃ ZS, ZS = Builtin.zeroCells (Value.agg #[.int .i64 0, .int .i64 0, .int .i64 0, .int .i64 0, .string ⟨#[]⟩, .bool false]).cells (n - i) := ⟨_, rfl⟩
        have hZl : ZS.size = (n - i) * 6 := by rw [hZS, size_zeroCells, hz6]
        have hcl : ∀ ty, (Builtin.clear_ #[215] ty #[.slice (some ⟨g, i * 6, none⟩) (n - i) (cap - i)]).run Tryz.prog wr = .ok (.tuple #[]) (wr.setCells g (i * 6) ZS.toList) := fun ty => by
          rw [hZS]
          refine run_clear_k wr _ 130 ty _ Tryz.underlying215 Tryz.zeroValue130 g (i * 6) (n - i) (cap - i) (by omega) (zeroVer_one _) (fun t ht => ?_) (fun t ht => frozen_of_row wr g _ cur _ hg)
          rw [size_zeroCells, hz6] at ht
          rw [cell_of_row wr g _ cur _ (0, 0) hg, Array.getElem?_eq_getElem (by omega)]
          rfl
        obtain ⟨W2, hW2⟩ : ∃ W2, W2 = wr.setCells g (i * 6) ZS.toList := ⟨_, rfl⟩
        have hLF : L.filter P = M.take i := by
          rw [DR.head, List.take_of_length_le (by rw [LN.out]; omega)]
        have hLl : (M.take i).length = i := by rw [List.length_take, DR.len]; omega
        have OUT : Hid (DelPost w (.slice (some ⟨g, 0, none⟩) n cap) (L.filter P) (.slice (some ⟨g, 0, none⟩) i cap) W2) := by
          obtain ⟨c1, q1, q2⟩ := heap_setCells g ZS.toList (i * 6) wr hg
          rw [← hW2] at q1
          have OK := own_of_cells (w := W2) (B := 0) (n := i) (cap := cap) (k := 6) (xs := versL (M.take i)) (Nat.zero_le _) q1 hcm (by omega) (by omega) (by rw [versL_length, hLl]) (fun t u hu => by
            have ht : t < i * 6 := by have := (List.getElem?_eq_some_iff.1 hu).1; rwa [versL_length, hLl] at this
            rw [hW2, World.cell?_setCells_out g _ _ _ _ (fun _ _ => .inl ht)]
            have := DR.own.cells (g := g) rfl t u (by rw [← versL_take, List.getElem?_take, if_pos ht] at hu; exact hu)
            rwa [addr_add] at this)
          rw [hLF]
          refine ⟨by rw [hLl]; exact OK, ?_, rfl⟩
          have o2 : Only g wr W2 := by rw [hW2]; exact only_setCells _ _ _ _
          exact O.trans o2 (.inl rfl)
        rw [← hW2] at hcl
        clear hW2 hZS hZl hz6 hLF hLl hB hg hnc hcm hcs htake DR DD O RA RS hzi hzj
        go_wp2_with fail
        go_ret
        exact ⟨_, rfl, OUT.out⟩
end
/-- a key's versions -/
def keyL (l : List Hd) (k : Nat) : List Ver := (l.filter fun h => decide (h.key = (k : Int))).map (·.v)
theorem mem_keyL {l : List Hd} {k : Nat} {v : Ver} : v ∈ keyL l k ↔ (⟨k, v⟩ : Hd) ∈ l := by
  unfold keyL
  rw [List.mem_map]
  constructor
  · rintro ⟨⟨key, u⟩, h, rfl⟩
    have := List.mem_filter.1 h
    have e : key = (k : Int) := of_decide_eq_true this.2
    subst e
    exact this.1
  · intro h
    exact ⟨⟨k, v⟩, List.mem_filter.2 ⟨h, by simp⟩, rfl⟩
theorem keyL_append (a b : List Hd) (k : Nat) : keyL (a ++ b) k = keyL a k ++ keyL b k := by simp [keyL]
theorem keyL_self (k : Nat) (v : Ver) : keyL [⟨k, v⟩] k = [v] := by simp [keyL]
theorem keyL_other {key : Int} {k : Nat} (v : Ver) (h : key ≠ (k : Int)) : keyL [⟨key, v⟩] k = [] := by simp [keyL, h]

theorem keyL_length : ∀ (l : List Hd), (∀ h ∈ l, inB h.key 0 7 = true) → (keyL l 0).length + (keyL l 1).length + (keyL l 2).length + (keyL l 3).length + (keyL l 4).length + (keyL l 5).length + (keyL l 6).length + (keyL l 7).length = l.length
  | [], _ => rfl
  | ⟨key, v⟩ :: l, h => by
    have ih := keyL_length l (fun x hx => h x (List.mem_cons_of_mem _ hx))
    have hk := inB_iff.1 (h ⟨key, v⟩ (List.mem_cons_self ..))
    simp only at hk
    have e : ∀ k, keyL (⟨key, v⟩ :: l) k = keyL [⟨key, v⟩] k ++ keyL l k := fun k => keyL_append [⟨key, v⟩] l k
    have s : ∀ k : Nat, (keyL [⟨key, v⟩] k).length = if key = (k : Int) then 1 else 0 := fun k => by
      by_cases hq : key = (k : Int)
      · rw [if_pos hq, hq, keyL_self]; rfl
      · rw [if_neg hq, keyL_other v hq]; rfl
    simp only [e, List.length_append, s, List.length_cons]
    have : key = 0 ∨ key = 1 ∨ key = 2 ∨ key = 3 ∨ key = 4 ∨ key = 5 ∨ key = 6 ∨ key = 7 := by omega
    rcases this with rfl | rfl | rfl | rfl | rfl | rfl | rfl | rfl <;> simp <;> omega

theorem beforeV_asymm {a b : Ver} (h : beforeV a b = true) : beforeV b a = false := by
  cases hq : beforeV b a
  · rfl
  · rw [beforeV_iff] at h hq
    omega

theorem found_iff {L : List Ver} {t : Ver} {p : Nat} (hs : Sorted L) (hp : BsAt L t p) : foundB L t p = true ↔ ∃ y ∈ L, Twin y t := by
  unfold foundB
  rw [Bool.and_eq_true, decide_eq_true_eq, decide_eq_true_eq, ordV_zero]
  constructor
  · rintro ⟨h1, h2⟩
    exact ⟨_, verAt_mem h1, h2⟩
  · rintro ⟨y, hy, ht⟩
    obtain ⟨j, hj, rfl⟩ := List.mem_iff_getElem.1 hy
    rw [← verAt_eq hj] at ht
    have nb : ¬ beforeV (verAt L j) t = true := by
      rw [beforeV_iff]
      obtain ⟨e1, e2, e3⟩ := ht
      omega
    have hpj : p ≤ j := by
      rcases Nat.lt_or_ge j p with h | h
      · exact absurd (hp.2.1 j h) nb
      · exact h
    rcases Nat.lt_or_ge p j with h | h
    · have h1 := hs.at h hj
      have h2 := hp.2.2 p (Nat.le_refl _) (by omega)
      have : beforeV (verAt L p) t = true := by
        rw [beforeV_iff] at h1 ⊢
        obtain ⟨e1, e2, e3⟩ := ht
        omega
      rw [h2] at this
      cases this
    · obtain rfl : p = j := by omega
      exact ⟨hj, ht⟩

theorem sorted_ins {L : List Ver} {t : Ver} {p : Nat} (hs : Sorted L) (hp : BsAt L t p) (hf : foundB L t p = false) : Sorted (insL L p t) := by
  have nt : ∀ y ∈ L, ¬ Twin y t := fun y hy ht => by
    have := (found_iff hs hp).2 ⟨y, hy, ht⟩
    rw [hf] at this
    cases this
  have ha : ∀ y ∈ L.take p, beforeV y t = true := fun y hy => by
    obtain ⟨i, hi, rfl⟩ := List.mem_iff_getElem.1 hy
    rw [List.length_take] at hi
    rw [List.getElem_take, ← verAt_eq (by omega)]
    exact hp.2.1 i (by omega)
  have hd : ∀ y ∈ L.drop p, beforeV t y = true := fun y hy => by
    have hyL := List.mem_of_mem_drop hy
    obtain ⟨i, hi, rfl⟩ := List.mem_iff_getElem.1 hy
    rw [List.length_drop] at hi
    rw [List.getElem_drop] at hyL ⊢
    have hn := hp.2.2 (p + i) (by omega) (by omega)
    rw [verAt_eq (by omega)] at hn
    cases hq : beforeV t L[p + i]
    · exact absurd (beforeV_twin hn hq) (nt _ hyL)
    · rfl
  unfold Sorted insL at *
  rw [List.append_assoc, List.pairwise_append, List.pairwise_append]
  refine ⟨hs.sublist (List.take_sublist _ _), ⟨List.pairwise_singleton _ _, hs.sublist (List.drop_sublist _ _), fun a ha' b hb => ?_⟩, fun a ha' b hb => ?_⟩
  · rw [List.mem_singleton.1 ha']
    exact hd b hb
  · rcases List.mem_append.1 hb with h | h
    · rw [List.mem_singleton.1 h]
      exact ha a ha'
    · have h1 := ha a ha'
      have h2 := hd b h
      rw [beforeV_iff] at h1 h2 ⊢
      omega
theorem perm_ins (L : List Ver) (p : Nat) (t : Ver) : (L ++ [t]).Perm (insL L p t) := by
  unfold insL
  have e : L = L.take p ++ L.drop p := (List.take_append_drop p L).symm
  have : (L ++ [t]).Perm (L.take p ++ L.drop p ++ [t]) := by rw [← e]
  refine this.trans ?_
  rw [List.append_assoc, List.append_assoc]
  exact List.Perm.append_left _ List.perm_append_comm

theorem lastB_is {l : List Hd} {L : List Ver} {k : Nat} {a0 a1 a2 a3 : Int} (ha : Apart l) (hs : Sorted L) (hm : ∀ v, v ∈ L ↔ (⟨k, v⟩ : Hd) ∈ l) : lastV k a0 a1 a2 a3 l = lastB a0 a1 a2 a3 L := by
  cases hb : lastB a0 a1 a2 a3 L with
  | none =>
    unfold lastB at hb
    rw [List.find?_eq_none] at hb
    cases hl : lastV k a0 a1 a2 a3 l with
    | none => rfl
    | some v =>
      obtain ⟨⟨h, hh, e, ek, hhas⟩, _⟩ := lastV_some hl
      obtain ⟨key, u⟩ := h
      simp only at e ek
      subst e ek
      exact absurd hhas (hb u (List.mem_reverse.2 ((hm u).2 hh)))
  | some v =>
    unfold lastB at hb
    obtain ⟨hhas, xs, ys, e, hxs⟩ := List.find?_eq_some_iff_append.1 hb
    have eL : L = ys.reverse ++ v :: xs.reverse := by
      have := congrArg List.reverse e
      rw [List.reverse_reverse] at this
      rw [this]
      simp
    rw [lastV_iff ha]
    have hvL : v ∈ L := by rw [eL]; simp
    refine ⟨⟨⟨k, v⟩, (hm v).1 hvL, rfl, rfl, hhas⟩, ?_⟩
    rintro ⟨key, u⟩ hu hk hhu
    simp only at hk hhu
    subst hk
    have huL := (hm u).2 hu
    rw [eL] at huL
    unfold Sorted at hs
    rw [eL, List.pairwise_append] at hs
    rcases List.mem_append.1 huL with h | h
    · exact beforeV_asymm (hs.2.2 u h v (by simp))
    · rcases List.mem_cons.1 h with h | h
      · rw [h]
        exact beforeV_irrefl v
      · have := hxs u (List.mem_reverse.1 h)
        rw [hhu] at this
        cases this

theorem eqV_comm (a b : Ver) : eqV a b = eqV b a := by
  unfold eqV
  rw [Bool.eq_iff_iff]
  simp only [Bool.and_eq_true, beq_iff_eq]
  constructor <;> (rintro ⟨⟨⟨⟨⟨h1, h2⟩, h3⟩, h4⟩, h5⟩, h6⟩; exact ⟨⟨⟨⟨⟨h1.symm, h2.symm⟩, h3.symm⟩, h4.symm⟩, h5.symm⟩, h6.symm⟩)

theorem sweep_key {l : List Hd} {L : List Ver} {k : Nat} {a0 a1 a2 a3 : Int} (hp : (keyL l k).Perm L) (hl : lastV k a0 a1 a2 a3 l = lastB a0 a1 a2 a3 L) :
    (keyL (sweepL a0 a1 a2 a3 l) k).Perm (L.filter fun v => !delV a0 a1 a2 a3 ((lastB a0 a1 a2 a3 L).getD ver0) v) := by
  have e : keyL (sweepL a0 a1 a2 a3 l) k = (keyL l k).filter fun v => !delV a0 a1 a2 a3 ((lastB a0 a1 a2 a3 L).getD ver0) v := by
    unfold keyL sweepL
    rw [List.filter_map, List.filter_filter, List.filter_filter]
    congr 1
    apply List.filter_congr
    rintro ⟨key, v⟩ hv
    by_cases hk : key = (k : Int)
    · subst hk
      simp only [decide_true, Bool.true_and, Bool.and_true, Function.comp]
      unfold keepV delV
      rw [hl]
      simp only
      cases hb : lastB a0 a1 a2 a3 L with
      | none =>
        rw [hb] at hl
        have := lastV_none hl ⟨k, v⟩ hv rfl
        simp only at this
        simp [someB, this]
      | some u =>
        simp only [someB, Option.getD_some, Bool.not_true, Bool.false_or]
        rw [eqV_comm u v]
        cases hasV a0 a1 a2 a3 v <;> cases eqV v u <;> rfl
    · simp [hk]
  rw [e]
  exact hp.filter _
theorem sorted_filter {L : List Ver} (h : Sorted L) (p : Ver → Bool) : Sorted (L.filter p) := List.Pairwise.filter p h
/-- one of them is another -/
def upd {α : Type} (f : Nat → α) (k : Nat) (x : α) : Nat → α := fun i => if i = k then x else f i
theorem upd_same {α : Type} (f : Nat → α) (k : Nat) (x : α) : upd f k x k = x := if_pos rfl
theorem upd_other {α : Type} (f : Nat → α) {k i : Nat} (x : α) (h : i ≠ k) : upd f k x i = f i := if_neg h

def footP (b : Nat) (vs : Nat → Value) (k : Nat) : Prop := k = b ∨ ∃ i, i < 8 ∧ (vs i).ownBlock = some k

theorem eight {k : Nat} (h : k < 8) : k = 0 ∨ k = 1 ∨ k = 2 ∨ k = 3 ∨ k = 4 ∨ k = 5 ∨ k = 6 ∨ k = 7 := by omega
theorem own_kept {w w' : World} {B n : Nat} {T : TypeId} {v : Value} {xs : List Value} (h : w.ownsRow B T 6 v n xs) (hk : ∀ k, v.ownBlock = some k → w'.heap[k]? = w.heap[k]?) : w'.ownsRow B T 6 v n xs := by
  refine ⟨h.1, ?_⟩
  rcases h.2 with hn | ⟨g, cap, cur, rfl, hb, hg, rest⟩
  · exact .inl hn
  · exact .inr ⟨g, cap, cur, rfl, hb, by rw [hk g rfl]; exact hg, rest⟩
theorem set8 (vs : Nat → Value) {k : Nat} (hk : k < 8) (x : Value) : [vs 0, vs 1, vs 2, vs 3, vs 4, vs 5, vs 6, vs 7].set k x = [upd vs k x 0, upd vs k x 1, upd vs k x 2, upd vs k x 3, upd vs k x 4, upd vs k x 5, upd vs k x 6, upd vs k x 7] := by
  rcases eight hk with rfl | rfl | rfl | rfl | rfl | rfl | rfl | rfl <;> rfl

/-- .. and which versions of which keys it holds -/
structure PgHolds (Ls : Nat → List Ver) (l : List Hd) : Prop where
  perm : ∀ k, k < 8 → (keyL l k).Perm (Ls k)
  keys : ∀ h ∈ l, inB h.key 0 7 = true
theorem PgHolds.mem {Ls : Nat → List Ver} {l : List Hd} (h : PgHolds Ls l) {k : Nat} (hk : k < 8) (v : Ver) : v ∈ Ls k ↔ (⟨k, v⟩ : Hd) ∈ l := by rw [← mem_keyL, (h.perm k hk).mem_iff]
theorem PgHolds.len {Ls : Nat → List Ver} {l : List Hd} (h : PgHolds Ls l) {k : Nat} (hk : k < 8) : (Ls k).length ≤ l.length := by
  rw [← (h.perm k hk).length_eq]
  unfold keyL
  rw [List.length_map]
  exact List.length_filter_le _ _
theorem PgHolds.sites {Ls : Nat → List Ver} {l : List Hd} (h : PgHolds Ls l) (ho : ∀ x ∈ l, okVer x.v = true) {k : Nat} (hk : k < 8) : ∀ v ∈ Ls k, 0 ≤ v.site ∧ v.site ≤ 3 := fun v hv => okVer_site (ho _ ((h.mem hk v).1 hv))
theorem PgHolds.count {Ls : Nat → List Ver} {l : List Hd} (h : PgHolds Ls l) : (Ls 0).length + (Ls 1).length + (Ls 2).length + (Ls 3).length + (Ls 4).length + (Ls 5).length + (Ls 6).length + (Ls 7).length = l.length := by
  have := keyL_length l h.keys
  rw [(h.perm 0 (by omega)).length_eq, (h.perm 1 (by omega)).length_eq, (h.perm 2 (by omega)).length_eq, (h.perm 3 (by omega)).length_eq, (h.perm 4 (by omega)).length_eq, (h.perm 5 (by omega)).length_eq, (h.perm 6 (by omega)).length_eq, (h.perm 7 (by omega)).length_eq] at this
  exact this
theorem PgHolds.put {Ls : Nat → List Ver} {l : List Hd} (h : PgHolds Ls l) {k : Nat} (hk : k < 8) (v : Ver) (p : Nat) : PgHolds (upd Ls k (insL (Ls k) p v)) (l ++ [⟨k, v⟩]) := by
  refine ⟨fun i hi => ?_, fun x hx => ?_⟩
  · rw [keyL_append]
    by_cases e : i = k
    · subst e
      rw [upd_same, keyL_self]
      exact ((h.perm i hi).append_right [v]).trans (perm_ins _ _ _)
    · rw [upd_other _ _ e, keyL_other v (by omega), List.append_nil]
      exact h.perm i hi
  · rcases List.mem_append.1 hx with h1 | h1
    · exact h.keys x h1
    · rw [List.mem_singleton.1 h1]
      exact inB_iff.2 (by simp only; omega)
theorem twin_any {Ls : Nat → List Ver} {l : List Hd} (h : PgHolds Ls l) {k : Nat} (hk : k < 8) (v : Ver) : l.any (twinB k v) = true ↔ ∃ y ∈ Ls k, Twin y v := by
  rw [List.any_eq_true]
  constructor
  · rintro ⟨⟨key, u⟩, hx, ht⟩
    simp only [twinB, Bool.and_eq_true, decide_eq_true_eq] at ht
    obtain ⟨⟨rfl, e1, e2⟩, e3⟩ := ht
    exact ⟨u, (h.mem hk u).2 hx, e1, e2, e3⟩
  · rintro ⟨y, hy, e1, e2, e3⟩
    exact ⟨⟨k, y⟩, (h.mem hk y).1 hy, by simp [twinB, e1, e2, e3]⟩

theorem bsAt_one {L : List Ver} {t : Ver} {p q : Nat} (hp : BsAt L t p) (hq : BsAt L t q) : p = q := by
  rcases Nat.lt_trichotomy p q with h | h | h
  · have a := hp.2.2 p (Nat.le_refl _) (by have := hq.1; omega)
    have b := hq.2.1 p h
    rw [a] at b
    cases b
  · exact h
  · have a := hq.2.2 q (Nat.le_refl _) (by have := hp.1; omega)
    have b := hp.2.1 q h
    rw [a] at b
    cases b
theorem bsAt_some : ∀ {L : List Ver} (t : Ver), Sorted L → ∃ p, BsAt L t p
  | [], _, _ => ⟨0, Nat.le_refl _, fun j hj => by omega, fun j _ hj => by simp at hj⟩
  | x :: L, t, hs => by
    unfold Sorted at hs
    rw [List.pairwise_cons] at hs
    cases hx : beforeV x t
    · refine ⟨0, Nat.zero_le _, fun j hj => by omega, fun j _ hj => ?_⟩
      cases j with
      | zero => exact hx
      | succ j =>
        have hj' : j < L.length := by simpa using hj
        have e : verAt (x :: L) (j + 1) = verAt L j := rfl
        rw [e]
        cases hq : beforeV (verAt L j) t
        · rfl
        · have h1 := hs.1 _ (verAt_mem hj')
          have : beforeV x t = true := by
            rw [beforeV_iff] at h1 hq ⊢
            omega
          rw [hx] at this
          cases this
    · obtain ⟨p, h1, h2, h3⟩ := bsAt_some t (show Sorted L from hs.2)
      refine ⟨p + 1, by simpa using h1, fun j hj => ?_, fun j hj hl => ?_⟩
      · cases j with
        | zero => exact hx
        | succ j => exact h2 j (by omega)
      · cases j with
        | zero => omega
        | succ j => exact h3 j (by omega) (by simpa using hl)
theorem search_is {a : Option Addr} {cap : Nat} {L : List Ver} {t : Ver} {p : Nat} (hp : BsAt L t p) (w : World) (hV : VsIn w a cap L) (hs : Sorted L) (hl : L.length ≤ 1000) :
    Calls Tryz.prog 284 #[.slice a L.length cap, .agg #[.int .i64 t.wall, .int .i64 t.count, .int .i64 t.site, .int .i64 t.seq, .string t.data, .bool t.gone], .func (.func 285) #[] #[]] w fun e w' =>
      e = .returned (.tuple #[.int .i64 p, .bool (foundB L t p)]) ∧ Below w.heap.size w w' :=
  (search_any t w hV hs hl).mono fun e w' ⟨q, he, hq, hb⟩ => by
    obtain rfl := bsAt_one hp hq
    exact ⟨he, hb⟩
/-- cells of a block from an offset on, that may be written -/
structure RowO (w : World) (b o : Nat) (vs : List Value) : Prop where
  cell : ∀ j v, vs[j]? = some v → w.cell? ⟨b, o + j, none⟩ = some v
  free : ∀ j, j < vs.length → w.frozen? ⟨b, o + j, none⟩ = false
  lt : b < w.heap.size
theorem RowO.kept {w w' : World} {b o : Nat} {vs : List Value} (h : RowO w b o vs) (e : w'.heap[b]? = w.heap[b]?) (hs : w.heap.size ≤ w'.heap.size) : RowO w' b o vs :=
  ⟨fun j v hv => by rw [World.cell?_of_block (w := w) e]; exact h.cell j v hv, fun j hj => by rw [World.frozen?_of_block (w := w) e]; exact h.free j hj, Nat.lt_of_lt_of_le h.lt hs⟩
theorem RowO.grown {w w' : World} {r : Option Nat} {b o : Nat} {vs : List Value} (h : RowO w b o vs) (hO : w.grownBy w' r) (hne : some b ≠ r) : RowO w' b o vs := h.kept (hO.block b h.lt hne) hO.size
theorem RowO.boxed {w : World} {b o : Nat} {vs : List Value} (h : RowO w b o vs) (x : Obj) : RowO (w.alloc x) b o vs := h.kept (Below.heap_alloc _ _ _ h.lt) (by simp)
theorem RowO.drew {w : World} {b o : Nat} {vs : List Value} (h : RowO w b o vs) : RowO w.drew b o vs := h.kept rfl (Nat.le_refl _)
theorem RowO.set {w : World} {b o : Nat} {vs : List Value} (h : RowO w b o vs) (k : Nat) (u : Value) (hk : k < vs.length) : RowO (w.setCell ⟨b, o + k, none⟩ u) b o (vs.set k u) := by
  refine ⟨fun j v hv => ?_, fun j hj => by rw [World.frozen?_setCell]; exact h.free j (by simpa using hj), by simpa [World.setCell] using h.lt⟩
  by_cases hj : k = j
  · subst hj
    rw [List.getElem?_set_self hk] at hv
    injection hv with hv
    subst hv
    exact World.cell?_setCell_same _ _ _ (h.cell k vs[k] (List.getElem?_eq_getElem hk))
  · rw [List.getElem?_set_ne hj] at hv
    rw [World.cell?_setCell_other _ _ _ _ (by intro e; injection e with _ e _; omega)]
    exact h.cell j v hv
/-- the other cells of the block are as they were -/
def RestO (b so : Nat) (w w' : World) : Prop := ∀ j, (j < so ∨ so + 8 ≤ j) → w'.cell? ⟨b, j, none⟩ = w.cell? ⟨b, j, none⟩ ∧ w'.frozen? ⟨b, j, none⟩ = w.frozen? ⟨b, j, none⟩
theorem RestO.ofBlock {b so : Nat} {w w' : World} (e : w'.heap[b]? = w.heap[b]?) : RestO b so w w' := fun _ _ => ⟨World.cell?_of_block (w := w) e, World.frozen?_of_block (w := w) e⟩
theorem RestO.trans {b so : Nat} {x y z : World} (h : RestO b so x y) (k : RestO b so y z) : RestO b so x z := fun j hj => ⟨(k j hj).1.trans (h j hj).1, (k j hj).2.trans (h j hj).2⟩
theorem RestO.set (b so k : Nat) (hk : k < 8) (w : World) (u : Value) : RestO b so w (w.setCell ⟨b, so + k, none⟩ u) := fun j hj => ⟨World.cell?_setCell_other _ _ _ _ (by intro e; injection e with _ e _; omega), World.frozen?_setCell _ _ _ _⟩

/-- the box of a store, and its rows -/
structure QRaw (w : World) (b so : Nat) (vs : Nat → Value) (Ls : Nat → List Ver) : Prop where
  box : RowO w b so [vs 0, vs 1, vs 2, vs 3, vs 4, vs 5, vs 6, vs 7]
  own : ∀ k, k < 8 → w.ownsRow 0 130 6 (vs k) (Ls k).length (versL (Ls k))
  sorted : ∀ k, k < 8 → Sorted (Ls k)
  apart : ∀ k, k < 8 → (vs k).ownBlock ≠ some b
  apart2 : ∀ i j, i < 8 → j < 8 → i ≠ j → ∀ g, (vs i).ownBlock = some g → (vs j).ownBlock ≠ some g
theorem QRaw.cell {w : World} {b so : Nat} {vs : Nat → Value} {Ls : Nat → List Ver} (h : QRaw w b so vs Ls) {k : Nat} (hk : k < 8) : w.cell? ⟨b, so + k, none⟩ = some (vs k) :=
  h.box.cell k (vs k) (by rcases eight hk with rfl | rfl | rfl | rfl | rfl | rfl | rfl | rfl <;> rfl)
theorem QRaw.free {w : World} {b so : Nat} {vs : Nat → Value} {Ls : Nat → List Ver} (h : QRaw w b so vs Ls) {k : Nat} (hk : k < 8) : w.frozen? ⟨b, so + k, none⟩ = false := h.box.free k (by simpa using hk)
theorem QRaw.lt {w : World} {b so : Nat} {vs : Nat → Value} {Ls : Nat → List Ver} (h : QRaw w b so vs Ls) : ∀ k, footP b vs k → k < w.heap.size := fun k hk => by
  rcases hk with rfl | ⟨i, hi, e⟩
  · exact h.box.lt
  · exact ((h.own i hi).lt k e).2
theorem QRaw.kept {w w' : World} {b so : Nat} {vs : Nat → Value} {Ls : Nat → List Ver} (h : QRaw w b so vs Ls) (hk : ∀ k, footP b vs k → w'.heap[k]? = w.heap[k]?) (hs : w.heap.size ≤ w'.heap.size) : QRaw w' b so vs Ls :=
  ⟨h.box.kept (hk b (.inl rfl)) hs, fun k hk8 => own_kept (h.own k hk8) (fun g e => hk g (.inr ⟨k, hk8, e⟩)), h.sorted, h.apart, h.apart2⟩
theorem QRaw.later {w w' : World} {b so : Nat} {vs : Nat → Value} {Ls : Nat → List Ver} (h : QRaw w b so vs Ls) (hb : Below w.heap.size w w') : QRaw w' b so vs Ls := h.kept (fun k hk => hb.block k (h.lt k hk)) hb.size

theorem QRaw.change {w w1 : World} {b so : Nat} {vs : Nat → Value} {Ls : Nat → List Ver} (h : QRaw w b so vs Ls) {k : Nat} (hk : k < 8) {v' : Value} {L' : List Ver} (ht : Touch (fun j => (vs k).ownBlock = some j) w w1)
    (own' : w1.ownsRow 0 130 6 v' L'.length (versL L')) (hb : ∀ g, v'.ownBlock = some g → (vs k).ownBlock = some g ∨ w.heap.size ≤ g) (hs : Sorted L') :
    QRaw (w1.setCell ⟨b, so + k, none⟩ v') b so (upd vs k v') (upd Ls k L') ∧ Touch (footP b vs) w (w1.setCell ⟨b, so + k, none⟩ v') ∧ (∀ j, footP b (upd vs k v') j → footP b vs j ∨ w.heap.size ≤ j) ∧ RestO b so w (w1.setCell ⟨b, so + k, none⟩ v') := by
  have hbl := h.box.lt
  have hb1 : w1.heap[b]? = w.heap[b]? := ht.block b hbl (h.apart k hk)
  have vb : v'.ownBlock ≠ some b := fun e => by
    rcases hb b e with h1 | h1
    · exact h.apart k hk h1
    · omega
  have box1 := h.box.kept hb1 ht.size
  have sc := onlyCell b (so + k) w1 v'
  refine ⟨⟨?_, fun i hi => ?_, fun i hi => ?_, fun i hi => ?_, fun i j hi hj hij g e => ?_⟩, ?_, fun j hj => ?_, ?_⟩
  · rw [← set8 vs hk]
    exact box1.set k v' (by simpa using hk)
  · by_cases e : i = k
    · subst e
      rw [upd_same, upd_same]
      exact own'.kept sc (.inr (fun e => vb e))
    · rw [upd_other _ _ e, upd_other _ _ e]
      refine (own_kept (h.own i hi) (fun g eg => ht.block g ((h.own i hi).lt g eg).2 (h.apart2 i k hi hk e g eg))).kept sc (.inr (h.apart i hi))
  · by_cases e : i = k
    · subst e
      rw [upd_same]
      exact hs
    · rw [upd_other _ _ e]
      exact h.sorted i hi
  · by_cases e : i = k
    · subst e
      rw [upd_same]
      exact vb
    · rw [upd_other _ _ e]
      exact h.apart i hi
  · by_cases ei : i = k
    · subst ei
      rw [upd_same] at e
      rw [upd_other _ _ (Ne.symm hij)]
      rcases hb g e with h1 | h1
      · exact h.apart2 i j hi hj hij g h1
      · intro e2
        have := ((h.own j hj).lt g e2).2
        omega
    · rw [upd_other _ _ ei] at e
      by_cases ej : j = k
      · subst ej
        rw [upd_same]
        intro e2
        rcases hb g e2 with h1 | h1
        · exact h.apart2 i j hi hj hij g e h1
        · have := ((h.own i hi).lt g e).2
          omega
      · rw [upd_other _ _ ej]
        exact h.apart2 i j hi hj hij g e
  · have t1 : Touch (footP b vs) w w1 := ⟨ht.os, ht.tape, ht.output, ht.size, fun j hj hf => ht.block j hj (fun e => hf (.inr ⟨k, hk, e⟩))⟩
    exact t1.trans (Touch.setCell w1 ⟨b, so + k, none⟩ v' (.inl rfl))
  · rcases hj with rfl | ⟨i, hi, e⟩
    · exact .inl (.inl rfl)
    · by_cases ei : i = k
      · subst ei
        rw [upd_same] at e
        rcases hb j e with h1 | h1
        · exact .inl (.inr ⟨i, hi, h1⟩)
        · exact .inr h1
      · rw [upd_other _ _ ei] at e
        exact .inl (.inr ⟨i, hi, e⟩)
  · exact (RestO.ofBlock hb1).trans (RestO.set b so k hk w1 v')

def QStP (w : World) (b so : Nat) (F : Nat → Prop) (l : List Hd) : Prop := ∃ vs Ls, QRaw w b so vs Ls ∧ PgHolds Ls l ∧ ∀ k, F k ↔ footP b vs k
theorem PgHolds.qlast {w : World} {b so : Nat} {vs : Nat → Value} {Ls : Nat → List Ver} {l : List Hd} (h : PgHolds Ls l) (R : QRaw w b so vs Ls) (ha : Apart l) {k : Nat} (hk : k < 8) (a0 a1 a2 a3 : Int) : lastV k a0 a1 a2 a3 l = lastB a0 a1 a2 a3 (Ls k) := lastB_is ha (R.sorted k hk) (h.mem hk)
section
/-- what is left of a store that is changed to hold l' -/
def QPost (w : World) (b so : Nat) (F : Nat → Prop) (l' : List Hd) (w' : World) : Prop := ∃ F', QStP w' b so F' l' ∧ (∀ k, F' k → F k ∨ w.heap.size ≤ k) ∧ Touch F w w' ∧ RestO b so w w'
theorem QStP.kept {w w' : World} {b so : Nat} {F : Nat → Prop} {l : List Hd} (h : QStP w b so F l) (hk : ∀ k, F k → w'.heap[k]? = w.heap[k]?) (hs : w.heap.size ≤ w'.heap.size) : QStP w' b so F l := by
  obtain ⟨vs, Ls, R, H, hF⟩ := h
  exact ⟨vs, Ls, R.kept (fun k hk' => hk k ((hF k).2 hk')) hs, H, hF⟩
theorem QStP.lt {w : World} {b so : Nat} {F : Nat → Prop} {l : List Hd} (h : QStP w b so F l) : ∀ k, F k → k < w.heap.size := by
  obtain ⟨vs, Ls, R, H, hF⟩ := h
  exact fun k hk => R.lt k ((hF k).1 hk)
theorem QPost.same {w w' : World} {b so : Nat} {F : Nat → Prop} {l : List Hd} (h : QStP w b so F l) (hb : Below w.heap.size w w') : QPost w b so F l w' :=
  ⟨F, h.kept (fun k hk => hb.block k (h.lt k hk)) hb.size, fun _ hk => .inl hk, Touch.ofBelow hb, by
    obtain ⟨vs, Ls, R, H, hF⟩ := h
    exact RestO.ofBlock (hb.block b R.box.lt)⟩

set_option maxHeartbeats 4000000 in
theorem qPut_range {b so : Nat} {F : Nat → Prop} {l : List Hd} {key : Int} (h : inB key 0 7 = false) (v : Ver) (w : World) (hS : QStP w b so F l) :
    Calls Tryz.prog 272 #[.pointer (some ⟨b, so, none⟩), .int .i64 key, .agg #[.int .i64 v.wall, .int .i64 v.count, .int .i64 v.site, .int .i64 v.seq, .string v.data, .bool v.gone]] w fun e w' => e = .returned (errV (putE l key v)) ∧ QPost w b so F (putL l key v) w' := by
  have e : putE l key v = 2 := by unfold putE; rw [h]; rfl
  have e2 : putL l key v = l := by unfold putL; rw [e]; rfl
  rw [e, e2]
  have H : Hid (inB key 0 7 = false) := h
  clear h e e2
  go_enter Tryz.func272, Tryz.ntmps272
  go_wp2_with fail
  refine (isKey_is H.out _).mono ?_
  rintro e w1 ⟨rfl, rfl⟩
  go_wp2_with fail
  go_ret
  exact ⟨rfl, QPost.same hS (boxed (Below.refl _ _) _)⟩

set_option maxHeartbeats 4000000 in
theorem qPut_arg {b so : Nat} {F : Nat → Prop} {l : List Hd} {key : Int} (h : inB key 0 7 = true) (v : Ver) (hv : okVer v = false) (w : World) (hS : QStP w b so F l) :
    Calls Tryz.prog 272 #[.pointer (some ⟨b, so, none⟩), .int .i64 key, .agg #[.int .i64 v.wall, .int .i64 v.count, .int .i64 v.site, .int .i64 v.seq, .string v.data, .bool v.gone]] w fun e w' => e = .returned (errV (putE l key v)) ∧ QPost w b so F (putL l key v) w' := by
  have e : putE l key v = 1 := by unfold putE; rw [h, hv]; rfl
  have e2 : putL l key v = l := by unfold putL; rw [e]; rfl
  rw [e, e2]
  have H : Hid (inB key 0 7 = true) := h
  have HV : Hid (okVer v = false) := hv
  clear h hv e e2
  go_enter Tryz.func272, Tryz.ntmps272
  go_wp2_with fail
  refine (isKey_is H.out _).mono ?_
  rintro e w1 ⟨rfl, rfl⟩
  go_wp2_with fail
  refine (isRight_is HV.out _).mono ?_
  rintro e w1 ⟨rfl, hb1⟩
  go_wp2_with fail
  go_ret
  exact ⟨rfl, QPost.same hS (behind (boxed (Below.refl _ _) _) hb1)⟩

set_option maxRecDepth 100000 in
set_option maxHeartbeats 8000000 in
theorem qPut_ok {b so : Nat} {F : Nat → Prop} {l : List Hd} {key : Int} (h : inB key 0 7 = true) (v : Ver) (hv : okVer v = true) (w : World) (hS : QStP w b so F l) (hl : l.length ≤ 1000) :
    Calls Tryz.prog 272 #[.pointer (some ⟨b, so, none⟩), .int .i64 key, .agg #[.int .i64 v.wall, .int .i64 v.count, .int .i64 v.site, .int .i64 v.seq, .string v.data, .bool v.gone]] w fun e w' => e = .returned (errV (putE l key v)) ∧ QPost w b so F (putL l key v) w' := by
  have hne := Later.one
  obtain ⟨vs, Ls, R, PH, hF⟩ := id hS
  have hk := inB_iff.1 h
  obtain ⟨k, rfl⟩ : ∃ k : Nat, key = (k : Int) := ⟨key.toNat, by omega⟩
  have hk8 : k < 8 := by omega
  have hkz : (k : Int) < 8 := by omega
  obtain ⟨p, hp⟩ := bsAt_some v (R.sorted k hk8)
  have FI := found_iff (R.sorted k hk8) hp
  rw [← twin_any PH hk8 v] at FI
  obtain ⟨a, cap, hvk, hV⟩ := vsIn_own (R.own k hk8)
  have hlk : (Ls k).length ≤ 1000 := Nat.le_trans (PH.len hk8) hl
  have RX := RowL.new (w := w) (T := 130) (verL v) rfl
  have hb := boxed (Below.refl _ w) (.cells #[.int .i64 v.wall, .int .i64 v.count, .int .i64 v.site, .int .i64 v.seq, .string v.data, .bool v.gone] 130)
  change RowL (w.alloc (.cells #[.int .i64 v.wall, .int .i64 v.count, .int .i64 v.site, .int .i64 v.seq, .string v.data, .bool v.gone] 130)) w.heap.size (verL v) at RX
  have H : Hid (inB (k : Int) 0 7 = true) := h
  have HV : Hid (okVer v = true) := hv
  clear h hv hk
  go_enter Tryz.func272, Tryz.ntmps272
  go_wp2_with fail
  refine (isKey_is H.out _).mono ?_
  rintro e w1 ⟨rfl, rfl⟩
  go_wp2_with fail
  refine (isRight_is HV.out _).mono ?_
  rintro e w1 ⟨rfl, hb1⟩
  replace RX := RX.later hb1
  replace hb := behind hb hb1
  clear hb1
  have R1 := R.later hb
  have k0 : w1.cell? ⟨b, so + k, none⟩ = some (.slice a (Ls k).length cap) := by rw [← hvk]; exact R1.cell hk8
  have l0 := Later.cell k0
  have x0 := Later.cell (RX.cell 0 _ rfl)
  have x1 := Later.cell (RX.cell 1 _ rfl)
  have x2 := Later.cell (RX.cell 2 _ rfl)
  have x3 := Later.cell (RX.cell 3 _ rfl)
  have x4 := Later.cell (RX.cell 4 _ rfl)
  have x5 := Later.cell (RX.cell 5 _ rfl)
  have SE : Hid (∀ x : Later w1, Calls Tryz.prog 284 #[.slice a (Ls k).length cap, .agg #[.int .i64 v.wall, .int .i64 v.count, .int .i64 v.site, .int .i64 v.seq, .string v.data, .bool v.gone], .func (.func 285) #[] #[]] x.val fun e w' => e = .returned (.tuple #[.int .i64 p, .bool (foundB (Ls k) v p)]) ∧ Below x.val.heap.size x.val w') :=
    fun x => search_is hp x.val ((hV.later hb).later x.below) (R.sorted k hk8) hlk
  obtain ⟨fb, hfb⟩ : ∃ fb, foundB (Ls k) v p = fb := ⟨_, rfl⟩
  rw [hfb] at SE FI
  have FB : Hid (foundB (Ls k) v p = fb) := hfb
  have HP : Hid (BsAt (Ls k) v p) := hp
  clear hfb hp
  cases fb
  · have PE : Hid (putE l k v = 0) := by
      show putE l k v = 0
      unfold putE
      have : l.any (twinB k v) = false := by
        cases hq : l.any (twinB k v)
        · rfl
        · have := FI.2 hq; cases this
      rw [H.out, HV.out, this]; rfl
    have PL : Hid (putL l k v = l ++ [⟨k, v⟩]) := by show putL l k v = _; unfold putL; rw [PE.out]; rfl
    clear FI
    go_wp2_with fail
    refine wp_region_later (by kernel_rfl) (by kernel_rfl) ?_
    repeat (go_big_quiet_step ((go_at_call 284; with_reducible exact calls_later (SE.out _))))
    refine wpQuiet_nil ?_
    rintro w5 ⟨⟨_, hb7⟩, rfl⟩
    have hb5 := behind hb hb7
    have RX5 := RX.later hb7
    have R5 := R1.later hb7
    have k5 : w5.cell? ⟨b, so + k, none⟩ = some (.slice a (Ls k).length cap) := by rw [← hvk]; exact R5.cell hk8
    have y0 := RX5.cell 0 _ rfl
    have y1 := RX5.cell 1 _ rfl
    have y2 := RX5.cell 2 _ rfl
    have y3 := RX5.cell 3 _ rfl
    have y4 := RX5.cell 4 _ rfl
    have y5 := RX5.cell 5 _ rfl
    have ownA : (w5.drew.alloc (.cells #[.int .i64 v.wall, .int .i64 v.count, .int .i64 v.site, .int .i64 v.seq, .string v.data, .bool v.gone] 130)).ownsRow 0 130 6 (.slice a (Ls k).length cap) (Ls k).length (versL (Ls k)) := by
      rw [← hvk]
      exact World.ownsRow.alloc (show w5.drew.ownsRow 0 130 6 (vs k) (Ls k).length (versL (Ls k)) from R5.own k hk8) _
    have vbne : (Value.slice a (Ls k).length cap).ownBlock ≠ some w5.heap.size := by
      rw [← hvk]
      intro e
      have := ((R5.own k hk8).lt _ e).2
      omega
    have IN : Hid (Calls Tryz.prog 286 #[.slice a (Ls k).length cap, .int .i64 p, .slice (some ⟨w5.heap.size, 0, none⟩) 1 1] (w5.drew.alloc (.cells #[.int .i64 v.wall, .int .i64 v.count, .int .i64 v.site, .int .i64 v.seq, .string v.data, .bool v.gone] 130)) fun e w' =>
      ∃ g cap', e = .returned (.slice (some ⟨g, 0, none⟩) ((Ls k).length + 1) cap') ∧ InsPost (w5.drew.alloc (.cells #[.int .i64 v.wall, .int .i64 v.count, .int .i64 v.site, .int .i64 v.seq, .string v.data, .bool v.gone] 130)) (.slice a (Ls k).length cap) (insL (Ls k) p v) g cap' w') :=
      insert_any v w5.heap.size _ ownA HP.out.1 hlk (heap_alloc_new w5.drew _) vbne
    have bfree := R5.free hk8
    have hbl := R5.box.lt
    have hap := R5.apart k hk8
    rw [hvk] at hap
    clear ownA vbne x0 x1 x2 x3 x4 x5 l0 k0 SE
    go_wp2_with fail
    go_region_law (
      refine step_call rfl 286 #[.slice a (Ls k).length cap, .int .i64 p, .slice (some ⟨w5.heap.size, 0, none⟩) 1 1] (by go_simp) IN.out ?_
      rintro e w8 ⟨g, cap', rfl, IP⟩
      refine ⟨_, rfl, ?_⟩
      have HI : Hid (InsPost (w5.drew.alloc (.cells #[.int .i64 v.wall, .int .i64 v.count, .int .i64 v.site, .int .i64 v.seq, .string v.data, .bool v.gone] 130)) (.slice a (Ls k).length cap) (insL (Ls k) p v) g cap' w8) := IP
      have B8 := ((R5.box.drew).boxed (.cells #[.int .i64 v.wall, .int .i64 v.count, .int .i64 v.site, .int .i64 v.seq, .string v.data, .bool v.gone] 130)).grown IP.2.1 (fun e => hap e.symm)
      have c8 : w8.cell? ⟨b, so + k, none⟩ = some (.slice a (Ls k).length cap) := by rw [World.cell?_of_block (w := w5) ((IP.2.1.block b (by simp; omega) (fun e => hap e.symm)).trans (Below.heap_alloc w5.drew _ b hbl)), k5]
      have f8 : w8.frozen? ⟨b, so + k, none⟩ = false := B8.free k (by simpa using hk8)
      clear IP)
    all_goals
      have TW : Touch (fun j => (vs k).ownBlock = some j) w w8 := by
        rw [hvk]
        exact ((Touch.ofBelow hb5).trans (Touch.ofBelow (boxed ((Below.refl _ w5).drew) _))).trans (Touch.grown HI.out.2.1 (fun j hj => hj))
      have ownN := HI.out.1
      rw [insL_length v HP.out.1] at ownN
      have CH := R.change hk8 (v' := .slice (some ⟨g, 0, none⟩) ((Ls k).length + 1) cap') (L' := insL (Ls k) p v) TW (by rw [insL_length v HP.out.1]; exact ownN) (fun j hj => by
        have e : g = j := by simpa [Value.ownBlock] using hj
        subst e
        rcases HI.out.2.2 with h1 | h1
        · left
          rw [hvk]
          exact h1
        · right
          have := hb5.size
          simp at h1
          omega) (sorted_ins (R.sorted k hk8) HP.out FB.out)
      have FIN : Hid (QPost w b so F (l ++ [⟨k, v⟩]) (w8.setCell ⟨b, so + k, none⟩ (.slice (some ⟨g, 0, none⟩) ((Ls k).length + 1) cap'))) :=
        ⟨footP b (upd vs k (.slice (some ⟨g, 0, none⟩) ((Ls k).length + 1) cap')), ⟨_, _, CH.1, PH.put hk8 v p, fun _ => Iff.rfl⟩, fun j hj => (CH.2.2.1 j hj).imp_left (hF j).2, ⟨CH.2.1.os, CH.2.1.tape, CH.2.1.output, CH.2.1.size, fun j hj hn => CH.2.1.block j hj (fun e => hn ((hF j).2 e))⟩, CH.2.2.2⟩
      clear CH ownN TW
      go_wp2_with fail
      go_ret
      rw [PE.out, PL.out]
      exact ⟨rfl, FIN.out⟩
  · have PE : Hid (putE l k v = 9) := by
      show putE l k v = 9
      unfold putE
      rw [H.out, HV.out, FI.1 rfl]; rfl
    have PL : Hid (putL l k v = l) := by show putL l k v = _; unfold putL; rw [PE.out]; rfl
    clear FI
    go_wp2_with fail
    refine wp_region_later (by kernel_rfl) (by kernel_rfl) ?_
    repeat (go_big_quiet_step ((go_at_call 284; with_reducible exact calls_later (SE.out _))))
    refine wpQuiet_nil ?_
    rintro w5 ⟨⟨_, hb7⟩, rfl⟩
    go_wp2_with fail
    go_ret
    rw [PE.out, PL.out]
    exact ⟨rfl, QPost.same hS (behind hb hb7)⟩

theorem qPut_any {b so : Nat} {F : Nat → Prop} {l : List Hd} (key : Int) (v : Ver) (w : World) (hS : QStP w b so F l) (hl : l.length ≤ 1000) :
    Calls Tryz.prog 272 #[.pointer (some ⟨b, so, none⟩), .int .i64 key, .agg #[.int .i64 v.wall, .int .i64 v.count, .int .i64 v.site, .int .i64 v.seq, .string v.data, .bool v.gone]] w fun e w' => e = .returned (errV (putE l key v)) ∧ QPost w b so F (putL l key v) w' := by
  cases h : inB key 0 7
  · exact qPut_range h v w hS
  · cases hv : okVer v
    · exact qPut_arg h v hv w hS
    · exact qPut_ok h v hv w hS hl
end
/-- a site's cells, but its store -/
def psiteC (S : SiteS) (lv : Value) (bm : Nat) : List Value :=
  [.int .i64 S.id, .int .i64 S.a0, .int .i64 S.a1, .int .i64 S.a2, .int .i64 S.a3, .int .i64 S.lw, .int .i64 S.lc, lv, .map (some bm),
   .int .i64 (S.oth 0), .int .i64 (S.oth 1), .int .i64 (S.oth 2), .int .i64 (S.oth 3), .int .i64 (S.oth 4), .int .i64 (S.oth 5), .int .i64 (S.oth 6), .int .i64 (S.oth 7),
   .int .i64 (S.oth 8), .int .i64 (S.oth 9), .int .i64 (S.oth 10), .int .i64 (S.oth 11), .int .i64 (S.oth 12), .int .i64 (S.oth 13), .int .i64 (S.oth 14), .int .i64 (S.oth 15)]
def footQ (b : Nat) (lv : Value) (bm : Nat) (F : Nat → Prop) (k : Nat) : Prop := k = b ∨ lv.ownBlock = some k ∨ k = bm ∨ F k

structure PMem (w : World) (b : Nat) (lv : Value) (bm : Nat) (F : Nat → Prop) (S : SiteS) (log waits : List TxM) : Prop where
  box : RowL w b (psiteC S lv bm)
  st : QStP w b 25 F S.l
  rlog : w.ownsRow 0 102 9 lv log.length (txsC log)
  map : PMap w bm waits
  nl : lv.ownBlock ≠ some b
  nm : bm ≠ b
  lm : lv.ownBlock ≠ some bm
  lf : ∀ k, lv.ownBlock = some k → ¬ F k
  mf : ¬ F bm
  hold : ∀ m ∈ log ++ waits, WrIn w m.wa m.wc m.t.ws ∧ ∀ k, m.blk k → ¬ footQ b lv bm F k

theorem PMem.lt {w : World} {b : Nat} {lv : Value} {bm : Nat} {F : Nat → Prop} {S : SiteS} {log waits : List TxM} (h : PMem w b lv bm F S log waits) : ∀ k, footQ b lv bm F k → k < w.heap.size := fun k hk => by
  rcases hk with rfl | hk | rfl | hk
  · exact h.box.lt
  · exact (h.rlog.lt k hk).2
  · exact h.map.lt
  · exact h.st.lt k hk
theorem PMem.kept {w w' : World} {b : Nat} {lv : Value} {bm : Nat} {F : Nat → Prop} {S : SiteS} {log waits : List TxM} (h : PMem w b lv bm F S log waits) (hk : ∀ k, (footQ b lv bm F k ∨ ∃ m ∈ log ++ waits, m.blk k) → w'.heap[k]? = w.heap[k]?) (hs : w.heap.size ≤ w'.heap.size) : PMem w' b lv bm F S log waits :=
  ⟨h.box.kept (hk b (.inl (.inl rfl))) hs, h.st.kept (fun k e => hk k (.inl (.inr (.inr (.inr e))))) hs, own_keptN h.rlog (fun k e => hk k (.inl (.inr (.inl e)))), h.map.kept (hk bm (.inl (.inr (.inr (.inl rfl))))), h.nl, h.nm, h.lm, h.lf, h.mf,
    fun m hm => ⟨(h.hold m hm).1.kept (fun k e => hk k (.inr ⟨m, hm, e⟩)), (h.hold m hm).2⟩⟩
theorem PMem.later {w w' : World} {b : Nat} {lv : Value} {bm : Nat} {F : Nat → Prop} {S : SiteS} {log waits : List TxM} (h : PMem w b lv bm F S log waits) (hb : Below w.heap.size w w') : PMem w' b lv bm F S log waits :=
  h.kept (fun k hk => hb.block k (by
    rcases hk with hk | ⟨m, hm, e⟩
    · exact h.lt k hk
    · exact (h.hold m hm).1.blk_lt k e)) hb.size
theorem PMem.hold' {w w' : World} {b : Nat} {lv lv' : Value} {bm : Nat} {F F' : Nat → Prop} {m : TxM} (hm : WrIn w m.wa m.wc m.t.ws ∧ ∀ k, m.blk k → ¬ footQ b lv bm F k) (ht : Touch (footQ b lv bm F) w w') (nf : ∀ k, footQ b lv' bm F' k → footQ b lv bm F k ∨ w.heap.size ≤ k) :
    WrIn w' m.wa m.wc m.t.ws ∧ ∀ k, m.blk k → ¬ footQ b lv' bm F' k :=
  ⟨hm.1.kept (fun k e => ht.block k (hm.1.blk_lt k e) (hm.2 k e)), fun k e hf => by
    rcases nf k hf with h1 | h1
    · exact hm.2 k e h1
    · have := hm.1.blk_lt k e
      omega⟩
theorem PMem.store {w w' : World} {b : Nat} {lv : Value} {bm : Nat} {F : Nat → Prop} {S : SiteS} {log waits : List TxM} {l' : List Hd} (h : PMem w b lv bm F S log waits) (hp : QPost w b 25 F l' w') :
    ∃ F', PMem w' b lv bm F' { S with l := l' } log waits ∧ (∀ k, footQ b lv bm F' k → footQ b lv bm F k ∨ w.heap.size ≤ k) ∧ Touch (footQ b lv bm F) w w' := by
  obtain ⟨F', st, hn, ht, hr⟩ := hp
  have nf : ∀ k, footQ b lv bm F' k → footQ b lv bm F k ∨ w.heap.size ≤ k := fun k hk => by
    rcases hk with hk | hk | hk | hk
    · exact .inl (.inl hk)
    · exact .inl (.inr (.inl hk))
    · exact .inl (.inr (.inr (.inl hk)))
    · rcases hn k hk with h1 | h1
      · exact .inl (.inr (.inr (.inr h1)))
      · exact .inr h1
  have tt : Touch (footQ b lv bm F) w w' := ⟨ht.os, ht.tape, ht.output, ht.size, fun k hk hf => ht.block k hk (fun e => hf (.inr (.inr (.inr e))))⟩
  have kl : ∀ k, lv.ownBlock = some k → w'.heap[k]? = w.heap[k]? := fun k e => ht.block k (h.rlog.lt k e).2 (h.lf k e)
  refine ⟨F', ⟨⟨fun j v hv => ?_, fun j hj => ?_, Nat.lt_of_lt_of_le h.box.lt ht.size⟩, st, own_keptN h.rlog kl, h.map.kept (ht.block bm h.map.lt h.mf), h.nl, h.nm, h.lm, fun k e hf => ?_, fun hf => ?_, fun m hm => PMem.hold' (h.hold m hm) tt nf⟩, nf, tt⟩
  · have hj : j < 25 := by
      have := (List.getElem?_eq_some_iff.1 hv).1
      simpa [psiteC] using this
    rw [(hr j (.inl hj)).1]
    exact h.box.cell j v hv
  · have hj : j < 25 := by simpa [psiteC] using hj
    rw [(hr j (.inl hj)).2]
    exact h.box.free j (by simpa [psiteC] using hj)
  · rcases hn k hf with h1 | h1
    · exact h.lf k e h1
    · have := (h.rlog.lt k e).2
      omega
  · rcases hn bm hf with h1 | h1
    · exact h.mf h1
    · have := h.map.lt
      omega
theorem RowO.other {w : World} {b o : Nat} {vs : List Value} (h : RowO w b o vs) (k : Nat) (u : Value) (hk : k < o) : RowO (w.setCell ⟨b, k, none⟩ u) b o vs :=
  ⟨fun j v hv => by rw [World.cell?_setCell_other _ _ _ _ (by intro e; injection e with _ e _; omega)]; exact h.cell j v hv, fun j hj => by rw [World.frozen?_setCell]; exact h.free j hj, by simpa [World.setCell] using h.lt⟩
theorem QStP.other {w : World} {b : Nat} {F : Nat → Prop} {l : List Hd} (h : QStP w b 25 F l) (k : Nat) (u : Value) (hk : k < 25) : QStP (w.setCell ⟨b, k, none⟩ u) b 25 F l := by
  obtain ⟨vs, Ls, R, hh, hf⟩ := h
  exact ⟨vs, Ls, ⟨R.box.other k u hk, fun i hi => own_kept (R.own i hi) (fun g e => Below.heap_setCell _ _ _ _ (fun (x : g = b) => R.apart i hi (by rw [← x]; exact e))), R.sorted, R.apart, R.apart2⟩, hh, hf⟩
theorem PMem.cell {w : World} {b : Nat} {lv : Value} {bm : Nat} {F : Nat → Prop} {S S' : SiteS} {log waits : List TxM} (h : PMem w b lv bm F S log waits) (k : Nat) (u : Value) (hk : k < 25) (hc : (psiteC S lv bm).set k u = psiteC S' lv bm) (hl : S'.l = S.l) : PMem (w.setCell ⟨b, k, none⟩ u) b lv bm F S' log waits :=
  ⟨by rw [← hc]; exact h.box.set k u (by simpa [psiteC] using hk), by rw [hl]; exact h.st.other k u hk, own_keptN h.rlog (fun g e => Below.heap_setCell _ _ _ _ (fun (x : g = b) => h.nl (by rw [← x]; exact e))), h.map.kept (Below.heap_setCell _ _ _ _ h.nm), h.nl, h.nm, h.lm, h.lf, h.mf,
    fun m hm => ⟨(h.hold m hm).1.kept (fun g e => Below.heap_setCell _ _ _ _ (fun x => (h.hold m hm).2 g e (.inl x))), (h.hold m hm).2⟩⟩
theorem PMem.seq {w : World} {b : Nat} {lv : Value} {bm : Nat} {F : Nat → Prop} {S : SiteS} {log waits : List TxM} (h : PMem w b lv bm F S log waits) {s : Int} (x : Int) (h0 : 0 ≤ s) (h3 : s ≤ 3) :
    PMem (w.setCell ⟨b, 1 + s.toNat, none⟩ (.int .i64 x)) b lv bm F { S with a0 := setV0 s x S.a0, a1 := setV1 s x S.a1, a2 := setV2 s x S.a2, a3 := setV3 s x S.a3 } log waits := by
  refine h.cell (1 + s.toNat) (.int .i64 x) (by omega) ?_ rfl
  have hc : s = 0 ∨ s = 1 ∨ s = 2 ∨ s = 3 := by omega
  rcases hc with rfl | rfl | rfl | rfl <;> rfl
theorem PMem.last {w : World} {b : Nat} {lv : Value} {bm : Nat} {F : Nat → Prop} {S : SiteS} {log waits : List TxM} (h : PMem w b lv bm F S log waits) (x y : Int) :
    PMem ((w.setCell ⟨b, 5, none⟩ (.int .i64 x)).setCell ⟨b, 6, none⟩ (.int .i64 y)) b lv bm F { S with lw := x, lc := y } log waits :=
  (h.cell (S' := { S with lw := x }) 5 (.int .i64 x) (by omega) rfl rfl).cell 6 (.int .i64 y) (by omega) rfl rfl
theorem PMem.append {w wE : World} {b : Nat} {lv : Value} {bm : Nat} {F : Nat → Prop} {S : SiteS} {log waits : List TxM} (h : PMem w b lv bm F S log waits) (m : TxM) (hm : WrIn w m.wa m.wc m.t.ws ∧ ∀ k, m.blk k → ¬ footQ b lv bm F k) {g cap9 : Nat} (gr : w.grownBy wE lv.ownBlock)
    (ownE : wE.ownsRow 0 102 9 (.slice (some ⟨g, 0, none⟩) (log.length + 1) cap9) (log.length + 1) (txsC log ++ txC m)) (eg : lv.ownBlock = some g ∨ w.heap.size ≤ g) :
    PMem (wE.setCell ⟨b, 7, none⟩ (.slice (some ⟨g, 0, none⟩) (log.length + 1) cap9)) b (.slice (some ⟨g, 0, none⟩) (log.length + 1) cap9) bm F S (log ++ [m]) waits ∧ (∀ k, footQ b (.slice (some ⟨g, 0, none⟩) (log.length + 1) cap9) bm F k → footQ b lv bm F k ∨ w.heap.size ≤ k) ∧
      Touch (footQ b lv bm F) w (wE.setCell ⟨b, 7, none⟩ (.slice (some ⟨g, 0, none⟩) (log.length + 1) cap9)) := by
  have gk : ∀ k, (Value.slice (some ⟨g, 0, none⟩) (log.length + 1) cap9).ownBlock = some k → g = k := fun k hk => by simpa [Value.ownBlock] using hk
  have nf : ∀ k, footQ b (.slice (some ⟨g, 0, none⟩) (log.length + 1) cap9) bm F k → footQ b lv bm F k ∨ w.heap.size ≤ k := fun k hk => by
    rcases hk with hk | hk | hk
    · exact .inl (.inl hk)
    · obtain rfl := gk k hk
      rcases eg with h1 | h1
      · exact .inl (.inr (.inl h1))
      · exact .inr h1
    · exact .inl (.inr (.inr hk))
  have gn : ∀ k, k < w.heap.size → lv.ownBlock ≠ some k → g ≠ k := fun k hk h1 e => by
    rcases eg with h2 | h2
    · exact h1 (by rw [← e]; exact h2)
    · omega
  have tt : Touch (footQ b lv bm F) w (wE.setCell ⟨b, 7, none⟩ (.slice (some ⟨g, 0, none⟩) (log.length + 1) cap9)) := (Touch.grown gr (fun k hk => .inr (.inl hk))).trans (Touch.setCell wE ⟨b, 7, none⟩ _ (.inl rfl))
  have gb : g ≠ b := gn b h.box.lt h.nl
  have sE : QStP wE b 25 F S.l := h.st.kept (fun k e => gr.block k (h.st.lt k e) (fun x => h.lf k x.symm e)) gr.size
  refine ⟨⟨(h.box.grown gr (fun e => h.nl e.symm)).set 7 _ (by simp [psiteC]), sE.other 7 _ (by omega), ?_, (h.map.kept (gr.block bm h.map.lt (fun x => h.lm x.symm))).kept (Below.heap_setCell _ _ _ _ h.nm), fun e => gb (gk b e), h.nm, fun e => gn bm h.map.lt h.lm (gk bm e), fun k e hf => ?_, h.mf, fun m' hm' => PMem.hold' (lv := lv) (F := F) (w := w) ?_ tt nf⟩, nf, tt⟩
  · have := ownE.kept (row := some b) (onlyCell b 7 wE (.slice (some ⟨g, 0, none⟩) (log.length + 1) cap9)) (.inr (fun e => gb (gk b e)))
    rw [txsC_snoc, List.length_append]
    exact this
  · obtain rfl := gk k e
    rcases eg with h1 | h1
    · exact h.lf _ h1 hf
    · have := h.st.lt _ hf
      omega
  · rcases List.mem_append.1 hm' with h1 | h1
    · rcases List.mem_append.1 h1 with h2 | h2
      · exact h.hold m' (List.mem_append.2 (.inl h2))
      · obtain rfl := List.mem_singleton.1 h2
        exact hm
    · exact h.hold m' (List.mem_append.2 (.inr h1))
theorem PMem.turn {w w' : World} {b : Nat} {lv : Value} {bm : Nat} {F : Nat → Prop} {S : SiteS} {log waits waits' : List TxM} (h : PMem w b lv bm F S log waits) (gr : w.grownBy w' (some bm)) (hM : PMap w' bm waits') (hw : ∀ m ∈ waits', m ∈ waits ∨ (WrIn w m.wa m.wc m.t.ws ∧ ∀ k, m.blk k → ¬ footQ b lv bm F k)) : PMem w' b lv bm F S log waits' :=
  have ne : ∀ k, k ≠ bm → k < w.heap.size → w'.heap[k]? = w.heap[k]? := fun k hk hl => gr.block k hl (fun e => hk (by injection e))
  have hh : ∀ m : TxM, (WrIn w m.wa m.wc m.t.ws ∧ ∀ k, m.blk k → ¬ footQ b lv bm F k) → (WrIn w' m.wa m.wc m.t.ws ∧ ∀ k, m.blk k → ¬ footQ b lv bm F k) := fun m hm => ⟨hm.1.kept (fun k e => ne k (fun x => hm.2 k e (.inr (.inr (.inl x)))) (hm.1.blk_lt k e)), hm.2⟩
  ⟨h.box.kept (ne b (Ne.symm h.nm) h.box.lt) gr.size, h.st.kept (fun k e => ne k (fun x => h.mf (by rw [← x]; exact e)) (h.st.lt k e)) gr.size, own_keptN h.rlog (fun k e => ne k (fun x => h.lm (by rw [← x]; exact e)) (h.rlog.lt k e).2), hM, h.nl, h.nm, h.lm, h.lf, h.mf,
    fun m hm => by
      rcases List.mem_append.1 hm with h1 | h1
      · exact hh m (h.hold m (List.mem_append.2 (.inl h1)))
      · rcases hw m h1 with h2 | h2
        · exact hh m (h.hold m (List.mem_append.2 (.inr h2)))
        · exact hh m h2⟩
/-- how many there are of the first k keys -/
def manyN (Ls : Nat → List Ver) : Nat → Nat
  | 0 => 0
  | k + 1 => manyN Ls k + (Ls k).length
theorem manyN_le (Ls : Nat → List Ver) : ∀ {k m : Nat}, k ≤ m → manyN Ls k ≤ manyN Ls m
  | k, 0, h => by obtain rfl : k = 0 := by omega
                  exact Nat.le_refl _
  | k, m + 1, h => by
    rcases Nat.lt_or_ge k (m + 1) with h1 | h1
    · exact Nat.le_trans (manyN_le Ls (by omega)) (Nat.le_add_right _ _)
    · obtain rfl : k = m + 1 := by omega
      exact Nat.le_refl _

theorem index8 (x : Nat → Value) {k : Nat} (hk : k < 8) {z : Int} (hz : z = k) (w : World) : (Instr.index 216 (.agg #[x 0, x 1, x 2, x 3, x 4, x 5, x 6, x 7]) (.int .i64 z)).run Tryz.prog w = .ok (x k) w := by
  subst hz
  rcases eight hk with rfl | rfl | rfl | rfl | rfl | rfl | rfl | rfl <;> kernel_rfl
section
set_option maxRecDepth 100000 in
set_option maxHeartbeats 8000000 in
theorem qMany_any {b so : Nat} {F : Nat → Prop} {l : List Hd} (w : World) (hS : QStP w b so F l) (hl : l.length ≤ 1000) :
    Calls Tryz.prog 218 #[.pointer (some ⟨b, so, none⟩)] w fun e w' => e = .returned (.int .i64 l.length) ∧ Below w.heap.size w w' := by
  obtain ⟨vs, Ls, R, PH, hF⟩ := id hS
  have k0 : (w).cell? ⟨b, so, none⟩ = some (vs 0) := R.cell (k := 0) (by omega)
  have k1 := R.cell (k := 1) (by omega)
  have k2 := R.cell (k := 2) (by omega)
  have k3 := R.cell (k := 3) (by omega)
  have k4 := R.cell (k := 4) (by omega)
  have k5 := R.cell (k := 5) (by omega)
  have k6 := R.cell (k := 6) (by omega)
  have k7 := R.cell (k := 7) (by omega)
  have CNT : manyN Ls 8 = l.length := by
    have := PH.count
    simp only [manyN]
    omega
  have CN : Hid (manyN Ls 8 = l.length) := CNT
  clear CNT
  go_enter Tryz.func218, Tryz.ntmps218
  go_wp2_with fail
  clear k0 k1 k2 k3 k4 k5 k6 k7
  go_loopw [3, 10] (fun mv iv wr => ∃ (k : Nat) (z y : Int), k ≤ 8 ∧ z = k ∧ y = manyN Ls k ∧ iv = .int .i64 z ∧ mv = .int .i64 y ∧ wr = w) (fun _ i _ => 8 - (intOf i).toNat)
  case atStart => exact ⟨0, 0, 0, by omega, rfl, rfl, rfl, rfl, rfl⟩
  case round =>
    obtain ⟨k, z, y, hk, hz, hy, rfl, rfl, rfl⟩ := hrel
    have HY : Hid (y = manyN Ls k) := hy
    have HZ : Hid (z = k) := hz
    by_cases hlt : k < 8
    · have hle2 := manyN_le Ls (show k + 1 ≤ 8 by omega)
      rw [CN.out] at hle2
      have hle3 : manyN Ls (k + 1) = manyN Ls k + (Ls k).length := rfl
      have h1 : z < 8 := by omega
      have h3 : 0 ≤ z := by omega
      obtain ⟨a, c, e, _⟩ := vsIn_own (R.own k hlt)
      have ix := index8 vs hlt hz
      rw [e] at ix
      have b1 : -9223372036854775808 ≤ y + ((Ls k).length : Int) := by omega
      have b2 : y + ((Ls k).length : Int) ≤ 9223372036854775807 := by omega
      clear hz hy hle3 hle2
      go_wp2_with fail
      go_roundw
      case rel => exact ⟨k + 1, z + 1, y + ((Ls k).length : Int), by omega, by have := HZ.out; omega, by have := HY.out; simp only [manyN]; omega, by go_num, by go_num, by first | rfl | trivial⟩
      case measure => simp [intOf]; have := HZ.out; omega
    · obtain rfl : k = 8 := by omega
      have h1 : ¬ z < 8 := by omega
      clear hz hy
      go_wp2_with fail
      go_ret
      exact ⟨by rw [HY.out, CN.out]; rfl, Below.refl _ _⟩
end
/-- what a sweep leaves of a row -/
def sweptL (a0 a1 a2 a3 : Int) (L : List Ver) : List Ver := L.filter fun v => !delV a0 a1 a2 a3 ((lastB a0 a1 a2 a3 L).getD ver0) v
/-- the first k rows are swept -/
structure QSwRaw (w0 : World) (b so : Nat) (vs : Nat → Value) (Ls : Nat → List Ver) (a0 a1 a2 a3 : Int) (k : Nat) (vs' : Nat → Value) (Ls' : Nat → List Ver) (wr : World) : Prop where
  raw : QRaw wr b so vs' Ls'
  done : ∀ i, i < k → Ls' i = sweptL a0 a1 a2 a3 (Ls i)
  rest : ∀ i, k ≤ i → Ls' i = Ls i ∧ vs' i = vs i
  foot : ∀ j, footP b vs' j → footP b vs j
  touch : Touch (footP b vs) w0 wr
  cells : RestO b so w0 wr

theorem QSwRaw.later {w0 wr w' : World} {b so : Nat} {vs vs' : Nat → Value} {Ls Ls' : Nat → List Ver} {a0 a1 a2 a3 : Int} {k : Nat} (h : QSwRaw w0 b so vs Ls a0 a1 a2 a3 k vs' Ls' wr) (hb : Below wr.heap.size wr w') : QSwRaw w0 b so vs Ls a0 a1 a2 a3 k vs' Ls' w' :=
  ⟨h.raw.later hb, h.done, h.rest, h.foot, h.touch.trans (Touch.ofBelow hb), h.cells.trans (RestO.ofBlock (hb.block b h.raw.box.lt))⟩

theorem QSwRaw.next {w0 wr w1 : World} {b so : Nat} {vs vs' : Nat → Value} {Ls Ls' : Nat → List Ver} {a0 a1 a2 a3 : Int} {k : Nat} (h : QSwRaw w0 b so vs Ls a0 a1 a2 a3 k vs' Ls' wr) (hk : k < 8) {v' : Value}
    (hD : DelPost wr (vs' k) (sweptL a0 a1 a2 a3 (Ls k)) v' w1) : QSwRaw w0 b so vs Ls a0 a1 a2 a3 (k + 1) (upd vs' k v') (upd Ls' k (sweptL a0 a1 a2 a3 (Ls k))) (w1.setCell ⟨b, so + k, none⟩ v') := by
  have hs : Sorted (sweptL a0 a1 a2 a3 (Ls k)) := by
    have := h.raw.sorted k hk
    rw [(h.rest k (Nat.le_refl _)).1] at this
    exact sorted_filter this _
  have CH := h.raw.change hk (v' := v') (L' := sweptL a0 a1 a2 a3 (Ls k)) (Touch.grown hD.2.1 (fun j hj => hj)) hD.1 (fun g e => .inl (by rw [hD.2.2] at e; exact e)) hs
  have fo : ∀ j, footP b (upd vs' k v') j → footP b vs' j := fun j hj => by
    rcases hj with rfl | ⟨i, hi, e⟩
    · exact .inl rfl
    · by_cases ei : i = k
      · subst ei
        rw [upd_same, hD.2.2] at e
        exact .inr ⟨i, hi, e⟩
      · rw [upd_other _ _ ei] at e
        exact .inr ⟨i, hi, e⟩
  refine ⟨CH.1, fun i hi => ?_, fun i hi => ?_, fun j hj => h.foot j (fo j hj), ?_, h.cells.trans CH.2.2.2⟩
  · by_cases ei : i = k
    · subst ei
      rw [upd_same]
    · rw [upd_other _ _ ei]
      exact h.done i (by omega)
  · rw [upd_other _ _ (by omega), upd_other _ _ (by omega)]
    exact h.rest i (by omega)
  · have t := CH.2.1
    exact h.touch.trans ⟨t.os, t.tape, t.output, t.size, fun j hj hn => t.block j hj (fun e => hn (h.foot j e))⟩

theorem QSwRaw.post {w0 wr : World} {b so : Nat} {vs vs' : Nat → Value} {Ls Ls' : Nat → List Ver} {a0 a1 a2 a3 : Int} {F : Nat → Prop} {l : List Hd} (h : QSwRaw w0 b so vs Ls a0 a1 a2 a3 8 vs' Ls' wr) (R : QRaw w0 b so vs Ls) (PH : PgHolds Ls l) (hF : ∀ k, F k ↔ footP b vs k) (ha : Apart l) : QPost w0 b so F (sweepL a0 a1 a2 a3 l) wr := by
  refine ⟨footP b vs', ⟨vs', Ls', h.raw, ⟨fun k hk => ?_, fun x hx => PH.keys x (List.mem_filter.1 hx).1⟩, fun _ => Iff.rfl⟩, fun j hj => .inl ((hF j).2 (h.foot j hj)), ⟨h.touch.os, h.touch.tape, h.touch.output, h.touch.size, fun j hj hn => h.touch.block j hj (fun e => hn ((hF j).2 e))⟩, h.cells⟩
  rw [h.done k hk]
  exact sweep_key (PH.perm k hk) (PH.qlast R ha hk a0 a1 a2 a3)

set_option maxRecDepth 100000 in
set_option maxHeartbeats 8000000 in
theorem qSweep_any {b so : Nat} {F : Nat → Prop} {l : List Hd} (a0 a1 a2 a3 : Int) (w : World) (hS : QStP w b so F l) (hl : l.length ≤ 1000) (ha : Apart l) (ho : ∀ h ∈ l, okVer h.v = true) :
    Calls Tryz.prog 221 #[.pointer (some ⟨b, so, none⟩), .agg #[.int .i64 a0, .int .i64 a1, .int .i64 a2, .int .i64 a3]] w fun e w' => e = .returned (.tuple #[]) ∧ QPost w b so F (sweepL a0 a1 a2 a3 l) w' := by
  obtain ⟨vs, Ls, R, PH, hF⟩ := id hS
  have RA := RowL.new (w := w) (T := 77) [.int .i64 a0, .int .i64 a1, .int .i64 a2, .int .i64 a3] rfl
  have hb := boxed (Below.refl _ w) (.cells #[.int .i64 a0, .int .i64 a1, .int .i64 a2, .int .i64 a3] 77)
  have R1 := R.later hb
  have S0 : QSwRaw w b so vs Ls a0 a1 a2 a3 0 vs Ls (w.alloc (.cells #[.int .i64 a0, .int .i64 a1, .int .i64 a2, .int .i64 a3] 77)) := ⟨R1, fun i hi => by omega, fun i _ => ⟨rfl, rfl⟩, fun j hj => hj, Touch.ofBelow hb, RestO.ofBlock (hb.block b R.box.lt)⟩
  have k0 : (w.alloc (.cells #[.int .i64 a0, .int .i64 a1, .int .i64 a2, .int .i64 a3] 77)).cell? ⟨b, so, none⟩ = some (vs 0) := R1.cell (k := 0) (by omega)
  have k1 := R1.cell (k := 1) (by omega)
  have k2 := R1.cell (k := 2) (by omega)
  have k3 := R1.cell (k := 3) (by omega)
  have k4 := R1.cell (k := 4) (by omega)
  have k5 := R1.cell (k := 5) (by omega)
  have k6 := R1.cell (k := 6) (by omega)
  have k7 := R1.cell (k := 7) (by omega)
  have HA : Hid (Apart l) := ha
  have HO : Hid (∀ h ∈ l, okVer h.v = true) := ho
  have hLs : ∀ k, k < 8 → (Ls k).length ≤ 1000 := fun k hk => Nat.le_trans (PH.len hk) hl
  have HL : Hid (∀ k, k < 8 → (Ls k).length ≤ 1000) := hLs
  have HSI : Hid (∀ k, k < 8 → ∀ v ∈ Ls k, 0 ≤ v.site ∧ v.site ≤ 3) := fun k hk => PH.sites ho hk
  clear ha ho hLs R1
  go_enter Tryz.func221, Tryz.ntmps221
  go_wp2_with fail
  clear k0 k1 k2 k3 k4 k5 k6 k7
  obtain ⟨W, hWW⟩ : ∃ W, w.alloc (.cells #[.int .i64 a0, .int .i64 a1, .int .i64 a2, .int .i64 a3] 77) = W := ⟨_, rfl⟩
  rw [hWW] at RA S0 ⊢
  clear hWW hb
  go_loopw [12] (fun iv wr => ∃ (k : Nat) (z : Int) (vs' : Nat → Value) (Ls' : Nat → List Ver), k ≤ 8 ∧ z = k ∧ iv = .int .i64 z ∧ Hid (QSwRaw w b so vs Ls a0 a1 a2 a3 k vs' Ls' wr) ∧ RowL wr w.heap.size [.int .i64 a0, .int .i64 a1, .int .i64 a2, .int .i64 a3]) (fun i _ => 8 - (intOf i).toNat)
  case atStart => exact ⟨0, 0, vs, Ls, by omega, rfl, rfl, S0, RA⟩
  case round =>
    clear S0 RA
    obtain ⟨k, z, vs', Ls', hk, hz, rfl, SW, RA⟩ := hrel
    have HZ : Hid (z = k) := hz
    by_cases hlt : k < 8
    · have h1 : z < 8 := by omega
      have h3 : 0 ≤ z := by omega
      have h2 : z.toNat = k := by omega
      obtain ⟨a, c, e, hV⟩ := vsIn_own (R.own k hlt)
      have ix := index8 vs hlt hz
      rw [e] at ix
      have c0 := RA.cell 0 _ rfl
      have c1 := RA.cell 1 _ rfl
      have c2 := RA.cell 2 _ rfl
      have c3 := RA.cell 3 _ rfl
      have ownk : wr.ownsRow 0 130 6 (.slice a (Ls k).length c) (Ls k).length (versL (Ls k)) := by
        have := SW.out.raw.own k hlt
        rw [(SW.out.rest k (Nat.le_refl _)).1, (SW.out.rest k (Nat.le_refl _)).2, e] at this
        exact this
      have hVr : VsIn wr a c (Ls k) := by
        obtain ⟨a', c', e', h'⟩ := vsIn_own ownk
        injection e' with e1 e2 e3
        subst e1 e3
        exact h'
      obtain ⟨st, hst⟩ : ∃ st, (lastB a0 a1 a2 a3 (Ls k)).getD ver0 = st := ⟨_, rfl⟩
      obtain ⟨sb, hsb⟩ : ∃ sb, someB (lastB a0 a1 a2 a3 (Ls k)) = sb := ⟨_, rfl⟩
      have LA := last_any a0 a1 a2 a3 wr hVr (HSI.out k hlt) (HL.out k hlt)
      rw [bestL_eq, hst, hsb] at LA
      have ST : Hid ((lastB a0 a1 a2 a3 (Ls k)).getD ver0 = st) := hst
      have EV : Hid (vs k = .slice a (Ls k).length c) := e
      clear hz hst hsb hV hVr e
      go_wp2_with fail
      refine LA.mono ?_
      rintro e w1 ⟨rfl, hb1⟩
      replace RA := RA.later hb1
      replace ownk := own_below6 ownk hb1
      have S1 : Hid (QSwRaw w b so vs Ls a0 a1 a2 a3 k vs' Ls' w1) := SW.out.later hb1
      clear LA SW c0 c1 c2 c3 hb1
      rw [show (verL st).toArray = #[.int .i64 st.wall, .int .i64 st.count, .int .i64 st.site, .int .i64 st.seq, .string st.data, .bool st.gone] from rfl]
      have hbx := boxed (Below.refl _ w1) (.cells #[.int .i64 st.wall, .int .i64 st.count, .int .i64 st.site, .int .i64 st.seq, .string st.data, .bool st.gone] 130)
      have RS2 := RowL.new (w := w1) (T := 130) (verL st) rfl
      change RowL (w1.alloc (.cells #[.int .i64 st.wall, .int .i64 st.count, .int .i64 st.site, .int .i64 st.seq, .string st.data, .bool st.gone] 130)) w1.heap.size (verL st) at RS2
      replace RA := RA.later hbx
      replace ownk := own_below6 ownk hbx
      replace S1 := S1.out.later hbx
      have olt : ∀ g, (Value.slice a (Ls k).length c).ownBlock = some g → g < w.heap.size := fun g hg => ((R.own k hlt).lt g (by rw [EV.out]; exact hg)).2
      have hsz := S1.touch.size
      obtain ⟨W2, hW2⟩ : ∃ W2, w1.alloc (.cells #[.int .i64 st.wall, .int .i64 st.count, .int .i64 st.site, .int .i64 st.seq, .string st.data, .bool st.gone] 130) = W2 := ⟨_, rfl⟩
      rw [hW2] at RS2 RA ownk S1
      have e1 : W2.heap.size = w1.heap.size + 1 := by rw [← hW2]; simp
      have hw1 : w.heap.size ≤ w1.heap.size := by rw [hW2] at hsz; have := RA.lt; omega
      have S2 : Hid (QSwRaw w b so vs Ls a0 a1 a2 a3 k vs' Ls' W2.drew) := S1.later (Below.refl _ W2).drew
      have DE : Hid (Calls Tryz.prog 261 #[.slice a (Ls k).length c, .func (.func 262) #[] #[.pointer (some ⟨w.heap.size, 0, none⟩), .pointer (some ⟨w1.heap.size, 0, none⟩)]] W2.drew fun e w' =>
          ∃ v', e = .returned v' ∧ DelPost W2.drew (.slice a (Ls k).length c) ((Ls k).filter fun v => !delV a0 a1 a2 a3 st v) v' w') :=
        delete_any W2.drew ownk (HSI.out k hlt) (HL.out k hlt) RA.drew RS2.drew (fun h => by have := olt _ h; omega) (fun h => by have := olt _ h; omega)
      have bcell := S1.raw.cell hlt
      rw [(S1.rest k (Nat.le_refl _)).2, EV.out] at bcell
      have bfree := S1.raw.free hlt
      have hap := S1.raw.apart k hlt
      rw [(S1.rest k (Nat.le_refl _)).2, EV.out] at hap
      have hbl := S1.raw.box.lt
      clear ownk RS2 hbx S1 hsz e1
      go_wp2_with fail
      go_region_law (
        refine step_call rfl 261 #[.slice a (Ls k).length c, .func (.func 262) #[] #[.pointer (some ⟨w.heap.size, 0, none⟩), .pointer (some ⟨w1.heap.size, 0, none⟩)]] (by go_simp) DE.out ?_
        rintro e w8 ⟨v', rfl, DP⟩
        refine ⟨_, rfl, ?_⟩
        have HD : Hid (DelPost W2.drew (.slice a (Ls k).length c) ((Ls k).filter fun v => !delV a0 a1 a2 a3 st v) v' w8) := DP
        have eb := DP.2.1.block b hbl (fun e => hap e.symm)
        have c8 : w8.cell? ⟨b, so + k, none⟩ = some (.slice a (Ls k).length c) := by rw [World.cell?_of_block (w := W2.drew) eb]; exact bcell
        have f8 : w8.frozen? ⟨b, so + k, none⟩ = false := by rw [World.frozen?_of_block (w := W2.drew) eb]; exact bfree
        obtain ⟨a9, c9, hv9, _⟩ := vsIn_own DP.1
        subst hv9
        clear DP eb)
      all_goals
        have HD2 : DelPost W2.drew (vs' k) (sweptL a0 a1 a2 a3 (Ls k)) (.slice a9 ((Ls k).filter fun v => !delV a0 a1 a2 a3 st v).length c9) w8 := by
          rw [(S2.out.rest k (Nat.le_refl _)).2, EV.out]
          unfold sweptL
          rw [ST.out]
          exact HD.out
        have SN : Hid (QSwRaw w b so vs Ls a0 a1 a2 a3 (k + 1) (upd vs' k (.slice a9 ((Ls k).filter fun v => !delV a0 a1 a2 a3 st v).length c9)) (upd Ls' k (sweptL a0 a1 a2 a3 (Ls k))) (w8.setCell ⟨b, so + k, none⟩ (.slice a9 ((Ls k).filter fun v => !delV a0 a1 a2 a3 st v).length c9))) := S2.out.next hlt HD2
        have hwb : w.heap.size ≠ b := by have := R.box.lt; omega
        have RA8 : RowL w8 w.heap.size [.int .i64 a0, .int .i64 a1, .int .i64 a2, .int .i64 a3] := RA.drew.grown HD.out.2.1 (fun e => by have := olt _ e.symm; omega)
        have RA9 := RA8.far ⟨b, so + k, none⟩ (.slice a9 ((Ls k).filter fun v => !delV a0 a1 a2 a3 st v).length c9) (Ne.symm hwb)
        obtain ⟨W9, hW9⟩ : ∃ W9, w8.setCell ⟨b, so + k, none⟩ (.slice a9 ((Ls k).filter fun v => !delV a0 a1 a2 a3 st v).length c9) = W9 := ⟨_, rfl⟩
        rw [hW9] at SN RA9 ⊢
        clear hW9 HD2 RA8 c8 f8
        go_wp2_with fail
        go_roundw
        case rel => exact ⟨k + 1, z + 1, _, _, by omega, by have := HZ.out; omega, by go_num, SN, RA9⟩
        case measure => simp [intOf]; have := HZ.out; omega
    · obtain rfl : k = 8 := by omega
      have h1 : ¬ z < 8 := by omega
      clear hz
      go_wp2_with fail
      go_end0
      exact ⟨rfl, SW.out.post R PH hF HA.out⟩
end Go.Proofs.YtoanjdndmlffdaaGreatDoor
