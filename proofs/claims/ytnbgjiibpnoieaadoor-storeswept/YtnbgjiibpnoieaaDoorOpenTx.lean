/-
  The arguments' shapes, opened: a transaction by value is eight ints and a slice of writes.
-/
import Derived.Test.YtnbgjiibpnoieaaDoorOpen0
import Derived.Test.YtnbgjiibpnoieaaDoorWrites
import Derived.Laws.IdiomArrays
import Derived.Deep.Slices
import Derived.Deep.Strs
namespace Go.Proofs.YtnbgjiibpnoieaaDoor
open Go.ChangeShapes Go.WideShapes Go.ChangeAt Go.RowKit Go.Joins Go.Deep
set_option maxRecDepth 100000

theorem cellsS : Tryd.prog.cellsOf 23 = 2 := by kernel_rfl
theorem cellsV : Tryd.prog.cellsOf 37 = 4 := by kernel_rfl
theorem cellsTx : Tryd.prog.cellsOf 40 = 9 := by kernel_rfl
theorem cellsWs : Tryd.prog.cellsOf 38 = 1 := by kernel_rfl
theorem cellsWr : Tryd.prog.cellsOf 99 = 3 := by kernel_rfl
theorem cellsStr : Tryd.prog.cellsOf 9 = 1 := by kernel_rfl
theorem cellsBool : Tryd.prog.cellsOf 4 = 1 := by kernel_rfl

theorem array9 {α : Type} {cs : Array α} (h : cs.size = 9) : ∃ c0 c1 c2 c3 c4 c5 c6 c7 c8, cs = #[c0, c1, c2, c3, c4, c5, c6, c7, c8] := by
  obtain ⟨l⟩ := cs
  match l, h with
  | [c0, c1, c2, c3, c4, c5, c6, c7, c8], _ => exact ⟨c0, c1, c2, c3, c4, c5, c6, c7, c8, rfl⟩

theorem list3 {α : Type} {l : List α} (h : l.length = 3) : ∃ a b c, l = [a, b, c] := by
  match l, h with
  | [a, b, c], _ => exact ⟨a, b, c, rfl⟩
theorem list5 {α : Type} {l : List α} (h : l.length = 5) : ∃ a b c d e, l = [a, b, c, d, e] := by
  match l, h with
  | [a, b, c, d, e], _ => exact ⟨a, b, c, d, e, rfl⟩
theorem addPlain (b off i : Nat) : (⟨b, off, none⟩ : Addr).add i = ⟨b, off + i, none⟩ := by unfold Addr.add; split <;> simp_all

section
variable {H : Type} {enc : TypeId × Value → H} {W : World}

/-- a write's three cells -/
theorem open_write {fuel : Nat} {cs : List Value} {x : DataW H × List MemPlace} (h : DataW.trod enc Tryd.prog W 0 (fun _ => true) true fuel 99 cs = some x) :
    ∃ y : Wr, cs = [.int .i64 y.key, .string y.data, .bool y.gone] := by
  obtain ⟨y0, y1, y2, n, _, hl, h0, h1, h2⟩ := trod_struct3 Tryd.underlying99 h
  rw [cellsWr] at hl
  obtain ⟨c0, c1, c2, rfl⟩ := list3 hl
  · obtain ⟨key, e0, _, _⟩ := DataW.trod_int Tryd.underlying3 h0
    obtain ⟨data, e1, _, _⟩ := DataW.trod_string Tryd.underlying9 h1
    obtain ⟨gone, e2, _⟩ := DataW.trod_bool Tryd.underlying4 h2
    simp [cellsInt, cellsStr, cellsBool] at e0 e1 e2
    subst e0 e1 e2
    exact ⟨⟨key, data, gone⟩, rfl⟩

/-- a slice of writes: the writes, where they lie -/
theorem open_writes {fuel : Nat} {c : Value} {x : DataW H × List MemPlace} (h : DataW.trod enc Tryd.prog W 0 (fun _ => true) true fuel 38 [c] = some x) :
    ∃ (a : Option Addr) (cap : Nat) (l : List Wr), c = .slice a l.length cap ∧ WrIn W a cap l := by
  rcases open_slice Tryd.underlying38 h with ⟨hc, _⟩ | ⟨a, len, cap, m, n, D, Pl, hc, _, hl, hm, hmm, _, hx⟩
  · simp at hc
    exact ⟨none, 0, [], by simpa using hc, ⟨by simp, by omega, .inl rfl⟩⟩
  · simp at hc
    subst hc
    simp at hmm
    have hcap : cap ≤ 9223372036854775807 := by unfold maxLen at hm; omega
    rcases Nat.eq_zero_or_pos len with rfl | hpos
    · exact ⟨some a, cap, [], rfl, ⟨by simp, hcap, .inl rfl⟩⟩
    · have inh : Inhabited Wr := ⟨⟨0, ⟨#[]⟩, false⟩⟩
      have hx' : ∀ i, i < len → ∃ y : Wr, W.cell? (a.add (i * 3)) = some (.int .i64 y.key) ∧ W.cell? ((a.add (i * 3)).add 1) = some (.string y.data) ∧ W.cell? ((a.add (i * 3)).add 2) = some (.bool y.gone) := fun i hi => by
        obtain ⟨cs', h1, h2⟩ := hx i (by omega)
        rw [cellsWr] at h1
        obtain ⟨y, rfl⟩ := open_write h2
        obtain ⟨_, _, hcell⟩ := World.cells?_some h1
        have k0 := hcell 0 (by omega)
        have k1 := hcell 1 (by omega)
        have k2 := hcell 2 (by omega)
        exact ⟨y, by simpa [Addr.add] using k0, by simpa using k1, by simpa using k2⟩
      obtain ⟨f, hf⟩ := choose_lt hx'
      obtain ⟨b, off, spot⟩ := a
      have hspot : spot = none := by simpa [Addr.add] using World.cell?_spot (hf 0 hpos).1
      subst hspot
      refine ⟨some ⟨b, off, none⟩, cap, (List.range len).map f, by simp, ⟨by simpa using hl, hcap, .inr ⟨b, off, rfl, fun i hi => ?_⟩⟩⟩
      have hi' : i < len := by simpa using hi
      have e : wrAt ((List.range len).map f) i = f i := by simp [wrAt, List.getD, hi']
      rw [e]
      have := hf i hi'
      simp only [addPlain] at this
      exact this

/-- a transaction by value, opened -/
theorem open_tx {r : Reach} {b0 : Nat} {v : Value} {d : DataW H} {p : List MemPlace}
    (hv : Value.okWide Tryd.prog W r b0 40 v) (h : DataW.Trod enc Tryd.prog W 0 (fun _ => true) true 40 v d p) :
    ∃ (site seq wall count d0 d1 d2 d3 : Int) (a : Option Addr) (cap : Nat) (l : List Wr), v = .agg #[.int .i64 site, .int .i64 seq, .int .i64 wall, .int .i64 count, .int .i64 d0, .int .i64 d1, .int .i64 d2, .int .i64 d3, .slice a l.length cap] ∧ WrIn W a cap l := by
  simp only [Value.okWide, Tryd.underlying40] at hv
  obtain ⟨cs, rfl, hsz, _⟩ := hv
  obtain ⟨c0, c1, c2, c3, c4, c5, c6, c7, c8, rfl⟩ := array9 (hsz.trans cellsTx)
  obtain ⟨fuel, hf⟩ := h
  obtain ⟨xs, n, _, _, _, hlen, hfl⟩ := DataW.trod_struct Tryd.underlying40 hf
  obtain ⟨y0, y1, y2, y3, y4, rfl⟩ := list5 hlen
  · have f0 := hfl 0 _ rfl
    have f1 := hfl 1 _ rfl
    have f2 := hfl 2 _ rfl
    have f3 := hfl 3 _ rfl
    have f4 := hfl 4 _ rfl
    simp [Value.cells, cellsInt, cellsS, cellsV, cellsWs] at f0 f1 f2 f3 f4
    obtain ⟨site, e0, _, _⟩ := DataW.trod_int Tryd.underlying3 f0
    obtain ⟨seq, e1, _, _⟩ := DataW.trod_int Tryd.underlying3 f1
    obtain ⟨z0, z1, n2, _, _, g0, g1⟩ := trod_struct2 Tryd.underlying23 f2
    obtain ⟨wall, e2, _, _⟩ := DataW.trod_int Tryd.underlying3 g0
    obtain ⟨count, e3, _, _⟩ := DataW.trod_int Tryd.underlying3 g1
    obtain ⟨u0, u1, u2, u3, m, _, q0, q1, q2, q3⟩ := trod_array4 Tryd.underlying37 cellsInt f3
    obtain ⟨d0, e4, _, _⟩ := DataW.trod_int Tryd.underlying3 q0
    obtain ⟨d1, e5, _, _⟩ := DataW.trod_int Tryd.underlying3 q1
    obtain ⟨d2, e6, _, _⟩ := DataW.trod_int Tryd.underlying3 q2
    obtain ⟨d3, e7, _, _⟩ := DataW.trod_int Tryd.underlying3 q3
    obtain ⟨a, cap, l, e8, hW⟩ := open_writes f4
    simp [cellsInt] at e0 e1 e2 e3 e4 e5 e6 e7
    subst e0 e1 e2 e3 e4 e5 e6 e7 e8
    exact ⟨_, _, _, _, _, _, _, _, _, _, _, rfl, hW⟩

end
end Go.Proofs.YtnbgjiibpnoieaaDoor
