/-
  The arguments' shapes, opened: a slice of versions of keys (copsekeep.Put).
-/
import Derived.Test.YtnbgjiibpnoieaaDoorOpenTx
import Derived.Test.YtnbgjiibpnoieaaDoorVersions
namespace Go.Proofs.YtnbgjiibpnoieaaDoor
open Go.ChangeShapes Go.WideShapes Go.ChangeAt Go.RowKit Go.Joins Go.Deep
set_option maxRecDepth 100000

theorem cellsVer7 : Tryd.prog.cellsOf 71 = 6 := by kernel_rfl
theorem cellsHd : Tryd.prog.cellsOf 90 = 7 := by kernel_rfl

theorem list7 {α : Type} {l : List α} (h : l.length = 7) : ∃ a b c d e f g, l = [a, b, c, d, e, f, g] := by
  match l, h with
  | [a, b, c, d, e, f, g], _ => exact ⟨a, b, c, d, e, f, g, rfl⟩
theorem list2' {α : Type} {l : List α} (h : l.length = 2) : ∃ a b, l = [a, b] := by
  match l, h with
  | [a, b], _ => exact ⟨a, b, rfl⟩

section
variable {H : Type} {enc : TypeId × Value → H} {W : World}

/-- a version's six cells -/
theorem open_ver7 {fuel : Nat} {c0 c1 c2 c3 c4 c5 : Value} {x : DataW H × List MemPlace} (h : DataW.trod enc Tryd.prog W 0 (fun _ => true) true fuel 71 [c0, c1, c2, c3, c4, c5] = some x) :
    ∃ v : Ver, [c0, c1, c2, c3, c4, c5] = verL v := by
  obtain ⟨xs, n, _, _, _, hlen, hfl⟩ := DataW.trod_struct Tryd.underlying71 h
  obtain ⟨y0, y1, y2, y3, y4, rfl⟩ := list5 hlen
  have f0 := hfl 0 _ rfl
  have f1 := hfl 1 _ rfl
  have f2 := hfl 2 _ rfl
  have f3 := hfl 3 _ rfl
  have f4 := hfl 4 _ rfl
  simp [cellsInt, cellsS, cellsStr, cellsBool] at f0 f1 f2 f3 f4
  obtain ⟨z0, z1, n2, _, _, g0, g1⟩ := trod_struct2 Tryd.underlying23 f0
  obtain ⟨wall, e0, _, _⟩ := DataW.trod_int Tryd.underlying3 g0
  obtain ⟨count, e1, _, _⟩ := DataW.trod_int Tryd.underlying3 g1
  obtain ⟨site, e2, _, _⟩ := DataW.trod_int Tryd.underlying3 f1
  obtain ⟨seq, e3, _, _⟩ := DataW.trod_int Tryd.underlying3 f2
  obtain ⟨data, e4, _, _⟩ := DataW.trod_string Tryd.underlying9 f3
  obtain ⟨gone, e5, _⟩ := DataW.trod_bool Tryd.underlying4 f4
  simp [cellsInt] at e0 e1 e2 e3 e4 e5
  subst e0 e1 e2 e3 e4 e5
  exact ⟨⟨wall, count, site, seq, data, gone⟩, rfl⟩

/-- seven cells -/
theorem open_hd {fuel : Nat} {cs : List Value} {x : DataW H × List MemPlace} (h : DataW.trod enc Tryd.prog W 0 (fun _ => true) true fuel 90 cs = some x) : ∃ p : Hd, cs = hdL p := by
  obtain ⟨xs, n, _, _, hl, hlen, hfl⟩ := DataW.trod_struct Tryd.underlying90 h
  rw [cellsHd] at hl
  obtain ⟨c0, c1, c2, c3, c4, c5, c6, rfl⟩ := list7 hl
  obtain ⟨y0, y1, rfl⟩ := list2' hlen
  have f0 := hfl 0 _ rfl
  have f1 := hfl 1 _ rfl
  simp [cellsInt, cellsVer7] at f0 f1
  obtain ⟨key, e0, _, _⟩ := DataW.trod_int Tryd.underlying3 f0
  obtain ⟨v, ev⟩ := open_ver7 f1
  simp at e0
  simp only [verL, List.cons.injEq, and_true] at ev
  obtain ⟨w0, w1, w2, w3, w4, w5⟩ := ev
  subst e0 w0 w1 w2 w3 w4 w5
  exact ⟨⟨key, v⟩, rfl⟩

/-- a slice of them: they, where they lie -/
theorem open_hds {r : Reach} {b0 : Nat} {v : Value} {d : DataW H} {p : List MemPlace}
    (hv : Value.okWide Tryd.prog W r b0 86 v) (h : DataW.Trod enc Tryd.prog W 0 (fun _ => true) true 86 v d p) :
    ∃ (a : Option Addr) (cap : Nat) (l : List Hd), v = .slice a l.length cap ∧ HdIn W a cap l := by
  obtain ⟨a0, len0, cap0, rfl⟩ := okWide_slice Tryd.underlying86 hv
  obtain ⟨fuel, hf⟩ := h
  rcases open_slice Tryd.underlying86 hf with ⟨hc, _⟩ | ⟨a, len, cap, m, n, D, Pl, hc, _, hl, hm, hmm, _, hx⟩
  · have e : Value.slice a0 len0 cap0 = .slice none 0 0 := by simpa [Value.cells] using hc
    rw [e]
    exact ⟨none, 0, [], rfl, ⟨by simp, by omega, .inl rfl⟩⟩
  · have e : Value.slice a0 len0 cap0 = .slice (some a) len cap := by simpa [Value.cells] using hc
    rw [e]
    simp at hmm
    have hcap : cap ≤ 9223372036854775807 := by unfold maxLen at hm; omega
    rcases Nat.eq_zero_or_pos len with rfl | hpos
    · exact ⟨some a, cap, [], rfl, ⟨by simp, hcap, .inl rfl⟩⟩
    · have inh : Inhabited Hd := ⟨⟨0, ver0⟩⟩
      have hx' : ∀ i, i < len → ∃ y : Hd, ∀ r u, (hdL y)[r]? = some u → W.cell? ((a.add (i * 7)).add r) = some u := fun i hi => by
        obtain ⟨cs', h1, h2⟩ := hx i (by omega)
        rw [cellsHd] at h1
        obtain ⟨y, rfl⟩ := open_hd h2
        obtain ⟨_, _, hcell⟩ := World.cells?_some h1
        refine ⟨y, fun r u hu => ?_⟩
        have hr : r < 7 := by have := (List.getElem?_eq_some_iff.1 hu).1; simpa [hdL] using this
        have := hcell r hr
        rw [this]
        exact hu
      obtain ⟨f, hf⟩ := choose_lt hx'
      obtain ⟨b, off, spot⟩ := a
      have hspot : spot = none := by simpa [Addr.add] using World.cell?_spot (hf 0 hpos 0 _ rfl)
      subst hspot
      refine ⟨some ⟨b, off, none⟩, cap, (List.range len).map f, by simp, ⟨by simpa using hl, hcap, .inr ⟨b, off, rfl, fun i r u hi hu => ?_⟩⟩⟩
      have hi' : i < len := by simpa using hi
      have e : hdAt ((List.range len).map f) i = f i := by simp [hdAt, List.getD, hi']
      rw [e] at hu
      have := hf i hi' r u hu
      simp only [addPlain] at this
      rw [← Nat.add_assoc]
      exact this

end
end Go.Proofs.YtnbgjiibpnoieaaDoor
