/-
  The arguments' shapes, opened: a slice of what is put into a store, or swept (copselaw.Put).
-/
import Derived.Test.YtnbgjiibpnoieaaDoorOpenTx
import Derived.Test.YtnbgjiibpnoieaaDoorVersions
namespace Go.Proofs.YtnbgjiibpnoieaaDoor
open Go.ChangeShapes Go.WideShapes Go.ChangeAt Go.RowKit Go.Joins Go.Deep
set_option maxRecDepth 100000

/-- what is done to a store -/
structure PutV where
  what : Int
  key : Int
  v : Ver
  a0 : Int
  a1 : Int
  a2 : Int
  a3 : Int
/-- its cells -/
def putC (p : PutV) : List Value := [.int .i64 p.what, .int .i64 p.key, .int .i64 p.v.wall, .int .i64 p.v.count, .int .i64 p.v.site, .int .i64 p.v.seq, .string p.v.data, .bool p.v.gone, .int .i64 p.a0, .int .i64 p.a1, .int .i64 p.a2, .int .i64 p.a3]
def put0 : PutV := ⟨0, 0, ver0, 0, 0, 0, 0⟩
def putAt (l : List PutV) (i : Nat) : PutV := l.getD i put0

/-- a slice that holds them: none, or its cells lie in one block -/
structure PutIn (w : World) (a : Option Addr) (cap : Nat) (l : List PutV) : Prop where
  len : l.length ≤ cap
  cap : cap ≤ 9223372036854775807
  held : l = [] ∨ ∃ b off, a = some ⟨b, off, none⟩ ∧ ∀ i r u, i < l.length → (putC (putAt l i))[r]? = some u → w.cell? ⟨b, off + (i * 12 + r), none⟩ = some u
theorem PutIn.later {w w' : World} {a : Option Addr} {cap : Nat} {l : List PutV} (hb : Below w.heap.size w w') (h : PutIn w a cap l) : PutIn w' a cap l :=
  ⟨h.len, h.cap, h.held.elim .inl fun ⟨b, off, e, c⟩ => .inr ⟨b, off, e, fun i r u hi hu => cell_later hb (c i r u hi hu)⟩⟩

theorem cellsVer : Tryd.prog.cellsOf 71 = 6 := by kernel_rfl
theorem cellsPut : Tryd.prog.cellsOf 73 = 12 := by kernel_rfl

theorem list6 {α : Type} {l : List α} (h : l.length = 6) : ∃ a b c d e f, l = [a, b, c, d, e, f] := by
  match l, h with
  | [a, b, c, d, e, f], _ => exact ⟨a, b, c, d, e, f, rfl⟩
theorem list4' {α : Type} {l : List α} (h : l.length = 4) : ∃ a b c d, l = [a, b, c, d] := by
  match l, h with
  | [a, b, c, d], _ => exact ⟨a, b, c, d, rfl⟩
theorem list12 {α : Type} {l : List α} (h : l.length = 12) : ∃ a b c d e f g h i j k m, l = [a, b, c, d, e, f, g, h, i, j, k, m] := by
  match l, h with
  | [a, b, c, d, e, f, g, h, i, j, k, m], _ => exact ⟨a, b, c, d, e, f, g, h, i, j, k, m, rfl⟩

section
variable {H : Type} {enc : TypeId × Value → H} {W : World}

/-- a version's six cells -/
theorem open_ver {fuel : Nat} {c0 c1 c2 c3 c4 c5 : Value} {x : DataW H × List MemPlace} (h : DataW.trod enc Tryd.prog W 0 (fun _ => true) true fuel 71 [c0, c1, c2, c3, c4, c5] = some x) :
    ∃ v : Ver, [c0, c1, c2, c3, c4, c5] = verL v := by
  obtain ⟨xs, n, _, _, _, hlen, hfl⟩ := DataW.trod_struct Tryd.underlying71 h
  obtain ⟨y0, y1, y2, y3, y4, rfl⟩ := list5 hlen
  have f0 := hfl 0 _ rfl
  have f1 := hfl 1 _ rfl
  have f2 := hfl 2 _ rfl
  have f3 := hfl 3 _ rfl
  have f4 := hfl 4 _ rfl
  simp [cellsInt, cellsS, cellsStr, cellsBool] at f0 f1 f2 f3 f4
  obtain ⟨z0, z1, n2, _, _, g0, g1⟩ := trod_struct2 Tryd.underlying23 f0
  obtain ⟨wall, e0, _, _⟩ := DataW.trod_int Tryd.underlying3 g0
  obtain ⟨count, e1, _, _⟩ := DataW.trod_int Tryd.underlying3 g1
  obtain ⟨site, e2, _, _⟩ := DataW.trod_int Tryd.underlying3 f1
  obtain ⟨seq, e3, _, _⟩ := DataW.trod_int Tryd.underlying3 f2
  obtain ⟨data, e4, _, _⟩ := DataW.trod_string Tryd.underlying9 f3
  obtain ⟨gone, e5, _⟩ := DataW.trod_bool Tryd.underlying4 f4
  simp [cellsInt] at e0 e1 e2 e3 e4 e5
  subst e0 e1 e2 e3 e4 e5
  exact ⟨⟨wall, count, site, seq, data, gone⟩, rfl⟩

/-- twelve cells -/
theorem open_put {fuel : Nat} {cs : List Value} {x : DataW H × List MemPlace} (h : DataW.trod enc Tryd.prog W 0 (fun _ => true) true fuel 73 cs = some x) : ∃ p : PutV, cs = putC p := by
  obtain ⟨xs, n, _, _, hl, hlen, hfl⟩ := DataW.trod_struct Tryd.underlying73 h
  rw [cellsPut] at hl
  obtain ⟨c0, c1, c2, c3, c4, c5, c6, c7, c8, c9, c10, c11, rfl⟩ := list12 hl
  obtain ⟨y0, y1, y2, y3, rfl⟩ := list4' hlen
  have f0 := hfl 0 _ rfl
  have f1 := hfl 1 _ rfl
  have f2 := hfl 2 _ rfl
  have f3 := hfl 3 _ rfl
  simp [cellsInt, cellsVer, cellsV] at f0 f1 f2 f3
  obtain ⟨what, e0, _, _⟩ := DataW.trod_int Tryd.underlying3 f0
  obtain ⟨key, e1, _, _⟩ := DataW.trod_int Tryd.underlying3 f1
  obtain ⟨v, ev⟩ := open_ver f2
  obtain ⟨u0, u1, u2, u3, m, _, q0, q1, q2, q3⟩ := trod_array4 Tryd.underlying37 cellsInt f3
  obtain ⟨a0, e4, _, _⟩ := DataW.trod_int Tryd.underlying3 q0
  obtain ⟨a1, e5, _, _⟩ := DataW.trod_int Tryd.underlying3 q1
  obtain ⟨a2, e6, _, _⟩ := DataW.trod_int Tryd.underlying3 q2
  obtain ⟨a3, e7, _, _⟩ := DataW.trod_int Tryd.underlying3 q3
  simp at e0 e1 e4 e5 e6 e7
  simp only [verL, List.cons.injEq, and_true] at ev
  obtain ⟨w0, w1, w2, w3, w4, w5⟩ := ev
  subst e0 e1 e4 e5 e6 e7 w0 w1 w2 w3 w4 w5
  exact ⟨⟨what, key, v, a0, a1, a2, a3⟩, rfl⟩

/-- a slice of them: they, where they lie -/
theorem open_puts {r : Reach} {b0 : Nat} {v : Value} {d : DataW H} {p : List MemPlace}
    (hv : Value.okWide Tryd.prog W r b0 61 v) (h : DataW.Trod enc Tryd.prog W 0 (fun _ => true) true 61 v d p) :
    ∃ (a : Option Addr) (cap : Nat) (l : List PutV), v = .slice a l.length cap ∧ PutIn W a cap l := by
  obtain ⟨a0, len0, cap0, rfl⟩ := okWide_slice Tryd.underlying61 hv
  obtain ⟨fuel, hf⟩ := h
  rcases open_slice Tryd.underlying61 hf with ⟨hc, _⟩ | ⟨a, len, cap, m, n, D, Pl, hc, _, hl, hm, hmm, _, hx⟩
  · have e : Value.slice a0 len0 cap0 = .slice none 0 0 := by simpa [Value.cells] using hc
    rw [e]
    exact ⟨none, 0, [], rfl, ⟨by simp, by omega, .inl rfl⟩⟩
  · have e : Value.slice a0 len0 cap0 = .slice (some a) len cap := by simpa [Value.cells] using hc
    rw [e]
    simp at hmm
    have hcap : cap ≤ 9223372036854775807 := by unfold maxLen at hm; omega
    rcases Nat.eq_zero_or_pos len with rfl | hpos
    · exact ⟨some a, cap, [], rfl, ⟨by simp, hcap, .inl rfl⟩⟩
    · have inh : Inhabited PutV := ⟨put0⟩
      have hx' : ∀ i, i < len → ∃ y : PutV, ∀ r u, (putC y)[r]? = some u → W.cell? ((a.add (i * 12)).add r) = some u := fun i hi => by
        obtain ⟨cs', h1, h2⟩ := hx i (by omega)
        rw [cellsPut] at h1
        obtain ⟨y, rfl⟩ := open_put h2
        obtain ⟨_, _, hcell⟩ := World.cells?_some h1
        refine ⟨y, fun r u hu => ?_⟩
        have hr : r < 12 := by have := (List.getElem?_eq_some_iff.1 hu).1; simpa [putC] using this
        have := hcell r hr
        rw [this]
        exact hu
      obtain ⟨f, hf⟩ := choose_lt hx'
      obtain ⟨b, off, spot⟩ := a
      have hspot : spot = none := by simpa [Addr.add] using World.cell?_spot (hf 0 hpos 0 _ rfl)
      subst hspot
      refine ⟨some ⟨b, off, none⟩, cap, (List.range len).map f, by simp, ⟨by simpa using hl, hcap, .inr ⟨b, off, rfl, fun i r u hi hu => ?_⟩⟩⟩
      have hi' : i < len := by simpa using hi
      have e : putAt ((List.range len).map f) i = f i := by simp [putAt, List.getD, hi']
      rw [e] at hu
      have := hf i hi' r u hu
      simp only [addPlain] at this
      rw [← Nat.add_assoc]
      exact this

end
end Go.Proofs.YtnbgjiibpnoieaaDoor
