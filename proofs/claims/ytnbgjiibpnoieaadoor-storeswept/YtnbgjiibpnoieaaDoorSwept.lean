/-
  Versions of keys: that sweeping is not seen; no Go in sight.
-/
import Derived.Test.YtnbgjiibpnoieaaDoorStoreFacts
namespace Go.Proofs.YtnbgjiibpnoieaaDoor
open Go.RowKit

theorem beforeV_chain {a b c : Ver} (h1 : beforeV a b = true) (h2 : beforeV b c = true) : beforeV a c = true := by
  rw [beforeV_iff] at h1 h2 ⊢
  omega
theorem eqV_self (v : Ver) : eqV v v = true := by simp [eqV]

/-- lb is la, but for some that are behind another one that the vector has -/
structure Swept (a0 a1 a2 a3 : Int) (la lb : List Hd) : Prop where
  sub : ∀ h ∈ lb, h ∈ la
  over : ∀ h ∈ la, h ∈ lb ∨ ∃ g ∈ lb, g.key = h.key ∧ hasV a0 a1 a2 a3 g.v = true ∧ beforeV h.v g.v = true

variable {a0 a1 a2 a3 : Int} {la lb : List Hd}

theorem Swept.refl (l : List Hd) : Swept a0 a1 a2 a3 l l := ⟨fun _ h => h, fun _ h => .inl h⟩

/-- who has all by which was swept sees the same one last -/
theorem Swept.isLast {s0 s1 s2 s3 key : Int} {v : Ver} (S : Swept a0 a1 a2 a3 la lb) (hc : ∀ h ∈ la, hasV a0 a1 a2 a3 h.v = true → hasV s0 s1 s2 s3 h.v = true) :
    IsLast key s0 s1 s2 s3 la v ↔ IsLast key s0 s1 s2 s3 lb v := by
  constructor
  · rintro ⟨⟨h, hh, ev, hk, hhas⟩, all⟩
    refine ⟨?_, fun x hx => all x (S.sub x hx)⟩
    rcases S.over h hh with h1 | ⟨g, hg, gk, gh, gb⟩
    · exact ⟨h, h1, ev, hk, hhas⟩
    · have := all g (S.sub g hg) (gk.trans hk) (hc g (S.sub g hg) gh)
      rw [← ev, gb] at this
      cases this
  · rintro ⟨⟨h, hh, ev, hk, hhas⟩, all⟩
    refine ⟨⟨h, S.sub h hh, ev, hk, hhas⟩, fun x hx xk xh => ?_⟩
    rcases S.over x hx with h1 | ⟨g, hg, gk, gh, gb⟩
    · exact all x h1 xk xh
    · have hg' := all g hg (gk.trans xk) (hc g (S.sub g hg) gh)
      cases hq : beforeV v x.v
      · rfl
      · rw [beforeV_chain hq gb] at hg'
        cases hg'

theorem Swept.last {s0 s1 s2 s3 key : Int} (S : Swept a0 a1 a2 a3 la lb) (hc : ∀ h ∈ la, hasV a0 a1 a2 a3 h.v = true → hasV s0 s1 s2 s3 h.v = true) (ha : Apart la) (hb : Apart lb) :
    lastV key s0 s1 s2 s3 la = lastV key s0 s1 s2 s3 lb := by
  apply Option.ext
  intro v
  rw [lastV_iff ha, lastV_iff hb]
  exact S.isLast hc

/-- one more is put into both -/
theorem Swept.put {key : Int} {v : Ver} (S : Swept a0 a1 a2 a3 la lb) (hn : ∀ h ∈ la, twinB key v h = false) : Swept a0 a1 a2 a3 (putL la key v) (putL lb key v) := by
  have na : la.any (twinB key v) = false := by
    rw [List.any_eq_false]
    intro x hx
    rw [hn x hx]
    decide
  have nb : lb.any (twinB key v) = false := by
    rw [List.any_eq_false]
    intro x hx
    rw [hn x (S.sub x hx)]
    decide
  have e : putE la key v = putE lb key v := by simp only [putE, na, nb]
  unfold putL
  rw [e]
  split
  · refine ⟨fun h hh => ?_, fun h hh => ?_⟩
    · rcases List.mem_append.1 hh with h1 | h1
      · exact List.mem_append.2 (.inl (S.sub h h1))
      · exact List.mem_append.2 (.inr h1)
    · rcases List.mem_append.1 hh with h1 | h1
      · rcases S.over h h1 with h2 | ⟨g, hg, r⟩
        · exact .inl (List.mem_append.2 (.inl h2))
        · exact .inr ⟨g, List.mem_append.2 (.inl hg), r⟩
      · exact .inl (List.mem_append.2 (.inr h1))
  · exact S

/-- what a sweep drops is behind one that stays -/
theorem sweep_over (l : List Hd) (hl : Apart l) : Swept a0 a1 a2 a3 l (sweepL a0 a1 a2 a3 l) := by
  refine ⟨fun h hh => (List.mem_filter.1 hh).1, fun h hh => ?_⟩
  cases hk : keepV a0 a1 a2 a3 l h
  · right
    simp only [keepV, Bool.or_eq_false_iff] at hk
    obtain ⟨⟨k1, k2⟩, k3⟩ := hk
    have hhas : hasV a0 a1 a2 a3 h.v = true := by cases hq : hasV a0 a1 a2 a3 h.v <;> simp_all
    cases e : lastV h.key a0 a1 a2 a3 l with
    | none =>
      have := lastV_none e h hh rfl
      rw [hhas] at this
      cases this
    | some u =>
      rw [e] at k2
      have k2' : eqV u h.v = false := k2
      obtain ⟨⟨g, hg, gv, gk, gh⟩, all⟩ := lastV_some e
      subst gv
      have h1 := all h hh rfl hhas
      refine ⟨g, List.mem_filter.2 ⟨hg, ?_⟩, gk, gh, ?_⟩
      · unfold keepV
        rw [gk, e]
        simp [eqV_self]
      · cases hq : beforeV h.v g.v
        · have := hl g hg h hh gk (beforeV_twin h1 hq)
          rw [this, eqV_self] at k2'
          cases k2'
        · rfl
  · exact .inl (List.mem_filter.2 ⟨hh, hk⟩)

theorem Swept.trans {lc : List Hd} (S : Swept a0 a1 a2 a3 la lb) (T : Swept a0 a1 a2 a3 lb lc) : Swept a0 a1 a2 a3 la lc := by
  refine ⟨fun h hh => S.sub h (T.sub h hh), fun h hh => ?_⟩
  rcases S.over h hh with h1 | ⟨g, hg, gk, gh, gb⟩
  · exact T.over h h1
  · rcases T.over g hg with h2 | ⟨f, hf, fk, fh, fb⟩
    · exact .inr ⟨g, h2, gk, gh, gb⟩
    · exact .inr ⟨f, hf, fk.trans gk, fh, beforeV_chain gb fb⟩

/-- another sweep by the same vector -/
theorem Swept.sweep (S : Swept a0 a1 a2 a3 la lb) (hb : Apart lb) : Swept a0 a1 a2 a3 la (sweepL a0 a1 a2 a3 lb) := S.trans (sweep_over lb hb)

/-- what is held alone counts -/
theorem swept_same (h : ∀ x, x ∈ la ↔ x ∈ lb) : Swept a0 a1 a2 a3 la lb := ⟨fun x hx => (h x).2 hx, fun x hx => .inl ((h x).1 hx)⟩

/-- what may be of what is put, where no two are twins: all of it -/
theorem mem_putL {key : Int} {v : Ver} {l : List Hd} (hn : ∀ h ∈ l, twinB key v h = false) (x : Hd) : x ∈ putL l key v ↔ x ∈ l ∨ (inB key 0 7 = true ∧ okVer v = true ∧ x = ⟨key, v⟩) := by
  have na : l.any (twinB key v) = false := by
    rw [List.any_eq_false]
    intro x hx
    rw [hn x hx]
    decide
  unfold putL putE
  rw [na]
  cases h1 : inB key 0 7 <;> cases h2 : okVer v <;> simp

end Go.Proofs.YtnbgjiibpnoieaaDoor
