/-
  Versions of keys: what the last one is, whatever the order in which they are looked at; what a sweep leaves; no Go in sight.
-/
import Derived.Test.YtnbgjiibpnoieaaDoorRefTold
namespace Go.Proofs.YtnbgjiibpnoieaaDoor
open Go.RowKit

theorem beforeV_iff {a b : Ver} : beforeV a b = true ↔ a.wall < b.wall ∨ (a.wall = b.wall ∧ (a.count < b.count ∨ (a.count = b.count ∧ a.site < b.site))) := by
  unfold beforeV
  rcases cmpS_cases a.wall a.count b.wall b.count with ⟨h, e⟩ | ⟨h, e⟩ | ⟨h, e⟩
  · rw [e, if_neg (by decide)]
    simp only [show decide ((-1 : Int) < 0) = true from rfl, true_iff]
    omega
  · rw [e, if_pos rfl]
    simp only [decide_eq_true_eq]
    omega
  · rw [e, if_neg (by decide)]
    simp only [show decide ((1 : Int) < 0) = false from rfl, Bool.false_eq_true, false_iff]
    omega

/-- of one stamp and site -/
def Twin (a b : Ver) : Prop := a.wall = b.wall ∧ a.count = b.count ∧ a.site = b.site
theorem beforeV_twin {a b : Ver} (h1 : beforeV a b = false) (h2 : beforeV b a = false) : Twin a b := by
  have n1 : ¬ beforeV a b = true := by rw [h1]; decide
  have n2 : ¬ beforeV b a = true := by rw [h2]; decide
  rw [beforeV_iff] at n1 n2
  unfold Twin
  omega
theorem beforeV_irrefl (a : Ver) : beforeV a a = false := by
  cases h : beforeV a a
  · rfl
  · rw [beforeV_iff] at h
    omega
/-- what is not earlier than an earlier one's later is not earlier -/
theorem beforeV_trans {a b c : Ver} (h1 : beforeV b a = true) (h2 : beforeV b c = false) : beforeV a c = false := by
  cases h : beforeV a c
  · rfl
  · exfalso
    have n2 : ¬ beforeV b c = true := by rw [h2]; decide
    rw [beforeV_iff] at h h1 n2
    omega

/-- v is the last one of the key among those that the vector has: one of them, none of them behind it -/
def IsLast (key a0 a1 a2 a3 : Int) (l : List Hd) (v : Ver) : Prop := (∃ h ∈ l, h.v = v ∧ h.key = key ∧ hasV a0 a1 a2 a3 v = true) ∧ ∀ h ∈ l, h.key = key → hasV a0 a1 a2 a3 h.v = true → beforeV v h.v = false

theorem foldl_last (key a0 a1 a2 a3 : Int) : ∀ (l p : List Hd) (best : Option Ver),
    (best = none → ∀ h ∈ p, h.key = key → hasV a0 a1 a2 a3 h.v = false) → (∀ v, best = some v → IsLast key a0 a1 a2 a3 p v) →
    (l.foldl (stepV key a0 a1 a2 a3) best = none → ∀ h ∈ p ++ l, h.key = key → hasV a0 a1 a2 a3 h.v = false) ∧ (∀ v, l.foldl (stepV key a0 a1 a2 a3) best = some v → IsLast key a0 a1 a2 a3 (p ++ l) v)
  | [], p, best, hn, hs => by simpa using ⟨hn, hs⟩
  | x :: l, p, best, hn, hs => by
    have key' : (stepV key a0 a1 a2 a3 best x = none → ∀ h ∈ p ++ [x], h.key = key → hasV a0 a1 a2 a3 h.v = false) ∧ (∀ v, stepV key a0 a1 a2 a3 best x = some v → IsLast key a0 a1 a2 a3 (p ++ [x]) v) := by
      cases best with
      | none =>
        by_cases hc : x.key = key ∧ hasV a0 a1 a2 a3 x.v = true
        · have e : stepV key a0 a1 a2 a3 none x = some x.v := stepV_some ⟨hc.1, hc.2, rfl⟩
          rw [e]
          refine ⟨fun h => (by cases h), fun v hv => ?_⟩
          injection hv with hv
          subst hv
          refine ⟨⟨x, by simp, rfl, hc.1, hc.2⟩, fun h hh hk hhas => ?_⟩
          rcases List.mem_append.1 hh with h1 | h1
          · have := hn rfl h h1 hk
            rw [hhas] at this
            cases this
          · obtain rfl := List.mem_singleton.1 h1
            exact beforeV_irrefl _
        · have e : stepV key a0 a1 a2 a3 none x = none := stepV_none (fun y => hc ⟨y.1, y.2.1⟩)
          rw [e]
          refine ⟨fun _ h hh hk => ?_, fun v hv => (by cases hv)⟩
          rcases List.mem_append.1 hh with h1 | h1
          · exact hn rfl h h1 hk
          · obtain rfl := List.mem_singleton.1 h1
            cases hq : hasV a0 a1 a2 a3 h.v
            · rfl
            · exact absurd ⟨hk, hq⟩ hc
      | some b =>
        obtain ⟨⟨y, hy, ey, ky, hhy⟩, hall⟩ := hs b rfl
        by_cases hc : x.key = key ∧ hasV a0 a1 a2 a3 x.v = true ∧ beforeV b x.v = true
        · have e : stepV key a0 a1 a2 a3 (some b) x = some x.v := stepV_some hc
          rw [e]
          refine ⟨fun h => (by cases h), fun v hv => ?_⟩
          injection hv with hv
          subst hv
          refine ⟨⟨x, by simp, rfl, hc.1, hc.2.1⟩, fun h hh hk hhas => ?_⟩
          rcases List.mem_append.1 hh with h1 | h1
          · exact beforeV_trans hc.2.2 (hall h h1 hk hhas)
          · obtain rfl := List.mem_singleton.1 h1
            exact beforeV_irrefl _
        · have e : stepV key a0 a1 a2 a3 (some b) x = some b := stepV_none hc
          rw [e]
          refine ⟨fun h => (by cases h), fun v hv => ?_⟩
          injection hv with hv
          subst hv
          refine ⟨⟨y, by simp [hy], ey, ky, hhy⟩, fun h hh hk hhas => ?_⟩
          rcases List.mem_append.1 hh with h1 | h1
          · exact hall h h1 hk hhas
          · obtain rfl := List.mem_singleton.1 h1
            cases hq : beforeV b h.v
            · rfl
            · exact absurd ⟨hk, hhas, hq⟩ hc
    have ih := foldl_last key a0 a1 a2 a3 l (p ++ [x]) (stepV key a0 a1 a2 a3 best x) key'.1 key'.2
    rw [List.append_assoc, List.singleton_append] at ih
    exact ih

theorem lastV_none {key a0 a1 a2 a3 : Int} {l : List Hd} (h : lastV key a0 a1 a2 a3 l = none) : ∀ x ∈ l, x.key = key → hasV a0 a1 a2 a3 x.v = false := by
  have := (foldl_last key a0 a1 a2 a3 l [] none (fun _ h hh => (by cases hh)) (fun v hv => (by cases hv))).1 h
  simpa using this
theorem lastV_some {key a0 a1 a2 a3 : Int} {l : List Hd} {v : Ver} (h : lastV key a0 a1 a2 a3 l = some v) : IsLast key a0 a1 a2 a3 l v := by
  have := (foldl_last key a0 a1 a2 a3 l [] none (fun _ h hh => (by cases hh)) (fun v hv => (by cases hv))).2 v h
  simpa using this

/-- no key has two of one stamp and site -/
def Apart (l : List Hd) : Prop := ∀ x ∈ l, ∀ y ∈ l, x.key = y.key → Twin x.v y.v → x = y
theorem isLast_one {key a0 a1 a2 a3 : Int} {l : List Hd} {u v : Ver} (hl : Apart l) (hu : IsLast key a0 a1 a2 a3 l u) (hv : IsLast key a0 a1 a2 a3 l v) : u = v := by
  obtain ⟨⟨x, hx, ex, kx, hhx⟩, hax⟩ := hu
  obtain ⟨⟨y, hy, ey, ky, hhy⟩, hay⟩ := hv
  subst ex ey
  have := hl x hx y hy (by rw [kx, ky]) (beforeV_twin (hax y hy ky hhy) (hay x hx kx hhx))
  rw [this]
/-- the last one depends on what is held alone -/
theorem lastV_iff {key a0 a1 a2 a3 : Int} {l : List Hd} {v : Ver} (hl : Apart l) : lastV key a0 a1 a2 a3 l = some v ↔ IsLast key a0 a1 a2 a3 l v := by
  refine ⟨lastV_some, fun h => ?_⟩
  cases e : lastV key a0 a1 a2 a3 l with
  | none =>
    obtain ⟨⟨x, hx, ex, kx, hhx⟩, _⟩ := h
    have := lastV_none e x hx kx
    rw [ex, hhx] at this
    cases this
  | some u => rw [isLast_one hl (lastV_some e) h]
theorem apart_put {l : List Hd} {key : Int} {v : Ver} (hl : Apart l) : Apart (putL l key v) := by
  unfold putL
  split
  · rename_i h
    have hn : l.any (twinB key v) = false := by
      unfold putE at h
      split at h
      · split at h
        · split at h
          · cases h
          · rename_i hx
            simpa using hx
        · cases h
      · cases h
    rw [List.any_eq_false] at hn
    have tw : ∀ x ∈ l, x.key = key → ¬ Twin x.v v := fun x hx hk ht => hn x hx (by simp [twinB, hk, ht.1, ht.2.1, ht.2.2])
    intro x hx y hy hk ht
    rcases List.mem_append.1 hx with h1 | h1 <;> rcases List.mem_append.1 hy with h2 | h2
    · exact hl x h1 y h2 hk ht
    · obtain rfl := List.mem_singleton.1 h2
      exact absurd ht (tw x h1 hk)
    · obtain rfl := List.mem_singleton.1 h1
      exact absurd ⟨ht.1.symm, ht.2.1.symm, ht.2.2.symm⟩ (tw y h2 hk.symm)
    · rw [List.mem_singleton.1 h1, List.mem_singleton.1 h2]
  · exact hl
theorem apart_sub {l m : List Hd} (hl : Apart l) (h : ∀ x ∈ m, x ∈ l) : Apart m := fun x hx y hy => hl x (h x hx) y (h y hy)

end Go.Proofs.YtnbgjiibpnoieaaDoor
