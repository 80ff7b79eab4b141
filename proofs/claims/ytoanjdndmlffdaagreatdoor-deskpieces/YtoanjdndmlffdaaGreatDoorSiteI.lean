import Derived.Test.YtoanjdndmlffdaaGreatDoorSiteH
import Derived.Test.YtoanjdndmlffdaaGreatDoorPSesW
namespace Go.Proofs.YtoanjdndmlffdaaGreatDoor
open Go.RowKit
section
/-- what is always so of a world -/
structure WfW (W : WoS) : Prop where
  n1 : 1 ≤ W.n
  n4 : W.n ≤ 4
  c6 : W.c ≤ 6
  at_ : ∀ k, k < W.c → W.at_ k < W.n
  inv : ∀ i, i < W.n → InvS (W.S i)
  id : ∀ i, i < W.n → (W.S i).id = (i : Int)
  net : W.net.length ≤ 300
  wt : ∀ i, i < W.n → (W.S i).waits.length ≤ 40
  lok : ∀ i, i < W.n → ∀ x ∈ (W.S i).log, okT x = true
  to : ∀ g ∈ W.net, g.to < W.n
section
variable {w : World} {b : Nat} {G : Nat → Prop} {M : WoM} {W : WoS} {Gs : Nat → Nat → Prop}
theorem PWo.client (h : PWo w b M W Gs) {i : Nat} (hi : i < W.c) : ∃ cb cc, w.cell? ⟨b, 1, none⟩ = some (.slice (some ⟨cb, 0, none⟩) W.c cc) ∧ W.c ≤ cc ∧ cb < w.heap.size ∧ w.cell? ⟨cb, i * 2, none⟩ = some (.pointer (some ⟨M.bs i, 0, none⟩)) ∧ w.cell? ⟨cb, i * 2 + 1, none⟩ = some (.int .i64 (W.at_ i)) := by
  obtain ⟨a, cap, e, r⟩ := rowIn_own h.cr
  rcases r.held with h0 | ⟨g, rfl, hg, hc⟩
  · omega
  · have k := h.box.cell 1 _ rfl
    rw [e] at k
    exact ⟨g, cap, k, r.len, hg, hc _ _ (pairs_at hi).1, hc _ _ (pairs_at hi).2⟩
theorem PWo.place (h : PWo w b M W Gs) {i : Nat} (hi : i < W.n) : ∃ pb pc, w.cell? ⟨b, 0, none⟩ = some (.slice (some ⟨pb, 0, none⟩) W.n pc) ∧ W.n ≤ pc ∧ pb < w.heap.size ∧ w.cell? ⟨pb, i * 2, none⟩ = some (.pointer (some ⟨M.bp i, 0, none⟩)) ∧ w.cell? ⟨pb, i * 2 + 1, none⟩ = some (.int .i64 (W.wall i)) := by
  obtain ⟨a, cap, e, r⟩ := rowIn_own h.pr
  rcases r.held with h0 | ⟨g, rfl, hg, hc⟩
  · omega
  · have k := h.box.cell 0 _ rfl
    rw [e] at k
    exact ⟨g, cap, k, r.len, hg, hc _ _ (pairs_at hi).1, hc _ _ (pairs_at hi).2⟩
end
set_option maxHeartbeats 1000000 in
theorem wIsSite_is {b n cap : Nat} {a : Option Addr} {k : Int} {v : Bool} (w : World) (c : w.cell? ⟨b, 0, none⟩ = some (.slice a n cap)) (h : (decide (0 ≤ k) && decide (k < (n : Int))) = v) :
    Calls Tryz.prog 141 #[.pointer (some ⟨b, 0, none⟩), .int .i64 k] w fun e w' => e = .returned (.bool v) ∧ w' = w := by
  by_cases h0 : 0 ≤ k
  · by_cases h4 : k < (n : Int)
    · have e : v = true := by rw [← h]; simp [h0, h4]
      subst e
      clear h
      go_enter Tryz.func141, Tryz.ntmps141
      go_wp2_with fail
      go_ret
      exact ⟨rfl, rfl⟩
    · have e : v = false := by rw [← h]; simp [h4]
      subst e
      clear h
      go_enter Tryz.func141, Tryz.ntmps141
      go_wp2_with fail
      go_ret
      exact ⟨rfl, rfl⟩
  · have e : v = false := by rw [← h]; simp [h0]
    subst e
    clear h
    go_enter Tryz.func141, Tryz.ntmps141
    go_wp2_with fail
    go_ret
    exact ⟨rfl, rfl⟩
set_option maxHeartbeats 1000000 in
theorem isClient_is {b n cap : Nat} {a : Option Addr} {k : Int} {v : Bool} (w : World) (c : w.cell? ⟨b, 1, none⟩ = some (.slice a n cap)) (h : (decide (0 ≤ k) && decide (k < (n : Int))) = v) :
    Calls Tryz.prog 138 #[.pointer (some ⟨b, 0, none⟩), .int .i64 k] w fun e w' => e = .returned (.bool v) ∧ w' = w := by
  by_cases h0 : 0 ≤ k
  · by_cases h4 : k < (n : Int)
    · have e : v = true := by rw [← h]; simp [h0, h4]
      subst e
      clear h
      go_enter Tryz.func138, Tryz.ntmps138
      go_wp2_with fail
      go_ret
      exact ⟨rfl, rfl⟩
    · have e : v = false := by rw [← h]; simp [h4]
      subst e
      clear h
      go_enter Tryz.func138, Tryz.ntmps138
      go_wp2_with fail
      go_ret
      exact ⟨rfl, rfl⟩
  · have e : v = false := by rw [← h]; simp [h0]
    subst e
    clear h
    go_enter Tryz.func138, Tryz.ntmps138
    go_wp2_with fail
    go_ret
    exact ⟨rfl, rfl⟩
set_option maxHeartbeats 1000000 in
theorem isUnder_is {b n cap : Nat} {a : Option Addr} {k : Int} {v : Bool} (w : World) (c : w.cell? ⟨b, 2, none⟩ = some (.slice a n cap)) (h : (decide (0 ≤ k) && decide (k < (n : Int))) = v) :
    Calls Tryz.prog 152 #[.pointer (some ⟨b, 0, none⟩), .int .i64 k] w fun e w' => e = .returned (.bool v) ∧ w' = w := by
  by_cases h0 : 0 ≤ k
  · by_cases h4 : k < (n : Int)
    · have e : v = true := by rw [← h]; simp [h0, h4]
      subst e
      clear h
      go_enter Tryz.func152, Tryz.ntmps152
      go_wp2_with fail
      go_ret
      exact ⟨rfl, rfl⟩
    · have e : v = false := by rw [← h]; simp [h4]
      subst e
      clear h
      go_enter Tryz.func152, Tryz.ntmps152
      go_wp2_with fail
      go_ret
      exact ⟨rfl, rfl⟩
  · have e : v = false := by rw [← h]; simp [h0]
    subst e
    clear h
    go_enter Tryz.func152, Tryz.ntmps152
    go_wp2_with fail
    go_ret
    exact ⟨rfl, rfl⟩
set_option maxRecDepth 100000 in
set_option maxHeartbeats 4000000 in
theorem pw_begin {b : Nat} {G : Nat → Prop} {W : WoS} (w : World) (h : PW w b G W) (hw : WfW W) {i : Nat} (hi : i < W.c) :
    Calls Tryz.prog 98 #[.pointer (some ⟨b, 0, none⟩), .int .i64 i] w fun e w' => e = .returned (errV (begE (W.S (W.at_ i)) (W.ses i))) ∧ PWPo w b G (setSes W i (begS (W.S (W.at_ i)) (W.ses i))) w' := by
  obtain ⟨M, Gs, h, hG⟩ := h
  have HH : Hid (PWo w b M W Gs ∧ ∀ k, G k ↔ allG b M (W.n + W.c) Gs k) := ⟨h, hG⟩
  obtain ⟨cb, cc, c1, hcc, hcb, x0, x1⟩ := h.client hi
  obtain ⟨pb, pc, c0, hpc, hpb, y0, y1⟩ := h.place (hw.at_ i hi)
  have hlt := h.box.lt
  have IC := isClient_is (k := i) (v := true) w c1 (by simp; omega)
  have hb1 := (boxed (Below.refl _ w) (.cells #[.pointer (some ⟨M.bs i, 0, none⟩), .int .i64 (W.at_ i)] 171)).drew
  have BG : Hid (Calls Tryz.prog 145 #[.pointer (some ⟨M.bs i, 0, none⟩), .pointer (some ⟨M.bp (W.at_ i), 0, none⟩)] (w.alloc (.cells #[.pointer (some ⟨M.bs i, 0, none⟩), .int .i64 (W.at_ i)] 171)).drew fun e w' => e = .returned (errV (begE (W.S (W.at_ i)) (W.ses i))) ∧ PSPo (w.alloc (.cells #[.pointer (some ⟨M.bs i, 0, none⟩), .int .i64 (W.at_ i)] 171)).drew (M.bs i) (Gs (W.n + i)) (begS (W.S (W.at_ i)) (W.ses i)) w') := pbegin_any _ ((h.sess hi).later hb1) ((h.site (hw.at_ i hi)).later hb1)
  have q1 : (i : Int) < (W.c : Int) := by omega
  have q2 : (W.at_ i : Int) < (W.n : Int) := by have := hw.at_ i hi; omega
  clear h hG hw
  go_enter Tryz.func98, Tryz.ntmps98
  go_wp2_with fail
  refine IC.mono ?_
  rintro e w2 ⟨rfl, hw2⟩
  have hw3 := hw2.symm
  clear hw2 IC
  subst hw3
  go_wp2_with fail
  go_region_law (refine step_call rfl 145 #[.pointer (some ⟨M.bs i, 0, none⟩), .pointer (some ⟨M.bp (W.at_ i), 0, none⟩)] (by go_simp) BG.out ?_
                 rintro e w3 ⟨rfl, hp⟩
                 refine ⟨_, rfl, ?_⟩)
  all_goals
    go_wp2_with fail
    go_ret
    exact ⟨rfl, HH.out.1.stepC HH.out.2 hi (PSPo.trans (fun k hk => .inl hk) (Touch.ofBelow hb1) hp)⟩
set_option maxRecDepth 100000 in
set_option maxHeartbeats 4000000 in
theorem pw_read {b : Nat} {G : Nat → Prop} {W : WoS} (key : Int) (hkey : (Lit.int .i64 key).wf = true) (w : World) (h : PW w b G W) (hw : WfW W) {i : Nat} (hi : i < W.c) :
    Calls Tryz.prog 113 #[.pointer (some ⟨b, 0, none⟩), .int .i64 i, .int .i64 key] w fun e w' => e = .returned (.tuple #[.string (sreadV (W.S (W.at_ i)) (W.ses i) key).1, errV (sreadV (W.S (W.at_ i)) (W.ses i) key).2]) ∧ Below w.heap.size w w' := by
  obtain ⟨M, Gs, h, hG⟩ := h
  obtain ⟨cb, cc, c1, hcc, hcb, x0, x1⟩ := h.client hi
  obtain ⟨pb, pc, c0, hpc, hpb, y0, y1⟩ := h.place (hw.at_ i hi)
  have hlt := h.box.lt
  have IC := isClient_is (k := i) (v := true) w c1 (by simp; omega)
  have hb1 := (boxed (Below.refl _ w) (.cells #[.pointer (some ⟨M.bs i, 0, none⟩), .int .i64 (W.at_ i)] 171)).drew
  have BG : Hid (Calls Tryz.prog 158 #[.pointer (some ⟨M.bs i, 0, none⟩), .pointer (some ⟨M.bp (W.at_ i), 0, none⟩), .int .i64 key] (w.alloc (.cells #[.pointer (some ⟨M.bs i, 0, none⟩), .int .i64 (W.at_ i)] 171)).drew fun e w' => e = .returned (.tuple #[.string (sreadV (W.S (W.at_ i)) (W.ses i) key).1, errV (sreadV (W.S (W.at_ i)) (W.ses i) key).2]) ∧ Below (w.alloc (.cells #[.pointer (some ⟨M.bs i, 0, none⟩), .int .i64 (W.at_ i)] 171)).drew.heap.size (w.alloc (.cells #[.pointer (some ⟨M.bs i, 0, none⟩), .int .i64 (W.at_ i)] 171)).drew w') := psread_any key hkey _ ((h.sess hi).later hb1) ((h.site (hw.at_ i hi)).later hb1) (hw.inv _ (hw.at_ i hi))
  have q1 : (i : Int) < (W.c : Int) := by omega
  have q2 : (W.at_ i : Int) < (W.n : Int) := by have := hw.at_ i hi; omega
  clear h hG hw
  go_enter Tryz.func113, Tryz.ntmps113
  go_wp2_with fail
  refine IC.mono ?_
  rintro e w2 ⟨rfl, hw2⟩
  have hw3 := hw2.symm
  clear hw2 IC
  subst hw3
  go_wp2_with fail
  go_region_law (refine step_call rfl 158 #[.pointer (some ⟨M.bs i, 0, none⟩), .pointer (some ⟨M.bp (W.at_ i), 0, none⟩), .int .i64 key] (by go_simp) BG.out ?_
                 rintro e w3 ⟨rfl, hp⟩
                 refine ⟨_, rfl, ?_⟩)
  all_goals
    go_wp2_with fail
    go_ret2
    exact ⟨rfl, behind hb1 hp⟩
set_option maxRecDepth 100000 in
set_option maxHeartbeats 4000000 in
theorem pw_write {b : Nat} {G : Nat → Prop} {W : WoS} (xk : Int) (xd : ByteArray) (xg : Bool) (w : World) (h : PW w b G W) {i : Nat} (hi : i < W.c) :
    Calls Tryz.prog 105 #[.pointer (some ⟨b, 0, none⟩), .int .i64 i, .agg #[.int .i64 xk, .string xd, .bool xg]] w fun e w' => e = .returned (errV (wriE (W.ses i) ⟨xk, xd, xg⟩)) ∧ PWPo w b G (setSes W i (wriS (W.ses i) ⟨xk, xd, xg⟩)) w' := by
  obtain ⟨M, Gs, h, hG⟩ := h
  have HH : Hid (PWo w b M W Gs ∧ ∀ k, G k ↔ allG b M (W.n + W.c) Gs k) := ⟨h, hG⟩
  obtain ⟨cb, cc, c1, hcc, hcb, x0, x1⟩ := h.client hi
  have hlt := h.box.lt
  have hb0 := boxed (Below.refl _ w) (.cells #[.int .i64 xk, .string xd, .bool xg] 100)
  have IC := isClient_is (k := i) (v := true) (w.alloc (.cells #[.int .i64 xk, .string xd, .bool xg] 100)) (cell_later hb0 c1) (by simp; omega)
  have hb1 := hb0.drew
  have BG : Hid (Calls Tryz.prog 155 #[.pointer (some ⟨M.bs i, 0, none⟩), .agg #[.int .i64 xk, .string xd, .bool xg]] (w.alloc (.cells #[.int .i64 xk, .string xd, .bool xg] 100)).drew fun e w' => e = .returned (errV (wriE (W.ses i) ⟨xk, xd, xg⟩)) ∧ PSPo (w.alloc (.cells #[.int .i64 xk, .string xd, .bool xg] 100)).drew (M.bs i) (Gs (W.n + i)) (wriS (W.ses i) ⟨xk, xd, xg⟩) w') := pwrite_any ⟨xk, xd, xg⟩ _ ((h.sess hi).later hb1)
  have q1 : (i : Int) < (W.c : Int) := by omega
  clear h hG
  go_enter Tryz.func105, Tryz.ntmps105
  go_wp2_with fail
  refine IC.mono ?_
  rintro e w2 ⟨rfl, hw2⟩
  have hw3 := hw2.symm
  clear hw2 IC
  subst hw3
  go_wp2_with fail
  go_region_law (refine step_call rfl 155 #[.pointer (some ⟨M.bs i, 0, none⟩), .agg #[.int .i64 xk, .string xd, .bool xg]] (by go_simp) BG.out ?_
                 rintro e w3 ⟨rfl, hp⟩
                 refine ⟨_, rfl, ?_⟩)
  all_goals
    go_wp2_with fail
    go_ret
    exact ⟨rfl, HH.out.1.stepC HH.out.2 hi (PSPo.trans (fun k hk => .inl hk) (Touch.ofBelow hb1) hp)⟩
set_option maxRecDepth 100000 in
set_option maxHeartbeats 4000000 in
theorem pw_abort {b : Nat} {G : Nat → Prop} {W : WoS} (w : World) (h : PW w b G W) {i : Nat} (hi : i < W.c) :
    Calls Tryz.prog 94 #[.pointer (some ⟨b, 0, none⟩), .int .i64 i] w fun e w' => e = .returned (errV (aboE (W.ses i))) ∧ PWPo w b G (setSes W i (aboS (W.ses i))) w' := by
  obtain ⟨M, Gs, h, hG⟩ := h
  have HH : Hid (PWo w b M W Gs ∧ ∀ k, G k ↔ allG b M (W.n + W.c) Gs k) := ⟨h, hG⟩
  obtain ⟨cb, cc, c1, hcc, hcb, x0, x1⟩ := h.client hi
  have hlt := h.box.lt
  have IC := isClient_is (k := i) (v := true) w c1 (by simp; omega)
  have BG := pabort_any w (h.sess hi)
  have q1 : (i : Int) < (W.c : Int) := by omega
  clear h hG
  go_enter Tryz.func94, Tryz.ntmps94
  go_wp2_with fail
  refine IC.mono ?_
  rintro e w2 ⟨rfl, hw2⟩
  have hw3 := hw2.symm
  clear hw2 IC
  subst hw3
  go_wp2_with fail
  refine BG.mono ?_
  rintro e w3 ⟨rfl, hp⟩
  go_wp2_with fail
  go_ret
  exact ⟨rfl, HH.out.1.stepC HH.out.2 hi hp⟩
set_option maxHeartbeats 1000000 in
theorem pw_many {b : Nat} {G : Nat → Prop} {W : WoS} (w : World) (h : PW w b G W) :
    Calls Tryz.prog 110 #[.pointer (some ⟨b, 0, none⟩)] w fun e w' => e = .returned (.int .i64 W.net.length) ∧ w' = w := by
  obtain ⟨M, Gs, h, hG⟩ := h
  have hlen : M.l.length = W.net.length := by rw [← h.nl]; simp
  obtain ⟨na, nc, hnv, r⟩ := rowIn_own h.nr
  have c2 := h.box.cell 2 _ rfl
  rw [hnv, hlen] at c2
  clear h hG hnv r hlen
  go_enter Tryz.func110, Tryz.ntmps110
  go_wp2_with fail
  go_ret
  exact ⟨rfl, rfl⟩
end
section
theorem Goes.few {S S' : SiteS} (h : Goes S S') : S'.waits.length ≤ S.waits.length := h.log.2
theorem Goes.keepid {S S' : SiteS} (h : Goes S S') : S'.id = S.id := by
  induction h with
  | full _ => rfl
  | none _ => rfl
  | step _ _ _ ih => exact ih
theorem Goes.lok {S S' : SiteS} (h : Goes S S') : (∀ x ∈ S.log, okT x = true) → (∀ x ∈ S.waits, okT x = true) → ∀ x ∈ S'.log, okT x = true := by
  induction h with
  | full _ => exact fun h _ => h
  | none _ => exact fun h _ => h
  | @step S S' x h1 h2 _ ih =>
    intro hl hw
    refine ih (fun y hy => ?_) (fun y hy => hw y (mem_dropW.1 hy).1)
    rcases List.mem_append.1 (show y ∈ S.log ++ [x] from hy) with e | e
    · exact hl y e
    · rw [List.mem_singleton.1 e]
      exact hw x (nextS_mem h2).1
theorem next_ready {S : SiteS} {t : TxP} (ht : t ∈ S.waits) (hs : 0 ≤ t.site ∧ t.site ≤ 3) (hr : readyS S t = true) : nextS S ≠ none := fun e => by
  have := nextS_none e t ht hs.1 hs.2
  rw [hr] at this
  cases this
theorem TakesTo.few {S S' : SiteS} {t : TxP} (h : TakesTo S t S') (hI : InvS S) (hw : S.waits.length ≤ 40) : S'.waits.length ≤ 40 := by
  rcases h with ⟨_, rfl⟩ | ⟨e, hg⟩
  · exact hw
  · obtain ⟨p1, p2, p3, p4, p5⟩ := takeE_zero e
    by_cases h40 : S.waits.length < 40
    · have := hg.few
      simp at this
      omega
    · have hr : readyS S t = true := by
        unfold takeE at e
        rw [if_neg (by rw [p1]; decide), if_neg p2, if_neg p3, if_neg (by
          intro q
          obtain ⟨x, hx, hi⟩ := List.any_eq_true.1 q
          rw [p4 x hx] at hi
          cases hi), if_neg (by omega)] at e
        by_cases q : 40 ≤ S.waits.length ∧ readyS S t = false
        · rw [if_pos q] at e
          omega
        · cases hr : readyS S t with
          | true => rfl
          | false => exact absurd ⟨by omega, hr⟩ q
      have hs := (okT_parts p1).1
      cases hg with
      | full hf => exact absurd hf (by show ¬ 200 ≤ S.log.length; omega)
      | none hn => exact absurd hn (next_ready (S := { S with waits := S.waits ++ [t] }) (List.mem_append.2 (.inr (List.mem_singleton.2 rfl))) hs hr)
      | @step _ _ x h1 h2 h3 =>
        have l1 := h3.few
        have l2 := dropW_length (hI.nums.snoc p4) (nextS_mem h2).1
        have l3 : (S.waits ++ [t]).length = S.waits.length + 1 := by simp
        have l4 : (goneS { S with waits := S.waits ++ [t] } x).waits.length = (dropW (S.waits ++ [t]) x).length := rfl
        omega
theorem TakesTo.keepid {S S' : SiteS} {t : TxP} (h : TakesTo S t S') : S'.id = S.id := by
  rcases h with ⟨_, rfl⟩ | ⟨_, hg⟩
  · rfl
  · exact hg.keepid
theorem TakesTo.lok {S S' : SiteS} {t : TxP} (h : TakesTo S t S') (hI : InvS S) (hl : ∀ x ∈ S.log, okT x = true) : ∀ x ∈ S'.log, okT x = true := by
  rcases h with ⟨_, rfl⟩ | ⟨e, hg⟩
  · exact hl
  · obtain ⟨p1, _⟩ := takeE_zero e
    refine hg.lok hl (fun x hx => ?_)
    rcases List.mem_append.1 (show x ∈ S.waits ++ [t] from hx) with q | q
    · exact (hI.wt x q).1
    · rw [List.mem_singleton.1 q]
      exact p1
section
variable {W W' : WoS} {g : GrS}
theorem WfW.setSite (h : WfW W) {i : Nat} {S' : SiteS} (h1 : InvS S') (h2 : S'.id = (i : Int)) (h3 : S'.waits.length ≤ 40) (h4 : ∀ x ∈ S'.log, okT x = true) : WfW (setSite W i S') := by
  refine ⟨h.n1, h.n4, h.c6, h.at_, fun j hj => ?_, fun j hj => ?_, h.net, fun j hj => ?_, fun j hj => ?_, h.to⟩ <;> show _ <;> by_cases q : j = i
  · subst q; show InvS (setN W.S j S' j); rw [setN_same]; exact h1
  · show InvS (setN W.S i S' j); rw [setN_ne _ _ q]; exact h.inv j hj
  · subst q; show (setN W.S j S' j).id = _; rw [setN_same]; exact h2
  · show (setN W.S i S' j).id = _; rw [setN_ne _ _ q]; exact h.id j hj
  · subst q; show (setN W.S j S' j).waits.length ≤ 40; rw [setN_same]; exact h3
  · show (setN W.S i S' j).waits.length ≤ 40; rw [setN_ne _ _ q]; exact h.wt j hj
  · subst q; show ∀ x ∈ (setN W.S j S' j).log, _; rw [setN_same]; exact h4
  · show ∀ x ∈ (setN W.S i S' j).log, _; rw [setN_ne _ _ q]; exact h.lok j hj
theorem WfW.send (h : WfW W) (hg : g.to < W.n) : WfW (sendW W g) := by
  have s := sendW_same W g
  refine ⟨by rw [s.n]; exact h.n1, by rw [s.n]; exact h.n4, by rw [s.c]; exact h.c6, by rw [s.n, s.c, s.at_]; exact h.at_, by rw [s.n, s.S]; exact h.inv, by rw [s.n, s.S]; exact h.id, ?_, by rw [s.n, s.S]; exact h.wt, by rw [s.n, s.S]; exact h.lok, fun x hx => ?_⟩
  · unfold sendW
    split
    · exact h.net
    · show (W.net ++ [g]).length ≤ 300
      simp
      omega
  · rw [s.n]
    rcases sendW_mem hx with q | q
    · exact h.to x q
    · rw [q]; exact hg
theorem WfW.sends {o : Nat} : ∀ (l : List TxP) (W : WoS), WfW W → o < W.n → WfW (sendsW o l W)
  | [], _, h, _ => h
  | t :: l, W, h, ho => by
    unfold sendsW
    split
    · exact WfW.sends l W h ho
    · exact WfW.sends l _ (h.send ho) (by rw [(sendW_same W ⟨o, .tx t⟩).n]; exact ho)
theorem WfW.tell {t : TxP} : ∀ (k : Nat) (W : WoS), WfW W → k ≤ W.n → WfW (tellW t k W)
  | 0, _, h, _ => h
  | k + 1, W, h, hk => by
    unfold tellW
    split
    · exact WfW.tell k W h (by omega)
    · exact (WfW.tell k W h (by omega)).send (by rw [(tellW_same t k W).n]; show k < W.n; omega)
theorem WfW.answer (h : WfW W) {i o : Nat} (hi : i < W.n) (ho : o < W.n) (v0 v1 v2 v3 : Int) : WfW (answerW W i o v0 v1 v2 v3) :=
  WfW.sends _ _ (h.setSite ((h.inv i hi).knows _) (h.id i hi) (h.wt i hi) (h.lok i hi)) ho
theorem WfW.drop (h : WfW W) (i : Nat) : WfW (dropW' W i) :=
  ⟨h.n1, h.n4, h.c6, h.at_, h.inv, h.id, Nat.le_trans (List.eraseIdx_sublist W.net i).length_le h.net, h.wt, h.lok, fun x hx => h.to x (List.mem_of_mem_eraseIdx hx)⟩
theorem WfW.come (h : WfW W) (hg : g.to < W.n) (hc : ComeTo W g W') : WfW W' := by
  obtain ⟨to, body⟩ := g
  cases body with
  | tx t =>
    obtain ⟨S', hT, rfl⟩ := hc
    exact h.setSite (hT.inv (h.inv to hg)) (hT.keepid.trans (h.id to hg)) (hT.few (h.inv to hg) (h.wt to hg)) (hT.lok (h.inv to hg) (h.lok to hg))
  | ask site v0 v1 v2 v3 =>
    have hc' : if 0 ≤ site ∧ site < (W.n : Int) then W' = answerW W to site.toNat v0 v1 v2 v3 else W' = W := hc
    by_cases q : 0 ≤ site ∧ site < (W.n : Int)
    · rw [if_pos q] at hc'
      rw [hc']
      exact h.answer hg (by omega) v0 v1 v2 v3
    · rw [if_neg q] at hc'
      rw [hc']
      exact h
theorem WfW.deliver (h : WfW W) {i : Nat} (hd : DeliverTo W i W') : WfW W' := by
  obtain ⟨g, h1, h2⟩ := hd
  exact (h.drop i).come (h.to g (List.mem_of_getElem? h1)) h2
/-- how much is under way: an ask is more than all that it brings -/
def gramW : GrS → Nat
  | ⟨_, .tx _⟩ => 1
  | ⟨_, .ask _ _ _ _ _⟩ => 302
def netW (l : List GrS) : Nat := (l.map gramW).sum
theorem sends_weight (o : Nat) : ∀ (l : List TxP) (W : WoS), W.net.length ≤ 300 → netW (sendsW o l W).net + W.net.length ≤ netW W.net + 300
  | [], W, h => by show netW W.net + _ ≤ _; omega
  | t :: l, W, h => by
    unfold sendsW
    split
    · exact sends_weight o l W h
    · by_cases q : 300 ≤ W.net.length
      · have e : (sendW W ⟨o, .tx t⟩).net = W.net := by unfold sendW; rw [if_pos q]
        have := sends_weight o l (sendW W ⟨o, .tx t⟩) (by rw [e]; exact h)
        rw [e] at this
        exact this
      · have e := sendW_net (W := W) (g := ⟨o, .tx t⟩) (by omega)
        have := sends_weight o l (sendW W ⟨o, .tx t⟩) (by rw [e]; simp; omega)
        rw [e] at this
        simp [netW, gramW] at this ⊢
        omega
theorem deliver_weight (h : WfW W) (hd : DeliverTo W 0 W') : netW W'.net < netW W.net := by
  obtain ⟨⟨to, body⟩, h1, h2⟩ := hd
  obtain ⟨r, hr⟩ : ∃ r, W.net = ⟨to, body⟩ :: r := by
    cases hn : W.net with
    | nil => rw [hn] at h1; simp at h1
    | cons x r =>
      rw [hn] at h1
      simp at h1
      exact ⟨r, by rw [h1]⟩
  have hd : (dropW' W 0).net = r := by show W.net.eraseIdx 0 = r; rw [hr]; rfl
  have hl : r.length + 1 ≤ 300 := by have := h.net; rw [hr] at this; simpa using this
  cases body with
  | tx t =>
    obtain ⟨S', _, rfl⟩ := h2
    show netW (dropW' W 0).net < _
    rw [hd, hr]
    simp [netW, gramW]
  | ask site v0 v1 v2 v3 =>
    have hc' : if 0 ≤ site ∧ site < ((dropW' W 0).n : Int) then W' = answerW (dropW' W 0) to site.toNat v0 v1 v2 v3 else W' = dropW' W 0 := h2
    by_cases q : 0 ≤ site ∧ site < ((dropW' W 0).n : Int)
    · rw [if_pos q] at hc'
      have := sends_weight site.toNat (missP ((dropW' W 0).S to) v0 v1 v2 v3) (setSite (dropW' W 0) to (knowsS ((dropW' W 0).S to) site.toNat v0 v1 v2 v3)) (by show (dropW' W 0).net.length ≤ 300; rw [hd]; omega)
      rw [hc']
      have e : (setSite (dropW' W 0) to (knowsS ((dropW' W 0).S to) site.toNat v0 v1 v2 v3)).net = r := hd
      rw [e] at this
      show netW (sendsW _ _ _).net < _
      rw [hr]
      simp [netW, gramW] at this ⊢
      omega
    · rw [if_neg q] at hc'
      rw [hc', hd, hr]
      simp [netW, gramW]
end
end
section
/-- what may be under way among n sites -/
def NetG (n : Nat) (g : GrS) : Prop :=
  match g.body with
  | .tx t => okT t = true
  | .ask s _ _ _ _ => 0 ≤ s ∧ s < (n : Int)
def NetW (W : WoS) : Prop := ∀ g ∈ W.net, NetG W.n g
section
variable {W W' : WoS} {g : GrS}
theorem NetW.send (h : NetW W) (hg : NetG W.n g) : NetW (sendW W g) := fun x hx => by
  rw [(sendW_same W g).n]
  rcases sendW_mem hx with q | q
  · exact h x q
  · rw [q]; exact hg
theorem NetW.drop (h : NetW W) (i : Nat) : NetW (dropW' W i) := fun x hx => h x (List.mem_of_mem_eraseIdx hx)
theorem NetW.tell (h : NetW W) {t : TxP} (ht : okT t = true) (k : Nat) : NetW (tellW t k W) := fun x hx => by
  rw [(tellW_same t k W).n]
  rcases tellW_mem k hx with q | ⟨_, q⟩
  · exact h x q
  · obtain ⟨to, body⟩ := x
    have q : body = .tx t := q
    subst q
    exact ht
theorem NetW.come (h : NetW W) (hw : WfW W) (ht : g.to < W.n) (hc : ComeTo W g W') : NetW W' := by
  obtain ⟨to, body⟩ := g
  cases body with
  | tx t =>
    obtain ⟨S', _, rfl⟩ := hc
    exact h
  | ask s v0 v1 v2 v3 =>
    have hc : if 0 ≤ s ∧ s < (W.n : Int) then W' = answerW W to s.toNat v0 v1 v2 v3 else W' = W := hc
    split at hc
    · rw [hc]
      intro x hx
      show NetG (answerW W to s.toNat v0 v1 v2 v3).n x
      rw [show (answerW W to s.toNat v0 v1 v2 v3).n = W.n from (sendsW_same _ _ _).n]
      rcases sendsW_mem _ _ hx with q | ⟨_, t, hm, _, q⟩
      · exact h x q
      · obtain ⟨to', body⟩ := x
        have q : body = .tx t := q
        subst q
        exact hw.lok to ht t (List.mem_filter.1 hm).1
    · rw [hc]; exact h
theorem NetW.deliver (h : NetW W) (hw : WfW W) {i : Nat} (hd : DeliverTo W i W') : NetW W' := by
  obtain ⟨g, hg, hc⟩ := hd
  exact (h.drop i).come (hw.drop i) (hw.to g (List.mem_of_getElem? hg)) hc
theorem ComeTo.det {A B : WoS} (h : ComeTo W g A) (k : ComeTo W g B) : A = B := by
  obtain ⟨to, body⟩ := g
  cases body with
  | tx t =>
    obtain ⟨S1, h1, rfl⟩ := h
    obtain ⟨S2, h2, rfl⟩ := k
    rw [TakesTo.det h1 h2]
  | ask s v0 v1 v2 v3 =>
    have h : if 0 ≤ s ∧ s < (W.n : Int) then A = answerW W to s.toNat v0 v1 v2 v3 else A = W := h
    have k : if 0 ≤ s ∧ s < (W.n : Int) then B = answerW W to s.toNat v0 v1 v2 v3 else B = W := k
    split at h
    · rename_i q
      rw [if_pos q] at k
      rw [h, k]
    · rename_i q
      rw [if_neg q] at k
      rw [h, k]
theorem DeliverTo.det {i : Nat} {A B : WoS} (h : DeliverTo W i A) (k : DeliverTo W i B) : A = B := by
  obtain ⟨g, h1, h2⟩ := h
  obtain ⟨g', k1, k2⟩ := k
  rw [h1] at k1
  cases k1
  exact h2.det k2
end
theorem BringTo.det {W A B : WoS} (h : BringTo W A) : BringTo W B → A = B := by
  induction h with
  | none h0 =>
    intro k
    cases k with
    | none _ => rfl
    | step h1 _ _ => exact absurd h0 h1
  | step h1 h2 _ ih =>
    intro k
    cases k with
    | none h0 => exact absurd h0 h1
    | step _ k2 k3 =>
      rw [h2.det k2] at ih
      exact ih k3
theorem AsksTo.det {k m : Nat} {W A : WoS} (h : AsksTo k m W A) : ∀ {B : WoS}, AsksTo k m W B → A = B := by
  induction h with
  | zero =>
    intro B q
    cases q
    rfl
  | self _ e ih =>
    intro B q
    cases q with
    | self q _ => exact ih q
    | ask _ n _ => exact absurd e n
  | ask _ n h3 ih =>
    intro B q
    cases q with
    | self _ e => exact absurd e n
    | ask q _ q3 =>
      have := ih q
      subst this
      exact h3.det q3
theorem RoundTo.det {m : Nat} {W A : WoS} (h : RoundTo m W A) : ∀ {B : WoS}, RoundTo m W B → A = B := by
  induction h with
  | zero =>
    intro B q
    cases q
    rfl
  | next _ h2 ih =>
    intro B q
    cases q with
    | next q q2 =>
      have := ih q
      subst this
      exact h2.det q2
theorem CalmTo.det {W A B : WoS} (h : CalmTo W A) (k : CalmTo W B) : A = B := by
  obtain ⟨W1, h1, h2⟩ := h
  obtain ⟨W2, k1, k2⟩ := k
  have := h1.det k1
  subst this
  exact h2.det k2
end
section
theorem netC_snoc (l : List GrM) (m : GrM) : netC (l ++ [m]) = netC l ++ gramC m := by simp [netC]
theorem gramC_one (m : GrM) : ∀ u ∈ gramC m, u.oneCell' = true := by
  intro u hu
  simp [gramC] at hu
  rcases hu with rfl | rfl <;> rfl
theorem gramInfo : (Tryz.prog.info? 205).map (fun i => (i.zero, i.size, i.bytes)) = some (some (.agg #[.int .i64 0, .slice none 0 0]), 2, 32) := by kernel_rfl
theorem alloc_news (W : World) (n : Nat) (hn : W.heap.size = n) (vs : List Value) (T : TypeId) : ∀ j u, vs[j]? = some u → (W.alloc (.cells vs.toArray T)).cell? ((⟨n, 0, none⟩ : Addr).add j) = some u := by
  subst hn
  exact World.news_of_block (heap_alloc_new W (.cells vs.toArray T))
section
variable {w w2 wE : World} {b g cap : Nat} {G : Nat → Prop} {M : WoM} {W : WoS} {Gs : Nat → Nat → Prop} {m : GrM}
theorem PWo.pushed (h : PWo w b M W Gs) (hb : Below w.heap.size w w2) (hm : m.Ok w) (hf : (∃ x ∈ M.l, x.blk = m.blk) ∨ ¬ allG b M (W.n + W.c) Gs m.blk)
    (own : wE.ownsRow 0 205 2 (.slice (some ⟨g, 0, none⟩) (M.l.length + 1) cap) (M.l.length + 1) (netC M.l ++ gramC m)) (gr : w2.grownBy wE M.nv.ownBlock) (eg : M.nv.ownBlock = some g ∨ w.heap.size ≤ g) (hlt : g < wE.heap.size) :
    PWo (wE.setCell ⟨b, 2, none⟩ (.slice (some ⟨g, 0, none⟩) (M.l.length + 1) cap)) b { M with nv := .slice (some ⟨g, 0, none⟩) (M.l.length + 1) cap, l := M.l ++ [m] } { W with net := W.net ++ [m.g] } Gs := by
  have hbl := h.box.lt
  have s2 := hb.size
  have sE := gr.size
  have gb : (Value.slice (some ⟨g, 0, none⟩) (M.l.length + 1) cap).ownBlock = some g := rfl
  have hml := hm.own.lt
  have hgb : g ≠ b := by
    rcases eg with e | e
    · exact fun q => h.sb.2.2 (by rw [e, q])
    · omega
  have kE : ∀ k, k < w.heap.size → M.nv.ownBlock ≠ some k → wE.heap[k]? = w.heap[k]? := fun k hk hn => (gr.block k (by omega) (fun e => hn e.symm)).trans (hb.block k hk)
  have kS : ∀ k, k < w.heap.size → M.nv.ownBlock ≠ some k → k ≠ b → (wE.setCell ⟨b, 2, none⟩ (.slice (some ⟨g, 0, none⟩) (M.l.length + 1) cap)).heap[k]? = w.heap[k]? := fun k hk hn hkb => (Below.heap_setCell _ _ _ _ (fun e => hkb e)).trans (kE k hk hn)
  have sS : (wE.setCell ⟨b, 2, none⟩ (.slice (some ⟨g, 0, none⟩) (M.l.length + 1) cap)).heap.size = wE.heap.size := by simp [World.setCell]
  have ltF := h.ltF
  have hmne : m.blk ≠ b ∧ M.pv.ownBlock ≠ some m.blk ∧ M.cv.ownBlock ≠ some m.blk ∧ M.nv.ownBlock ≠ some m.blk ∧ (∀ i, i < W.n + W.c → ¬ Gs i m.blk) := by
    rcases hf with ⟨x, hx, e⟩ | e
    · have := h.sg x hx
      rw [e] at this
      exact ⟨this.1, this.2.1, this.2.2.1, this.2.2.2, (h.fam.free m.blk (.inr (.inr (.inr (.inr ⟨x, hx, e⟩))))).2⟩
    · exact ⟨fun q => e (.inl (.inl q)), fun q => e (.inl (.inr (.inl q))), fun q => e (.inl (.inr (.inr (.inl q)))), fun q => e (.inl (.inr (.inr (.inr (.inl q))))), fun i hi q => e (.inr ⟨i, hi, q⟩)⟩
  have hmg : m.blk ≠ g := by
    rcases eg with e | e
    · exact fun q => hmne.2.2.2.1 (by rw [e, q])
    · omega
  refine ⟨?_, ?_, ?_, ?_, ?_, fun x hx => ?_, ?_, ⟨h.sb.1, h.sb.2.1, fun e => ?_⟩, fun k => ⟨fun e => ⟨(h.sr k).1 e |>.1, fun e2 => ?_⟩, fun e e2 => ?_⟩, fun x hx => ?_⟩
  · have B2 := (h.box.later hb).grown gr (fun e => h.sb.2.2 e.symm)
    exact B2.set 2 _ (by simp)
  · exact own_keptN h.pr (fun k e => kS k (h.pr.lt k e).2 ((h.sr k).1 e).2 (fun q => h.sb.1 (by rw [e, q])))
  · exact own_keptN h.cr (fun k e => kS k (h.cr.lt k e).2 ((h.sr k).2 e) (fun q => h.sb.2.1 (by rw [e, q])))
  · show World.ownsRow _ 0 _ 2 _ (M.l ++ [m]).length (netC (M.l ++ [m]))
    rw [netC_snoc, List.length_append]
    exact own_keptN own (fun k e => Below.heap_setCell _ _ _ _ (fun q => hgb (by rw [gb] at e; injection e with e; exact e.trans q)))
  · show (M.l ++ [m]).map (·.g) = W.net ++ [m.g]
    rw [List.map_append, h.nl]
    rfl
  · rcases List.mem_append.1 hx with q | q
    · have := h.sg x q
      exact (h.gr x q).kept (kS _ (ltF _ (.inr (.inr (.inr (.inr ⟨x, q, rfl⟩))))) this.2.2.2 this.1) (by rw [sS]; omega)
    · rw [List.mem_singleton.1 q]
      exact hm.kept (kS _ hml hmne.2.2.2.1 hmne.1) (by rw [sS]; omega)
  · have f := h.fam.to (X' := footW b M) (w' := wE.setCell ⟨b, 2, none⟩ (.slice (some ⟨g, 0, none⟩) (M.l.length + 1) cap)) (fun j k hj e => kS k (h.ltG hj e) (fun q => (h.fam.free k (.inr (.inr (.inr (.inl q))))).2 j hj e) (fun q => (h.fam.free k (.inl q)).2 j hj e)) (by rw [sS]; omega) (fun k hk => ⟨.inl hk, by rw [sS]; have := ltF k hk; omega⟩)
    refine ⟨f.is, f.apart, fun k hk => ?_, f.half⟩
    · rcases hk with e | e | e | e | ⟨x, hx, e⟩
      · exact f.free k (.inl e)
      · exact f.free k (.inr (.inl e))
      · exact f.free k (.inr (.inr (.inl e)))
      · rw [gb] at e
        injection e with e
        subst e
        rcases eg with q | q
        · exact f.free g (.inr (.inr (.inr (.inl q))))
        · exact ⟨by rw [sS]; exact hlt, fun i hi hg => by have := h.ltG hi hg; omega⟩
      · rcases List.mem_append.1 hx with q | q
        · exact f.free k (.inr (.inr (.inr (.inr ⟨x, q, e⟩))))
        · rw [List.mem_singleton.1 q] at e
          subst e
          exact ⟨by rw [sS]; omega, hmne.2.2.2.2⟩
  · rw [gb] at e
    injection e with e
    exact hgb e
  · rw [gb] at e2
    injection e2 with e2
    subst e2
    rcases eg with q | q
    · exact ((h.sr g).1 e).2 q
    · have := (h.pr.lt g e).2; omega
  · rw [gb] at e2
    injection e2 with e2
    subst e2
    rcases eg with q | q
    · exact (h.sr g).2 e q
    · have := (h.cr.lt g e).2; omega
  · have hg' : some g ≠ some x.blk → (Value.slice (some ⟨g, 0, none⟩) (M.l.length + 1) cap).ownBlock ≠ some x.blk := fun q => q
    rcases List.mem_append.1 hx with q | q
    · have s := h.sg x q
      refine ⟨s.1, s.2.1, s.2.2.1, hg' (fun e => ?_)⟩
      injection e with e
      rcases eg with r | r
      · exact s.2.2.2 (by rw [r, e])
      · have := ltF x.blk (.inr (.inr (.inr (.inr ⟨x, q, rfl⟩)))); omega
    · rw [List.mem_singleton.1 q]
      exact ⟨hmne.1, hmne.2.1, hmne.2.2.1, fun e => by rw [gb] at e; injection e with e; exact hmg e.symm⟩
theorem PWo.lostBox (h : PWo w b M W Gs) (hb : Below w.heap.size w w2) (x : Int) : PWo (w2.setCell ⟨b, 3, none⟩ (.int .i64 x)) b M { W with lost := x } Gs := by
  have s2 := hb.size
  have kS : ∀ k, k < w.heap.size → k ≠ b → (w2.setCell ⟨b, 3, none⟩ (.int .i64 x)).heap[k]? = w.heap[k]? := fun k hk hkb => (Below.heap_setCell _ _ _ _ (fun e => hkb e)).trans (hb.block k hk)
  have sS : (w2.setCell ⟨b, 3, none⟩ (.int .i64 x)).heap.size = w2.heap.size := by simp [World.setCell]
  exact ⟨(h.box.later hb).set 3 _ (by simp), own_keptN h.pr (fun k e => kS k (h.pr.lt k e).2 (fun q => h.sb.1 (by rw [e, q]))), own_keptN h.cr (fun k e => kS k (h.cr.lt k e).2 (fun q => h.sb.2.1 (by rw [e, q]))), own_keptN h.nr (fun k e => kS k (h.nr.lt k e).2 (fun q => h.sb.2.2 (by rw [e, q]))), h.nl, fun x hx => (h.gr x hx).kept (kS _ (h.ltF _ (.inr (.inr (.inr (.inr ⟨x, hx, rfl⟩))))) (h.sg x hx).1) (by rw [sS]; exact s2), h.fam.to (fun j k hj e => kS k (h.ltG hj e) (fun q => (h.fam.free k (.inl q)).2 j hj e)) (by rw [sS]; exact s2) (fun k hk => ⟨.inl hk, by rw [sS]; have := h.ltF k hk; omega⟩), h.sb, h.sr, h.sg⟩
/-- what is left behind some sends: sites and sessions lie where they lay; Z: where what was sent lies -/
def Sent (w : World) (b : Nat) (M : WoM) (Gs : Nat → Nat → Prop) (Z : Nat → Prop) (W' : WoS) (w' : World) : Prop :=
  ∃ nv' l', PWo w' b { M with nv := nv', l := l' } W' Gs ∧ (∀ k, nv'.ownBlock = some k → M.nv.ownBlock = some k ∨ w.heap.size ≤ k) ∧ (∀ x ∈ l', x ∈ M.l ∨ Z x.blk) ∧ Touch (fun k => k = b ∨ M.nv.ownBlock = some k) w w'
theorem Sent.post {w' : World} {W' : WoS} {Z : Nat → Prop} (h : Sent w b M Gs Z W' w') (hG : ∀ k, G k ↔ allG b M (W.n + W.c) Gs k) (en : W'.n = W.n) (ec : W'.c = W.c) (hZ : ∀ k, Z k → G k ∨ w.heap.size ≤ k) : PWPo w b G W' w' := by
  obtain ⟨nv', l', h1, h2, h3, tt⟩ := h
  refine ⟨_, ⟨_, Gs, h1, fun _ => Iff.rfl⟩, fun k hk => ?_, ⟨tt.os, tt.tape, tt.output, tt.size, fun k hk hn => tt.block k hk (fun e => hn ((hG k).2 (.inl (e.elim .inl (fun q => .inr (.inr (.inr (.inl q))))))))⟩⟩
  rw [en, ec] at hk
  rcases hk with (e | e | e | e | ⟨x, hx, e⟩) | ⟨i, hi, e⟩
  · exact .inl ((hG k).2 (.inl (.inl e)))
  · exact .inl ((hG k).2 (.inl (.inr (.inl e))))
  · exact .inl ((hG k).2 (.inl (.inr (.inr (.inl e)))))
  · rcases h2 k e with q | q
    · exact .inl ((hG k).2 (.inl (.inr (.inr (.inr (.inl q))))))
    · exact .inr q
  · rcases h3 x hx with q | q
    · exact .inl ((hG k).2 (.inl (.inr (.inr (.inr (.inr ⟨x, q, e⟩))))))
    · rw [e] at q
      exact hZ k q
  · exact .inl ((hG k).2 (.inr ⟨i, hi, e⟩))
theorem PWo.later (h : PWo w b M W Gs) (hb : Below w.heap.size w w2) : PWo w2 b M W Gs :=
  ⟨h.box.later hb, own_keptN h.pr (fun k e => hb.block k (h.pr.lt k e).2), own_keptN h.cr (fun k e => hb.block k (h.cr.lt k e).2), own_keptN h.nr (fun k e => hb.block k (h.nr.lt k e).2), h.nl, fun m hm => (h.gr m hm).kept (hb.block _ (h.gr m hm).own.lt) hb.size, h.fam.to (fun _ k hj e => hb.block k (h.ltG hj e)) hb.size (fun k e => ⟨.inl e, Nat.lt_of_lt_of_le (h.ltF k e) hb.size⟩), h.sb, h.sr, h.sg⟩
theorem Sent.none (h : PWo w b M W Gs) (hb : Below w.heap.size w w2) (Z : Nat → Prop) : Sent w b M Gs Z W w2 := ⟨M.nv, M.l, h.later hb, fun _ e => .inl e, fun _ hx => .inl hx, Touch.ofBelow hb⟩
end
set_option maxRecDepth 100000 in
set_option maxHeartbeats 4000000 in
theorem pwo_send {b : Nat} {M : WoM} {W : WoS} {Gs : Nat → Nat → Prop} (w : World) (h : PWo w b M W Gs) (m : GrM) (hm : m.Ok w) (hf : (∃ x ∈ M.l, x.blk = m.blk) ∨ ¬ allG b M (W.n + W.c) Gs m.blk) :
    Calls Tryz.prog 144 #[.pointer (some ⟨b, 0, none⟩), .agg #[.int .i64 m.g.to, .slice (some ⟨m.blk, 0, none⟩) m.S.size m.cap]] w fun e w' => e = .returned (.tuple #[]) ∧ Sent w b M Gs (fun k => k = m.blk) (sendW W m.g) w' := by
  have HH : Hid (PWo w b M W Gs ∧ m.Ok w ∧ ((∃ x ∈ M.l, x.blk = m.blk) ∨ ¬ allG b M (W.n + W.c) Gs m.blk)) := ⟨h, hm, hf⟩
  have hlen : M.l.length = W.net.length := by rw [← h.nl]; simp
  obtain ⟨na, nc, hnv, r⟩ := rowIn_own h.nr
  have hlt := h.box.lt
  have hb1 := boxed (Below.refl _ w) (.cells #[.int .i64 m.g.to, .slice (some ⟨m.blk, 0, none⟩) m.S.size m.cap] 205)
  have B1 := h.box.later hb1
  rw [hnv] at B1
  have c2 := B1.cell 2 _ rfl
  have c3 := B1.cell 3 _ rfl
  have f2 := B1.free 2 (by simp)
  have f3 := B1.free 3 (by simp)
  by_cases h300 : 300 ≤ W.net.length
  · have q : 300 ≤ (M.l.length : Int) := by omega
    have HE : Hid (sendW W m.g = { W with lost := wrap64 (W.lost + 1) }) := if_pos h300
    clear h hm hf r hlen h300
    go_enter Tryz.func144, Tryz.ntmps144
    go_wp2_with fail
    refine bodyPost_ret (v := .tuple #[]) (results_none rfl _ _ _) rfl ⟨rfl, ?_⟩
    rw [HE.out]
    exact ⟨M.nv, M.l, (HH.out.1.lostBox (Below.refl _ w) (wrap64 (W.lost + 1))).later (boxed (Below.refl _ _) _), fun _ e => .inl e, fun _ hx => .inl hx, (Touch.setCell _ _ _ (.inl rfl)).trans (Touch.ofBelow (boxed (Below.refl _ _) _))⟩
  · have q : ¬ 300 ≤ (M.l.length : Int) := by omega
    have HE : Hid (sendW W m.g = { W with net := W.net ++ [m.g] }) := if_neg h300
    have HL : Hid (M.l.length < 300) := by show _ < _; omega
    obtain ⟨i0, hi, hz0, hz1, hz2⟩ := info_parts gramInfo
    have hb2 := (boxed hb1.drew (.cells #[.int .i64 m.g.to, .slice (some ⟨m.blk, 0, none⟩) m.S.size m.cap] 205))
    have own1 := own_keptN h.nr (fun k e => hb1.drew.block k (h.nr.lt k e).2)
    rw [hnv] at own1
    have HNV : Hid (M.nv = .slice na M.l.length nc) := hnv
    have HSB : Hid (M.nv.ownBlock ≠ some b) := h.sb.2.2
    clear h hm hf r hlen h300 hnv
    go_enter Tryz.func144, Tryz.ntmps144
    go_wp2_with fail
    go_region_law (refine step_append_lies _ rfl (.tmp 21) (.tmp 23) 160 rfl 0 205 i0 (.agg #[.int .i64 0, .slice none 0 0]) 2 32 Tryz.underlying160 hi hz0 hz1 hz2 rfl (by decide) (.slice na M.l.length nc) M.l.length (netC M.l) (by simp [Act.eval]) (own1.alloc _) ⟨w.heap.size + 1, 0, none⟩ 1 1 [.int .i64 m.g.to, .slice (some ⟨m.blk, 0, none⟩) m.S.size m.cap] (by simp [Act.eval]) rfl (alloc_news _ _ (by simp) [.int .i64 m.g.to, .slice (some ⟨m.blk, 0, none⟩) m.S.size m.cap] 205) (gramC_one m) (by decide) (by have := HL.out; simp only [maxLen]; omega) (by have := HL.out; omega) (by omega) _ rfl ?_
                   intro g9 cap9 wE ownE grE egE ltE
                   have BE : RowL wE b _ := (B1.later (boxed (Below.refl _ _) _).drew).grown grE (fun e => HSB.out (by rw [HNV.out]; exact e.symm))
                   have e2 := BE.cell 2 _ rfl
                   have f2E := BE.free 2 (by simp))
    all_goals
      go_wp2_with fail
      go_end0
      refine ⟨rfl, ?_⟩
      rw [HE.out]
      refine ⟨.slice (some ⟨g9, 0, none⟩) (M.l.length + 1) cap9, M.l ++ [m], HH.out.1.pushed hb2 HH.out.2.1 HH.out.2.2 ownE (by rw [HNV.out]; exact grE) ?_ ltE, fun k e => ?_, fun x hx => ?_, ?_⟩
      · rw [HNV.out]
        rcases egE with e | e
        · exact .inl e
        · exact .inr (by rw [e]; simp; omega)
      · rw [HNV.out]
        have e' : g9 = k := Option.some.inj e
        subst e'
        rcases egE with e | e
        · exact .inl e
        · exact .inr (by rw [e]; simp; omega)
      · rcases List.mem_append.1 hx with q | q
        · exact .inl q
        · exact .inr (by rw [List.mem_singleton.1 q])
      · refine ((Touch.ofBelow hb2).trans (Touch.grown grE (fun k e => .inr (by rw [HNV.out]; exact e)))).trans (Touch.setCell _ _ _ (.inl rfl))
end
section
section
variable {w w1 w2 w' : World} {b : Nat} {M : WoM} {W W' : WoS} {Gs : Nat → Nat → Prop} {Z : Nat → Prop}
theorem Sent.from (hb : Below w.heap.size w w1) (h : Sent w1 b M Gs Z W' w') : Sent w b M Gs Z W' w' := by
  obtain ⟨nv', l', h1, h2, h3, tt⟩ := h
  exact ⟨nv', l', h1, fun k e => (h2 k e).elim .inl (fun q => .inr (Nat.le_trans hb.size q)), h3, (Touch.ofBelow hb).trans tt⟩
theorem Sent.weak {Z' : Nat → Prop} (h : Sent w b M Gs Z W' w') (hZ : ∀ k, Z k → Z' k) : Sent w b M Gs Z' W' w' := by
  obtain ⟨nv', l', h1, h2, h3, tt⟩ := h
  exact ⟨nv', l', h1, h2, fun x hx => (h3 x hx).elim .inl (fun q => .inr (hZ _ q)), tt⟩
theorem Sent.size (h : Sent w b M Gs Z W' w') : w.heap.size ≤ w'.heap.size := by
  obtain ⟨_, _, _, _, _, tt⟩ := h
  exact tt.size
theorem Sent.block (h : Sent w b M Gs Z W' w') {k : Nat} (hk : k < w.heap.size) (h1 : k ≠ b) (h2 : M.nv.ownBlock ≠ some k) : w'.heap[k]? = w.heap[k]? := by
  obtain ⟨_, _, _, _, _, tt⟩ := h
  exact tt.block k hk (fun e => e.elim h1 h2)
theorem Sent.next {W2 : WoS} (h : Sent w b M Gs Z W' w1) (hn : ∀ nv' l', PWo w1 b { M with nv := nv', l := l' } W' Gs → Sent w1 b { M with nv := nv', l := l' } Gs Z W2 w') : Sent w b M Gs Z W2 w' := by
  obtain ⟨nv', l', h1, h2, h3, tt⟩ := h
  obtain ⟨nv2, l2, g1, g2, g3, gt⟩ := hn nv' l' h1
  have s := tt.size
  refine ⟨nv2, l2, g1, fun k e => ?_, fun x hx => ?_, ?_⟩
  · rcases g2 k e with q | q
    · exact h2 k q
    · exact .inr (by omega)
  · rcases g3 x hx with q | q
    · exact h3 x q
    · exact .inr q
  · refine ⟨gt.os.trans tt.os, gt.tape.trans tt.tape, gt.output.trans tt.output, Nat.le_trans s gt.size, fun k hk hn => ?_⟩
    refine (gt.block k (by omega) (fun e => ?_)).trans (tt.block k hk hn)
    rcases e with e | e
    · exact hn (.inl e)
    · rcases h2 k e with q | q
      · exact hn (.inr q)
      · omega
end
set_option maxRecDepth 100000 in
set_option maxHeartbeats 4000000 in
theorem pwo_sendTx {b : Nat} {M : WoM} {W : WoS} {Gs : Nat → Nat → Prop} (to : Nat) (site seq wall count d0 d1 d2 d3 : Int) (ws : List Wr) (a : Option Addr) (cap : Nat) (w : World) (h : PWo w b M W Gs) (hW : WrIn w a cap ws) (hok : okTx site seq wall count d0 d1 d2 d3 ws = true) :
    Calls Tryz.prog 208 #[.pointer (some ⟨b, 0, none⟩), .int .i64 to, .agg #[.int .i64 site, .int .i64 seq, .int .i64 wall, .int .i64 count, .int .i64 d0, .int .i64 d1, .int .i64 d2, .int .i64 d3, .slice a ws.length cap]] w fun e w' => e = .returned (.tuple #[]) ∧ Sent w b M Gs (fun k => w.heap.size ≤ k) (sendW W ⟨to, .tx ⟨site, seq, wall, count, d0, d1, d2, d3, ws⟩⟩) w' := by
  have HH : Hid (PWo w b M W Gs) := h
  have hb1 := boxed (Below.refl _ w) (.cells #[.int .i64 site, .int .i64 seq, .int .i64 wall, .int .i64 count, .int .i64 d0, .int .i64 d1, .int .i64 d2, .int .i64 d3, .slice a ws.length cap] 102)
  have EN := encTx_good (hW.later hb1) hok
  clear h hW
  go_enter Tryz.func208, Tryz.ntmps208
  go_wp2_with fail
  refine EN.mono ?_
  rintro e w2 ⟨S, g, cp, rfl, ⟨hg, _⟩, hs, O, hb2⟩
  have hbw := behind hb1 hb2
  have hgl : w.heap.size ≤ g := Nat.le_trans hb1.size O.base
  have H2 := HH.out.later hbw
  have SD : Hid (Calls Tryz.prog 144 #[.pointer (some ⟨b, 0, none⟩), .agg #[.int .i64 to, .slice (some ⟨g, 0, none⟩) S.size cp]] w2 fun e w' => e = .returned (.tuple #[]) ∧ Sent w2 b M Gs (fun k => k = g) (sendW W ⟨to, .tx ⟨site, seq, wall, count, d0, d1, d2, d3, ws⟩⟩) w') :=
    pwo_send w2 H2 ⟨⟨to, .tx ⟨site, seq, wall, count, d0, d1, d2, d3, ws⟩⟩, g, cp, S⟩ ⟨O.mono (Nat.zero_le _), hs, hg⟩ (.inr (fun e => by
      rcases e with q | ⟨i, hi, q⟩
      · have : g < w.heap.size := HH.out.ltF g q
        omega
      · have : g < w.heap.size := HH.out.ltG hi q
        omega))
  clear EN H2
  go_wp2_with fail
  refine SD.out.mono ?_
  rintro e w3 ⟨rfl, hS⟩
  go_wp2_with fail
  go_end0
  exact ⟨rfl, (hS.from hbw).weak (fun k e => by rw [e]; exact hgl)⟩
set_option maxRecDepth 100000 in
set_option maxHeartbeats 4000000 in
theorem pwo_tell {b : Nat} {M : WoM} {W : WoS} {Gs : Nat → Nat → Prop} (site seq wall count d0 d1 d2 d3 : Int) (ws : List Wr) (a : Option Addr) (cap : Nat) (w : World) (h : PWo w b M W Gs) (hn4 : W.n ≤ 4) (hW : WrIn w a cap ws) (hX : ∀ k off, ws ≠ [] → a = some ⟨k, off, none⟩ → k ≠ b ∧ M.nv.ownBlock ≠ some k) (hok : okTx site seq wall count d0 d1 d2 d3 ws = true) :
    Calls Tryz.prog 151 #[.pointer (some ⟨b, 0, none⟩), .agg #[.int .i64 site, .int .i64 seq, .int .i64 wall, .int .i64 count, .int .i64 d0, .int .i64 d1, .int .i64 d2, .int .i64 d3, .slice a ws.length cap]] w fun e w' => e = .returned (.tuple #[]) ∧ Sent w b M Gs (fun k => w.heap.size ≤ k) (tellW ⟨site, seq, wall, count, d0, d1, d2, d3, ws⟩ W.n W) w' := by
  have HH : Hid (PWo w b M W Gs ∧ WrIn w a cap ws ∧ (∀ k off, ws ≠ [] → a = some ⟨k, off, none⟩ → k ≠ b ∧ M.nv.ownBlock ≠ some k) ∧ okTx site seq wall count d0 d1 d2 d3 ws = true) := ⟨h, hW, hX, hok⟩
  have hb1 := boxed (Below.refl _ w) (.cells #[.int .i64 site, .int .i64 seq, .int .i64 wall, .int .i64 count, .int .i64 d0, .int .i64 d1, .int .i64 d2, .int .i64 d3, .slice a ws.length cap] 102)
  have RX := RowL.new (w := w) (T := 102) [.int .i64 site, .int .i64 seq, .int .i64 wall, .int .i64 count, .int .i64 d0, .int .i64 d1, .int .i64 d2, .int .i64 d3, .slice a ws.length cap] rfl
  obtain ⟨pa, pc, hpv, r⟩ := rowIn_own h.pr
  have B1 := h.box.later hb1
  rw [hpv] at B1
  have c0 := B1.cell 0 _ rfl
  have hlt := h.box.lt
  obtain ⟨w1, hw1⟩ : ∃ w1, w.alloc (.cells #[.int .i64 site, .int .i64 seq, .int .i64 wall, .int .i64 count, .int .i64 d0, .int .i64 d1, .int .i64 d2, .int .i64 d3, .slice a ws.length cap] 102) = w1 := ⟨_, rfl⟩
  have HB : Hid (Below w.heap.size w w1 ∧ RowL w1 w.heap.size [.int .i64 site, .int .i64 seq, .int .i64 wall, .int .i64 count, .int .i64 d0, .int .i64 d1, .int .i64 d2, .int .i64 d3, .slice a ws.length cap] ∧ w.heap.size < w1.heap.size) := by
    rw [hw1] at hb1
    have R2 : RowL w1 w.heap.size [.int .i64 site, .int .i64 seq, .int .i64 wall, .int .i64 count, .int .i64 d0, .int .i64 d1, .int .i64 d2, .int .i64 d3, .slice a ws.length cap] := by rw [← hw1]; exact RX
    exact ⟨hb1, R2, R2.lt⟩
  have HN : Hid (W.n ≤ 4) := hn4
  rw [hw1] at c0
  clear h hW hX hok RX r hpv hb1 hn4
  go_enter Tryz.func151, Tryz.ntmps151
  go_wp2_with fail
  try rw [hw1]
  clear c0 B1 hw1
  go_loopw [10] (fun iv wr => ∃ (k : Nat) (z : Int), k ≤ W.n ∧ z = k ∧ iv = .int .i64 z ∧ Hid (Sent w1 b M Gs (fun q => w.heap.size ≤ q) (tellW ⟨site, seq, wall, count, d0, d1, d2, d3, ws⟩ k W) wr)) (fun iv _ => W.n - (intOf iv).toNat)
  case atStart => exact ⟨0, 0, by omega, rfl, rfl, Sent.none (HH.out.1.later HB.out.1) (Below.refl _ _) _⟩
  case round =>
    obtain ⟨k, z, hk, hz, rfl, HS⟩ := hrel
    have HZ : Hid (z = k) := hz
    by_cases hlt2 : k < W.n
    · have g1 : z < (W.n : Int) := by omega
      have g3 : 0 ≤ z := by omega
      have g4 : z < 4 := by have := HN.out; omega
      have nb : w.heap.size ≠ b ∧ M.nv.ownBlock ≠ some w.heap.size := ⟨by omega, fun e => by have := (HH.out.1.nr.lt _ e).2; omega⟩
      have RX := HB.out.2.1.kept (HS.out.block HB.out.2.2 nb.1 nb.2) HS.out.size
      have x0 := RX.cell 0 _ rfl
      have x1 := RX.cell 1 _ rfl
      have x2 := RX.cell 2 _ rfl
      have x3 := RX.cell 3 _ rfl
      have x4 := RX.cell 4 _ rfl
      have x5 := RX.cell 5 _ rfl
      have x6 := RX.cell 6 _ rfl
      have x7 := RX.cell 7 _ rfl
      have x8 := RX.cell 8 _ rfl
      clear hz nb
      by_cases hs : z = site
      · have HT : Hid (tellW ⟨site, seq, wall, count, d0, d1, d2, d3, ws⟩ (k + 1) W = tellW ⟨site, seq, wall, count, d0, d1, d2, d3, ws⟩ k W) := if_pos (HZ.out.symm.trans hs)
        go_wp2_with fail
        go_roundw
        case rel => exact ⟨k + 1, z + 1, by omega, by have := HZ.out; omega, by go_num, by show Sent _ _ _ _ _ _ _; rw [HT.out]; exact HS.out⟩
        case measure => simp [intOf]; have := HZ.out; omega
      · have HT : Hid (tellW ⟨site, seq, wall, count, d0, d1, d2, d3, ws⟩ (k + 1) W = sendW (tellW ⟨site, seq, wall, count, d0, d1, d2, d3, ws⟩ k W) ⟨k, .tx ⟨site, seq, wall, count, d0, d1, d2, d3, ws⟩⟩) := if_neg (fun e => hs (HZ.out.trans e))
        obtain ⟨nv', l', h1, h2, h3, tt⟩ := HS.out
        have hWr : WrIn wr a cap ws := WrIn.kept (m := ⟨⟨site, seq, wall, count, d0, d1, d2, d3, ws⟩, a, cap⟩) (HH.out.2.1.later HB.out.1) (fun q e => by
          have lq := WrIn.blk_lt (m := ⟨⟨site, seq, wall, count, d0, d1, d2, d3, ws⟩, a, cap⟩) HH.out.2.1 q e
          obtain ⟨e1, off, e2⟩ := e
          have := HH.out.2.2.1 q off e1 e2
          exact HS.out.block (Nat.lt_of_lt_of_le lq HB.out.1.size) this.1 this.2)
        have SX := pwo_sendTx k site seq wall count d0 d1 d2 d3 ws a cap wr h1 hWr HH.out.2.2.2
        rw [← HZ.out] at SX
        have HX : Hid (∀ nv l, PWo wr b { M with nv := nv, l := l } (tellW ⟨site, seq, wall, count, d0, d1, d2, d3, ws⟩ k W) Gs → True) := fun _ _ _ => trivial
        have SY : Hid (Calls Tryz.prog 208 #[.pointer (some ⟨b, 0, none⟩), .int .i64 z, .agg #[.int .i64 site, .int .i64 seq, .int .i64 wall, .int .i64 count, .int .i64 d0, .int .i64 d1, .int .i64 d2, .int .i64 d3, .slice a ws.length cap]] wr fun e w' => e = .returned (.tuple #[]) ∧ Sent w1 b M Gs (fun q => w.heap.size ≤ q) (sendW (tellW ⟨site, seq, wall, count, d0, d1, d2, d3, ws⟩ k W) ⟨k, .tx ⟨site, seq, wall, count, d0, d1, d2, d3, ws⟩⟩) w') := SX.mono fun e w' ⟨he, hS⟩ => ⟨he, by
          obtain ⟨nv2, l2, g1', g2', g3', gt⟩ := hS
          have s := tt.size
          have s1 := HB.out.1.size
          refine ⟨nv2, l2, g1', fun q e => ?_, fun x hx => ?_, ?_⟩
          · rcases g2' q e with r | r
            · exact h2 q r
            · exact .inr (by omega)
          · rcases g3' x hx with r | r
            · exact h3 x r
            · exact .inr (by omega)
          · refine ⟨gt.os.trans tt.os, gt.tape.trans tt.tape, gt.output.trans tt.output, Nat.le_trans s gt.size, fun q hq hn => ?_⟩
            refine (gt.block q (by omega) (fun e => ?_)).trans (tt.block q hq hn)
            rcases e with e | e
            · exact hn (.inl e)
            · rcases h2 q e with r | r
              · exact hn (.inr r)
              · omega⟩
        clear SX HX h1 h2 h3 tt hWr
        go_wp2_with fail
        refine SY.out.mono ?_
        rintro e w3 ⟨rfl, hS⟩
        clear SY x0 x1 x2 x3 x4 x5 x6 x7 x8
        go_wp2_with fail
        go_roundw
        case rel => exact ⟨k + 1, z + 1, by omega, by have := HZ.out; omega, by go_num, by show Sent _ _ _ _ _ _ _; rw [HT.out]; exact hS⟩
        case measure => simp [intOf]; have := HZ.out; omega
    · have g1 : ¬ z < (W.n : Int) := by omega
      have e : k = W.n := by omega
      subst e
      go_wp2_with fail
      go_end0
      exact ⟨rfl, HS.out.from HB.out.1⟩
end
section
section
variable {w w' : World} {n o : Nat} {ps ps' : Nat → Part} {Gs : Nat → Nat → Prop} {X : Nat → Prop}
theorem AsideAt.step2X (h : AsideAt w n ps Gs X o NoY) {i j : Nat} (hi : i < n) (hj : j < n) {p q : Part} {Y : Nat → Prop} (hl : Left2 p q w (Gs i) (Gs j) Y w') (hq : ∀ H', q.is w' H' → ∀ k, Y k → ¬ H' k) (e1 : ps' i = p) (e1' : ps' j = q) (e2 : ∀ m, m < n → m ≠ i → m ≠ j → ps' m = ps m) : ∃ Gs', AsideAt w' n ps' Gs' X o NoY ∧ (∀ m k, Gs' m k → Gs m k ∨ w.heap.size ≤ k) ∧ Keeps X w w' ∧ Touch (fun k => Gs i k ∨ Gs j k) w w' ∧ ∀ m k, m < n → Y k → w.heap.size ≤ k ∧ k < w'.heap.size ∧ ¬ Gs' m k := by
  obtain ⟨G', H', p1, q1, p2, q2, pq, hY, tt⟩ := hl
  refine ⟨fun m => if m = i then G' else if m = j then H' else Gs m, ⟨fun m hm => ?_, fun a b k ha hb hab hk hk2 => ?_, fun k hk => ⟨Nat.lt_of_lt_of_le (h.free k hk).1 tt.size, fun m hm hg => ?_⟩, fun k hk => hk.elim⟩, fun m k hk => ?_, ⟨tt.os, tt.tape, tt.output, tt.size, fun k hk => tt.block k (h.free k hk).1 (fun e => e.elim ((h.free k hk).2 i hi) ((h.free k hk).2 j hj))⟩, tt, fun m k hm hk => ⟨(hY k hk).1, (hY k hk).2.1, fun hg => ?_⟩⟩
  · by_cases g1 : m = i
    · rw [if_pos g1, g1, e1]; exact p1
    · by_cases g2 : m = j
      · rw [if_neg g1, if_pos g2, g2, e1']; exact q1
      · rw [if_neg g1, if_neg g2, e2 m hm g1 g2]
        exact (ps m).kept _ _ _ (h.is m hm) (fun k hk => tt.block k ((ps m).lt _ _ (h.is m hm) k hk) (fun e => by
          rcases e with e | e
          · exact h.apart m i k hm hi g1 hk e
          · exact h.apart m j k hm hj g2 hk e)) tt.size
  · have old : ∀ m, m < n → m ≠ i → m ≠ j → Gs m k → ¬ G' k ∧ ¬ H' k := fun m hm g1 g2 hg => by
      have lt := (ps m).lt _ _ (h.is m hm) k hg
      constructor
      · intro e
        rcases p2 k e with h1 | h1
        · exact h.apart m i k hm hi g1 hg h1
        · omega
      · intro e
        rcases q2 k e with h1 | h1
        · exact h.apart m j k hm hj g2 hg h1
        · omega
    by_cases ai : a = i
    · rw [if_pos ai] at hk
      have bi : b ≠ i := fun e => hab (ai.trans e.symm)
      rw [if_neg bi] at hk2
      by_cases bj : b = j
      · rw [if_pos bj] at hk2
        exact pq k hk hk2
      · rw [if_neg bj] at hk2
        exact (old b hb bi bj hk2).1 hk
    · rw [if_neg ai] at hk
      by_cases aj : a = j
      · rw [if_pos aj] at hk
        have bj : b ≠ j := fun e => hab (aj.trans e.symm)
        by_cases bi : b = i
        · rw [if_pos bi] at hk2
          exact pq k hk2 hk
        · rw [if_neg bi, if_neg bj] at hk2
          exact (old b hb bi bj hk2).2 hk
      · rw [if_neg aj] at hk
        by_cases bi : b = i
        · rw [if_pos bi] at hk2
          exact (old a ha ai aj hk).1 hk2
        · rw [if_neg bi] at hk2
          by_cases bj : b = j
          · rw [if_pos bj] at hk2
            exact (old a ha ai aj hk).2 hk2
          · rw [if_neg bj] at hk2
            exact h.apart a b k ha hb hab hk hk2
  · have f := h.free k hk
    by_cases g1 : m = i
    · rw [if_pos g1] at hg
      rcases p2 k hg with h1 | h1
      · exact f.2 i hi h1
      · have := f.1; omega
    · rw [if_neg g1] at hg
      by_cases g2 : m = j
      · rw [if_pos g2] at hg
        rcases q2 k hg with h1 | h1
        · exact f.2 j hj h1
        · have := f.1; omega
      · rw [if_neg g2] at hg
        exact f.2 m hm hg
  · have hk : (if m = i then G' else if m = j then H' else Gs m) k := hk
    by_cases g1 : m = i
    · rw [if_pos g1] at hk
      rw [g1]
      exact p2 k hk
    · rw [if_neg g1] at hk
      by_cases g2 : m = j
      · rw [if_pos g2] at hk
        rw [g2]
        exact q2 k hk
      · rw [if_neg g2] at hk
        exact .inl hk
  · have hg : (if m = i then G' else if m = j then H' else Gs m) k := hg
    by_cases g1 : m = i
    · rw [if_pos g1] at hg
      exact (hY k hk).2.2 hg
    · rw [if_neg g1] at hg
      by_cases g2 : m = j
      · rw [if_pos g2] at hg
        exact hq H' q1 k hk hg
      · rw [if_neg g2] at hg
        have := (ps m).lt _ _ (h.is m hm) k hg
        have := (hY k hk).1
        omega
end
/-- a Commit of a client: the error, the transaction, and the world behind it -/
def wcE (W : WoS) (i : Nat) : Int := scomE (W.S (W.at_ i)) (W.ses i) (W.wall (W.at_ i))
def wcT (W : WoS) (i : Nat) : TxP := scomT (W.S (W.at_ i)) (W.ses i) (W.wall (W.at_ i))
def wcW0 (W : WoS) (i : Nat) : WoS := setSes (setSite W (W.at_ i) (scomS (W.S (W.at_ i)) (W.ses i) (W.wall (W.at_ i)))) i (scomSes (W.S (W.at_ i)) (W.ses i) (W.wall (W.at_ i)))
def wcW (W : WoS) (i : Nat) : WoS := if 0 < (wcT W i).seq then tellW (wcT W i) W.n (wcW0 W i) else wcW0 W i
def WCommit (w : World) (b : Nat) (G : Nat → Prop) (W : WoS) (i : Nat) (e : Ending) (w' : World) : Prop :=
  ∃ m : TxM, e = .returned (.tuple #[txV m, errV (wcE W i)]) ∧ m.t = wcT W i ∧ Hid (WrIn w' m.wa m.wc m.t.ws ∧ ∃ G', PW w' b G' (wcW W i) ∧ (∀ k, G' k → G k ∨ w.heap.size ≤ k) ∧ Touch G w w' ∧ ∀ k, m.blk k → w.heap.size ≤ k ∧ ¬ G' k)
theorem scom_err {S : SiteS} {s : SesS} {now : Int} (h : scomE S s now ≠ 0) : scomT S s now = tx0.t ∧ scomS S s now = S ∧ scomSes S s now = s := by
  cases ho : s.opn with
  | false =>
    have := scom_shut (S := S) (now := now) ho
    exact ⟨this.2.1, this.2.2.1, this.2.2.2⟩
  | true =>
    by_cases hl : (allW s.ws).length = 0
    · exact absurd (scom_none (S := S) (now := now) ho hl).1 h
    · have y := scom_yes (S := S) (now := now) ho hl
      rw [y.1] at h
      have b := scom_bad (S := S) (now := now) ho hl h
      exact ⟨y.2.1.trans b.2.2, y.2.2.trans b.2.1, b.1⟩
section
variable {w wA wB wC wD : World} {b : Nat} {G Y : Nat → Prop} {M : WoM} {W W' : WoS} {Gs : Nat → Nat → Prop} {i : Nat}
theorem PWo.com (h : PWo w b M W Gs) (hi : i < W.c) (ha : W.at_ i < W.n) (hA : Below w.heap.size w wA) {S' : SiteS} {s' : SesS} (hl : Left2 (sesP (M.bs i) s') (siteX (M.bp (W.at_ i)) S' Y) wA (Gs (W.n + i)) (Gs (W.at_ i)) Y wB) (hB : Below wB.heap.size wB wC) :
    ∃ Gs', PWo wC b M (setSes (setSite W (W.at_ i) S') i s') Gs' ∧ (∀ m k, Gs' m k → Gs m k ∨ wA.heap.size ≤ k) ∧ Touch (fun k => Gs (W.n + i) k ∨ Gs (W.at_ i) k) w wC ∧ ∀ m k, m < W.n + W.c → Y k → wA.heap.size ≤ k ∧ k < wB.heap.size ∧ ¬ Gs' m k := by
  have hA' := h.later hA
  obtain ⟨Gs', f, g, kp, tt, hy⟩ := hA'.fam.step2X (ps' := fun m => if m = W.at_ i then siteX (M.bp (W.at_ i)) S' Y else woParts M (setSes (setSite W (W.at_ i) S') i s') m) (i := W.n + i) (j := W.at_ i) (by omega) (by omega) hl (fun _ q => q.2) (by
    show (if W.n + i = W.at_ i then _ else _) = _
    rw [if_neg (by omega)]
    show (if W.n + i < W.n then _ else _) = _
    rw [if_neg (by omega)]
    show sesP (M.bs (W.n + i - W.n)) (setN W.ses i s' (W.n + i - W.n)) = _
    rw [show W.n + i - W.n = i by omega, setN_same]) (by show (if W.at_ i = W.at_ i then _ else _) = _; rw [if_pos rfl]) (fun m hm h1 h2 => by
    show (if m = W.at_ i then _ else _) = _
    rw [if_neg h2]
    show (if m < W.n then siteP (M.bp m) (setN W.S (W.at_ i) S' m) else sesP (M.bs (m - W.n)) (setN W.ses i s' (m - W.n))) = (if m < W.n then _ else _)
    by_cases q : m < W.n
    · rw [if_pos q, if_pos q, setN_ne _ _ h2]
    · rw [if_neg q, if_neg q, setN_ne _ _ (by omega)])
  have f2 : AsideAt wB (W.n + W.c) (woParts M (setSes (setSite W (W.at_ i) S') i s')) Gs' (footW b M) (W.n + W.c) NoY := by
    refine ⟨fun m hm => ?_, f.apart, f.free, f.half⟩
    have := f.is m hm
    by_cases q : m = W.at_ i
    · have e : (if m = W.at_ i then siteX (M.bp (W.at_ i)) S' Y else woParts M (setSes (setSite W (W.at_ i) S') i s') m) = siteX (M.bp (W.at_ i)) S' Y := if_pos q
      rw [e] at this
      have e2 : woParts M (setSes (setSite W (W.at_ i) S') i s') m = siteP (M.bp (W.at_ i)) S' := by
        rw [q]
        show (if W.at_ i < W.n then siteP (M.bp (W.at_ i)) (setN W.S (W.at_ i) S' (W.at_ i)) else _) = _
        rw [if_pos ha, setN_same]
      rw [e2]
      exact this.1
    · have e : (if m = W.at_ i then siteX (M.bp (W.at_ i)) S' Y else woParts M (setSes (setSite W (W.at_ i) S') i s') m) = woParts M (setSes (setSite W (W.at_ i) S') i s') m := if_neg q
      rw [e] at this
      exact this
  exact ⟨Gs', (hA'.keep kp f2 rfl rfl rfl rfl rfl rfl).later hB, g, ((Touch.ofBelow hA).trans tt).trans (Touch.ofBelow hB), hy⟩
theorem PWo.told (h : PWo w b M W Gs) (hG : ∀ k, G k ↔ allG b M (W.n + W.c) Gs k) (hi : i < W.c) (ha : W.at_ i < W.n) {W1 : WoS} {Gs' : Nat → Nat → Prop} (e1 : W1.n = W.n) (e2 : W1.c = W.c) {B : Nat} (hB1 : w.heap.size ≤ B) (hB2 : B ≤ wC.heap.size) (g : ∀ m k, Gs' m k → Gs m k ∨ B ≤ k) (tt : Touch (fun k => Gs (W.n + i) k ∨ Gs (W.at_ i) k) w wC) (hy : ∀ m k, m < W.n + W.c → Y k → B ≤ k ∧ k < wC.heap.size ∧ ¬ Gs' m k) (hS : Sent wC b M Gs' (fun k => wC.heap.size ≤ k) W1 wD) :
    ∃ G', PW wD b G' W1 ∧ (∀ k, G' k → G k ∨ B ≤ k) ∧ Touch G w wD ∧ ∀ k, Y k → B ≤ k ∧ ¬ G' k := by
  obtain ⟨nv', l', p1, p2, p3, t2⟩ := hS
  have sC := tt.size
  have hc : ∀ k, allG b { M with nv := nv', l := l' } (W1.n + W1.c) Gs' k → G k ∨ wC.heap.size ≤ k ∨ (B ≤ k ∧ ∃ m, m < W.n + W.c ∧ Gs' m k) := fun k hk => by
    rw [e1, e2] at hk
    rcases hk with (e | e | e | e | ⟨x, hx, e⟩) | ⟨j, hj, e⟩
    · exact .inl ((hG k).2 (.inl (.inl e)))
    · exact .inl ((hG k).2 (.inl (.inr (.inl e))))
    · exact .inl ((hG k).2 (.inl (.inr (.inr (.inl e)))))
    · rcases p2 k e with q | q
      · exact .inl ((hG k).2 (.inl (.inr (.inr (.inr (.inl q))))))
      · exact .inr (.inl q)
    · rcases p3 x hx with q | q
      · exact .inl ((hG k).2 (.inl (.inr (.inr (.inr (.inr ⟨x, q, e⟩))))))
      · rw [e] at q
        exact .inr (.inl q)
    · rcases g j k e with q | q
      · exact .inl ((hG k).2 (.inr ⟨j, hj, q⟩))
      · exact .inr (.inr ⟨q, j, hj, e⟩)
  have hlt : ∀ k, G k → k < w.heap.size := fun k hk => by
    rcases (hG k).1 hk with q | ⟨j, hj, q⟩
    · exact h.ltF k q
    · exact h.ltG hj q
  refine ⟨_, ⟨_, Gs', p1, fun _ => Iff.rfl⟩, fun k hk => ?_, ⟨t2.os.trans tt.os, t2.tape.trans tt.tape, t2.output.trans tt.output, Nat.le_trans sC t2.size, fun k hk hn => ?_⟩, fun k hk => ⟨(hy 0 k (by omega) hk).1, fun e => ?_⟩⟩
  · rcases hc k hk with q | q | q
    · exact .inl q
    · exact .inr (by omega)
    · exact .inr q.1
  · refine (t2.block k (by omega) (fun e => hn ((hG k).2 (.inl (e.elim .inl (fun q => .inr (.inr (.inr (.inl q))))))))).trans (tt.block k hk (fun e => ?_))
    rcases e with e | e
    · exact hn ((hG k).2 (.inr ⟨W.n + i, by omega, e⟩))
    · exact hn ((hG k).2 (.inr ⟨W.at_ i, by omega, e⟩))
  · rcases hc k e with q | q | ⟨_, m, hm, q⟩
    · have := hlt k q
      have := (hy 0 k (by omega) hk).1
      omega
    · have := (hy 0 k (by omega) hk).2.1
      omega
    · exact (hy m k hm hk).2.2 q
theorem wc_end {m : TxM} {B : Nat} {W1 : WoS} (h : WrIn wD m.wa m.wc m.t.ws ∧ ∃ G', PW wD b G' W1 ∧ (∀ k, G' k → G k ∨ B ≤ k) ∧ Touch G w wD ∧ ∀ k, m.blk k → B ≤ k ∧ ¬ G' k) (hG : ∀ k, G k → k < w.heap.size) (hB : w.heap.size < B) (x0 x1 x2 x3 x4 x5 x6 x7 : Int) (v : Value) :
    Hid (WrIn (setTx wD w.heap.size x0 x1 x2 x3 x4 x5 x6 x7 v) m.wa m.wc m.t.ws ∧ ∃ G', PW (setTx wD w.heap.size x0 x1 x2 x3 x4 x5 x6 x7 v) b G' W1 ∧ (∀ k, G' k → G k ∨ w.heap.size ≤ k) ∧ Touch G w (setTx wD w.heap.size x0 x1 x2 x3 x4 x5 x6 x7 v) ∧ ∀ k, m.blk k → w.heap.size ≤ k ∧ ¬ G' k) := by
  obtain ⟨h1, G', h2, h3, tt, h4⟩ := h
  have ne : ∀ k, G' k → k ≠ w.heap.size := fun k hk e => by
    rcases h3 k hk with q | q
    · have := hG k q; omega
    · omega
  have hsz : (setTx wD w.heap.size x0 x1 x2 x3 x4 x5 x6 x7 v).heap.size = wD.heap.size := by simp only [setTx, World.setCell, Array.size_modify]
  refine ⟨h1.kept (fun k hk => setTx_block (fun e => by have := (h4 k hk).1; omega) _ _ _ _ _ _ _ _ _), G', h2.kept (fun k hk => setTx_block (ne k hk) _ _ _ _ _ _ _ _ _) (by omega), fun k hk => ?_, touch_tx tt (Nat.le_refl _) _ _ _ _ _ _ _ _ _, fun k hk => ⟨by have := (h4 k hk).1; omega, (h4 k hk).2⟩⟩
  rcases h3 k hk with q | q
  · exact .inl q
  · exact .inr (by omega)
end
end
section
section
variable {w w1 w2 : World} {b : Nat} {G : Nat → Prop} {W W1 W2 : WoS}
theorem PWPo.get (h : PWPo w b G W1 w1) : ∃ G1, PW w1 b G1 W1 := by
  obtain ⟨G1, h1, _⟩ := h
  exact ⟨G1, h1⟩
theorem PWPo.from (hb : Below w.heap.size w w1) (h : PWPo w1 b G W2 w2) : PWPo w b G W2 w2 := by
  obtain ⟨G1, h1, h2, tt⟩ := h
  exact ⟨G1, h1, fun q hq => (h2 q hq).elim .inl (fun e => .inr (Nat.le_trans hb.size e)), (Touch.ofBelow hb).trans tt⟩
end
theorem ask_ok {W : WoS} (hw : WfW W) {i : Nat} (hi : i < W.n) : AskV.ok ⟨i, (W.S i).a0, (W.S i).a1, (W.S i).a2, (W.S i).a3⟩ = true := by
  have n4 := hw.n4
  have I := hw.inv i hi
  have h0 := I.a0
  have h1 := I.a1
  have h2 := I.a2
  have h3 := I.a3
  unfold small at h0 h1 h2 h3
  simp only [AskV.ok, Bool.and_eq_true, inB_iff, timesB, timeB_iff]
  refine ⟨by omega, ⟨⟨by omega, by omega⟩, by omega⟩, by omega⟩
set_option maxRecDepth 100000 in
set_option maxHeartbeats 4000000 in
theorem pw_ask_self {b : Nat} {G : Nat → Prop} {W : WoS} (w : World) (h : PW w b G W) {i : Nat} (hi : i < W.n) :
    Calls Tryz.prog 96 #[.pointer (some ⟨b, 0, none⟩), .int .i64 i, .int .i64 i] w fun e w' => e = .returned (errV 2) ∧ PWPo w b G W w' := by
  obtain ⟨M, Gs, h, hG⟩ := h
  have HH : Hid (PWo w b M W Gs ∧ (∀ k, G k ↔ allG b M (W.n + W.c) Gs k)) := ⟨h, hG⟩
  obtain ⟨pb, pc, c0, hpc, hpb, y0, y1⟩ := h.place hi
  have I1 := wIsSite_is (k := i) (v := true) w c0 (by simp; omega)
  have hlt := h.box.lt
  clear h hG
  go_enter Tryz.func96, Tryz.ntmps96
  go_wp2_with fail
  refine I1.mono ?_
  rintro e w2 ⟨rfl, hw2⟩
  have hw3 := hw2.symm
  clear hw2
  subst hw3
  go_wp2_with fail
  refine I1.mono ?_
  rintro e w2 ⟨rfl, hw2⟩
  have hw3 := hw2.symm
  clear hw2 I1
  subst hw3
  go_wp2_with fail
  go_ret
  exact ⟨rfl, PWPo.same ⟨M, Gs, HH.out.1, HH.out.2⟩ (Below.refl _ _)⟩
set_option maxRecDepth 100000 in
set_option maxHeartbeats 4000000 in
theorem pw_ask {b : Nat} {G : Nat → Prop} {W : WoS} (w : World) (h : PW w b G W) (hw : WfW W) {i o : Nat} (hi : i < W.n) (ho : o < W.n) (hne : i ≠ o) :
    Calls Tryz.prog 96 #[.pointer (some ⟨b, 0, none⟩), .int .i64 i, .int .i64 o] w fun e w' => e = .returned (errV 0) ∧ PWPo w b G (askW W i o) w' := by
  obtain ⟨M, Gs, h, hG⟩ := h
  have HH : Hid (PWo w b M W Gs ∧ (∀ k, G k ↔ allG b M (W.n + W.c) Gs k) ∧ WfW W) := ⟨h, hG, hw⟩
  obtain ⟨pb, pc, c0, hpc, hpb, y0, y1⟩ := h.place hi
  have I1 := wIsSite_is (k := i) (v := true) w c0 (by simp; omega)
  have I2 := wIsSite_is (k := o) (v := true) w c0 (by simp; omega)
  have hlt := h.box.lt
  have q1 : (i : Int) < (W.n : Int) := by omega
  have PS1 := h.site hi
  have q3 : ¬ (i : Int) = (o : Int) := by omega
  have AP := applied_any w PS1
  have HI : Hid (i < W.n) := hi
  clear h hG hw PS1 hne
  go_enter Tryz.func96, Tryz.ntmps96
  go_wp2_with fail
  refine I1.mono ?_
  rintro e w2 ⟨rfl, hw2⟩
  have hw3 := hw2.symm
  clear hw2 I1
  subst hw3
  go_wp2_with fail
  refine I2.mono ?_
  rintro e w2 ⟨rfl, hw2⟩
  have hw3 := hw2.symm
  clear hw2 I2
  subst hw3
  go_wp2_with fail
  refine AP.mono ?_
  rintro e w3 ⟨rfl, hb3⟩
  have EN := encAsk_good (ask_ok HH.out.2.2 HI.out) w3
  clear AP
  go_wp2_with fail
  refine EN.mono ?_
  rintro e w4 ⟨S, g, cp, rfl, ⟨hg, _⟩, hs, O, hb4⟩
  have hbw := behind hb3 hb4
  have hgl : w.heap.size ≤ g := Nat.le_trans hb3.size O.base
  have H2 := HH.out.1.later hbw
  have SD : Hid (Calls Tryz.prog 144 #[.pointer (some ⟨b, 0, none⟩), .agg #[.int .i64 o, .slice (some ⟨g, 0, none⟩) S.size cp]] w4 fun e w' => e = .returned (.tuple #[]) ∧ Sent w4 b M Gs (fun k => k = g) (askW W i o) w') :=
    pwo_send w4 H2 ⟨⟨o, .ask i (W.S i).a0 (W.S i).a1 (W.S i).a2 (W.S i).a3⟩, g, cp, S⟩ ⟨O.mono (Nat.zero_le _), hs, hg⟩ (.inr (fun e => by
      rcases e with q | ⟨j, hj, q⟩
      · have : g < w.heap.size := HH.out.1.ltF g q
        omega
      · have : g < w.heap.size := HH.out.1.ltG hj q
        omega))
  clear EN H2
  go_wp2_with fail
  refine SD.out.mono ?_
  rintro e w5 ⟨rfl, hS⟩
  go_wp2_with fail
  go_ret
  refine ⟨rfl, ?_⟩
  have sm := sendW_same W ⟨o, .ask i (W.S i).a0 (W.S i).a1 (W.S i).a2 (W.S i).a3⟩
  exact (hS.from hbw).post (W := W) HH.out.2.1 sm.n sm.c (fun k e => .inr (by rw [e]; exact hgl))
set_option maxRecDepth 100000 in
set_option maxHeartbeats 4000000 in
theorem pw_twice {b : Nat} {G : Nat → Prop} {W : WoS} (w : World) (h : PW w b G W) {i : Nat} {g : GrS} (hi : W.net[i]? = some g) :
    Calls Tryz.prog 116 #[.pointer (some ⟨b, 0, none⟩), .int .i64 i] w fun e w' => e = .returned (errV 0) ∧ PWPo w b G (sendW W g) w' := by
  obtain ⟨M, Gs, h, hG⟩ := h
  have hlen : M.l.length = W.net.length := by rw [← h.nl]; simp
  have hil : i < M.l.length := by have := (List.getElem?_eq_some_iff.1 hi).1; omega
  obtain ⟨m, hm⟩ : ∃ m, M.l[i]? = some m := ⟨_, List.getElem?_eq_getElem hil⟩
  have hmg : m.g = g := by
    have := hi
    rw [← h.nl, List.getElem?_map, hm] at this
    exact Option.some.inj this
  subst hmg
  have hml : m ∈ M.l := List.mem_of_getElem? hm
  obtain ⟨na, nc, hnv, r⟩ := rowIn_own h.nr
  obtain ⟨nb, rfl, hnb, hc⟩ : ∃ g, na = some ⟨g, 0, none⟩ ∧ g < w.heap.size ∧ ∀ j u, (netC M.l)[j]? = some u → w.cell? ⟨g, j, none⟩ = some u := by
    rcases r.held with h0 | h0
    · omega
    · exact h0
  have c2 := h.box.cell 2 _ rfl
  rw [hnv] at c2
  have x0 := hc _ _ (net_at hm).1
  have x1 := hc _ _ (net_at hm).2
  have IU := isUnder_is (k := i) (v := true) w c2 (by simp; omega)
  have SD := pwo_send w h m (h.gr m hml) (.inl ⟨m, hml, rfl⟩)
  have HH : Hid ((∀ k, G k ↔ allG b M (W.n + W.c) Gs k) ∧ m ∈ M.l) := ⟨hG, hml⟩
  have hlt := h.box.lt
  have q1 : (i : Int) < (M.l.length : Int) := by omega
  have hrl := r.len
  clear h hG hc r hnv hm hml hi hlen
  go_enter Tryz.func116, Tryz.ntmps116
  go_wp2_with fail
  refine IU.mono ?_
  rintro e w2 ⟨rfl, hw2⟩
  have hw3 := hw2.symm
  clear hw2 IU
  subst hw3
  go_wp2_with fail
  refine SD.mono ?_
  rintro e w5 ⟨rfl, hS⟩
  go_wp2_with fail
  go_ret
  have sm := sendW_same W m.g
  exact ⟨rfl, hS.post (W := W) HH.out.1 sm.n sm.c (fun k e => .inl ((HH.out.1 k).2 (.inl (.inr (.inr (.inr (.inr ⟨m, HH.out.2, e.symm⟩)))))))⟩
end
section
theorem netC_append (l l' : List GrM) : netC (l ++ l') = netC l ++ netC l' := by simp [netC]
theorem netC_one (l : List GrM) : ∀ u ∈ netC l, u.oneCell' = true := by
  intro u hu
  obtain ⟨x, _, hx⟩ := List.mem_flatMap.1 hu
  exact gramC_one x u hx
theorem zeroGram : ∀ w, (zeroValue 205).run Tryz.prog w = .ok (.agg #[.int .i64 0, .slice none 0 0]) w := fun w => by kernel_rfl
theorem zeroGram_list : (Builtin.zeroCells (Value.agg #[.int .i64 0, .slice none 0 0]).cells 1).toList = [.int .i64 0, .slice none 0 0] := by
  simp only [Builtin.zeroCells, Array.toList_map]
  have h2 : (Value.agg #[.int .i64 0, .slice none 0 0]).cells = #[.int .i64 0, .slice none 0 0] := rfl
  rw [h2]
  have e : (#[Value.int .i64 0, .slice none 0 0] : Array Value).size = 2 := rfl
  rw [e]
  simp [List.range_succ]
theorem zeroGram_one : ∀ u ∈ (Builtin.zeroCells (Value.agg #[.int .i64 0, .slice none 0 0]).cells 1).toList, u.oneCell' = true := by
  rw [zeroGram_list]
  intro u hu
  simp at hu
  rcases hu with rfl | rfl <;> rfl
set_option maxRecDepth 100000 in
set_option maxHeartbeats 4000000 in
theorem del_any {g cap i : Nat} {l : List GrM} (w : World) (hown : w.ownsRow 0 205 2 (.slice (some ⟨g, 0, none⟩) l.length cap) l.length (netC l)) (hi : i < l.length) (hl : l.length ≤ 300) :
    Calls Tryz.prog 153 #[.slice (some ⟨g, 0, none⟩) l.length cap, .int .i64 i, .int .i64 ((i : Int) + 1)] w fun e w' => e = .returned (.slice (some ⟨g, 0, none⟩) (l.length - 1) cap) ∧ w'.ownsRow 0 205 2 (.slice (some ⟨g, 0, none⟩) (l.length - 1) cap) (l.length - 1) (netC (l.eraseIdx i)) ∧ Only g w w' := by
  obtain ⟨i0, hinfo, hz0, hz1, hz2⟩ := info_parts gramInfo
  obtain ⟨cur, hheap, hcap, hmax, hsz⟩ : ∃ cur, w.heap[g]? = some (.cells cur 205 (0, 0)) ∧ l.length ≤ cap ∧ cap ≤ maxLen ∧ cur.size = cap * 2 := by
    rcases hown.2 with ⟨h, _⟩ | ⟨g2, cap2, cur, e, hb, hg, hnc, hm, hs, ht⟩
    · cases h
    · injection e with e1 e2 e3
      injection e1 with e1
      injection e1 with e1
      subst e1 e3
      exact ⟨cur, hg, hnc, hm, hs⟩
  have hcell : ∀ j u, (netC l)[j]? = some u → w.cell? ⟨g, j, none⟩ = some u := fun j u hu => by
    have hc := hown.cells (g := g) rfl j u hu
    rw [addr_add] at hc
    exact hc
  have hex : ∀ j, j < cap * 2 → (w.cell? ⟨g, j, none⟩).isSome = true ∧ w.frozen? ⟨g, j, none⟩ = false := fun j hj => by
    constructor
    · rw [cell_of_row w g j cur _ (0, 0) hheap, Array.getElem?_eq_getElem (by omega)]
      rfl
    · unfold World.frozen?
      rw [hheap]
      simp
  have hsplit : netC (l.eraseIdx i) = netC (l.take i) ++ netC (l.drop (i + 1)) := by rw [List.eraseIdx_eq_take_drop_succ, netC_append]
  have la : (netC (l.take i)).length = i * 2 := by rw [netC_length, List.length_take]; omega
  have lv : (netC (l.drop (i + 1))).length = (l.length - (i + 1)) * 2 := by rw [netC_length, List.length_drop]
  have hall : netC l = netC (l.take (i + 1)) ++ netC (l.drop (i + 1)) := by rw [← netC_append, List.take_append_drop]
  have lt1 : (netC (l.take (i + 1))).length = (i + 1) * 2 := by rw [netC_length, List.length_take]; omega
  obtain ⟨W1, hW1⟩ : ∃ W1, W1 = w.drew.setCells g (0 + i * 2) (netC (l.drop (i + 1))) := ⟨_, rfl⟩
  have hfin := cells_shift2 (w := w.drew) (g := g) (netC (l.take i)) (netC (l.drop (i + 1))) [.int .i64 0, .slice none 0 0] (fun j u hu => by
    refine hcell j u ?_
    have : netC l = netC (l.take i) ++ netC (l.drop i) := by rw [← netC_append, List.take_append_drop]
    rw [this, List.getElem?_append_left (List.getElem?_eq_some_iff.1 hu).1]
    exact hu) (fun j hj => (hex j (by rw [la, lv] at hj; simp at hj; omega)).1)
  rw [la, lv, show i * 2 + (l.length - (i + 1)) * 2 = (l.length - 1) * 2 by omega] at hfin
  have hd1 : w.drew.heap[g]? = some (.cells cur 205 (0, 0)) := hheap
  obtain ⟨cur1, hh1, hs1⟩ := heap_setCells g (netC (l.drop (i + 1))) (i * 2) w.drew hd1
  obtain ⟨cur2, hh2, hs2⟩ := heap_setCells g [.int .i64 0, .slice none 0 0] ((l.length - 1) * 2) _ hh1
  have FIN : Hid (((w.drew.setCells g (i * 2) (netC (l.drop (i + 1)))).setCells g ((l.length - 1) * 2) [.int .i64 0, .slice none 0 0]).ownsRow 0 205 2 (.slice (some ⟨g, 0, none⟩) (l.length - 1) cap) (l.length - 1) (netC (l.eraseIdx i))) := by
    refine own_of_cells (Nat.zero_le _) hh2 hmax (by rw [hs2, hs1, hsz]) (by omega) (by rw [netC_length, List.length_eraseIdx, if_pos hi]) (fun j u hu => ?_)
    rw [hsplit] at hu
    exact hfin j u (by rw [List.getElem?_append_left (List.getElem?_eq_some_iff.1 hu).1]; exact hu)
  have ONL : Hid (Only g w ((w.drew.setCells g (i * 2) (netC (l.drop (i + 1)))).setCells g ((l.length - 1) * 2) [.int .i64 0, .slice none 0 0])) :=
    Only.trans (Only.trans (Only.ofBelow (Below.refl _ w).drew) (only_setCells g _ _ _) (.inl rfl)) (only_setCells g _ _ _) (.inl rfl)
  have s3 : Hid (∀ t, t < (netC (l.drop (i + 1))).length → (w.drew.cell? ⟨g, 0 + i * 2 + t, none⟩).isSome = true ∧ w.drew.frozen? ⟨g, 0 + i * 2 + t, none⟩ = false) := fun t ht => by
    rw [lv] at ht
    exact hex _ (by omega)
  have hcl : ∀ ty, (Builtin.clear_ #[160] ty #[.slice (some ⟨g, (l.length - 1) * 2, none⟩) 1 (cap - (l.length - 1))]).run Tryz.prog W1 = .ok (.tuple #[]) (W1.setCells g ((l.length - 1) * 2) [.int .i64 0, .slice none 0 0]) := fun ty => by
    have hW1c : ∀ j, j < cap * 2 → (W1.cell? ⟨g, j, none⟩).isSome = true ∧ W1.frozen? ⟨g, j, none⟩ = false := fun j hj => by
      have hh : W1.heap[g]? = some (.cells cur1 205 (0, 0)) := by rw [hW1, Nat.zero_add]; exact hh1
      constructor
      · rw [cell_of_row W1 g j cur1 _ (0, 0) hh, Array.getElem?_eq_getElem (by omega)]
        rfl
      · unfold World.frozen?
        rw [hh]
        simp
    have hzl : (Builtin.zeroCells (Value.agg #[.int .i64 0, .slice none 0 0]).cells 1).size = 2 := by rw [← Array.length_toList, zeroGram_list]; rfl
    have := run_clear_k W1 160 205 ty (.agg #[.int .i64 0, .slice none 0 0]) Tryz.underlying160 zeroGram g ((l.length - 1) * 2) 1 (cap - (l.length - 1)) (by omega) zeroGram_one (fun j hj => (hW1c _ (by rw [hzl] at hj; omega)).1) (fun j hj => (hW1c _ (by rw [hzl] at hj; omega)).2)
    rw [zeroGram_list] at this
    exact this
  have HW1 : Hid (W1 = w.drew.setCells g (0 + i * 2) (netC (l.drop (i + 1)))) := hW1
  have q0 : (i : Int) < (l.length : Int) := by omega
  have q1 : (i : Int) + 1 ≤ (l.length : Int) := by omega
  have q2 : (l.length : Int) ≤ (cap : Int) := by omega
  have q3 : (i : Int) ≤ (cap : Int) := by omega
  have q4 : (i : Int) + 1 ≤ (cap : Int) := by omega
  have q5 : (l.length : Int) ≤ 300 := by omega
  have q6 : i + (l.length - (i + 1)) = l.length - 1 := by omega
  have q7 : ¬ (i : Int) = (i : Int) + 1 := by omega
  have q8 : (i : Int) ≤ (i : Int) + 1 := by omega
  have q9 : 0 ≤ (i : Int) + 1 := by omega
  have q10 : l.length - (l.length - 1) = 1 := by omega
  have HL : Hid (i < l.length ∧ l.length ≤ cap) := ⟨hi, hcap⟩
  have hsrc : Hid (∀ A : Addr, (if cap = i + 1 then some (⟨g, 0, none⟩ : Addr) else some ⟨g, (i + 1) * 2, none⟩) = some A → ∀ t u, (netC (l.drop (i + 1)))[t]? = some u → w.drew.cell? (A.add t) = some u) := fun A hA t u hu => by
    by_cases hc : cap = i + 1
    · have : l.length - (i + 1) = 0 := by omega
      have ht := (List.getElem?_eq_some_iff.1 hu).1
      rw [lv, this] at ht
      omega
    · rw [if_neg hc] at hA
      have hA' : (⟨g, (i + 1) * 2, none⟩ : Addr) = A := Option.some.inj hA
      subst hA'
      have hadd : (⟨g, (i + 1) * 2, none⟩ : Addr).add t = ⟨g, (i + 1) * 2 + t, none⟩ := by unfold Addr.add; split <;> simp_all
      rw [hadd]
      refine hcell _ u ?_
      rw [hall, List.getElem?_append_right (by rw [lt1]; omega), lt1, show (i + 1) * 2 + t - (i + 1) * 2 = t by omega]
      exact hu
  have s1 : Hid ((netC (l.drop (i + 1))).length = (l.length - (i + 1)) * 2) := lv
  clear hown hfin hh1 hh2 hs1 hs2 hd1 hheap hsz hex hcell hsplit la lv hall lt1 hi hl hW1 hmax
  by_cases hc : cap = i + 1
  · subst hc
    have z1 : l.length - i = 1 := by have := HL.out; omega
    have z2 : l.length - 1 = i := by have := HL.out; omega
    rw [z2, show i + 1 - i = 1 by omega] at hcl
    have Z2 : Hid (l.length - 1 = i) := z2
    clear z2 q10 q6
    have HA : Hid (∀ t u, (netC (l.drop (i + 1)))[t]? = some u → w.drew.cell? ((⟨g, 0, none⟩ : Addr).add t) = some u) := hsrc.out _ (if_pos rfl)
    go_enter Tryz.func153, Tryz.ntmps153
    go_wp2_with fail
    go_region_law (refine step_append_room rfl (.tmp 22) (.tmp 25) 160 rfl 205 i0 2 Tryz.underlying160 hinfo hz1 g 0 i (i + 1) (by simp [Act.eval, Act.put]) ⟨g, 0, none⟩ (l.length - (i + 1)) 0 (netC (l.drop (i + 1))) (by simp [Act.eval, Act.put]; have := HL.out; omega) s1.out HA.out (netC_one _) (by have := HL.out; omega) s3.out ?_
                   rw [← HW1.out])
    all_goals
      go_wp2_with fail
      go_ret
      have e1 := HW1.out
      rw [Nat.zero_add] at e1
      subst e1
      have f1 := FIN.out
      have f2 := ONL.out
      rw [Z2.out] at f1 f2 ⊢
      exact ⟨rfl, f1, f2⟩
  · have HA : Hid (∀ t u, (netC (l.drop (i + 1)))[t]? = some u → w.drew.cell? ((⟨g, (i + 1) * 2, none⟩ : Addr).add t) = some u) := hsrc.out _ (if_neg hc)
    go_enter Tryz.func153, Tryz.ntmps153
    go_wp2_with fail
    go_region_law (refine step_append_room rfl (.tmp 22) (.tmp 25) 160 rfl 205 i0 2 Tryz.underlying160 hinfo hz1 g 0 i cap (by simp [Act.eval, Act.put]) ⟨g, (i + 1) * 2, none⟩ (l.length - (i + 1)) (cap - (i + 1)) (netC (l.drop (i + 1))) (by simp [Act.eval, Act.put]) s1.out HA.out (netC_one _) (by have := HL.out; omega) s3.out ?_
                   rw [← HW1.out])
    all_goals
      go_wp2_with fail
      go_ret
      have e1 := HW1.out
      rw [Nat.zero_add] at e1
      subst e1
      exact ⟨rfl, FIN.out, ONL.out⟩
end
section
variable {w w2 w3 wE : World} {b g cap p q : Nat} {M : WoM} {W : WoS} {Gs : Nat → Nat → Prop}
theorem AsideAt.snoc {n : Nat} {ps ps' : Nat → Part} {X X' G : Nat → Prop} {w w' : World} (h : AsideAt w n ps Gs X n NoY) (hk : ∀ j k, j < n → Gs j k → w'.heap[k]? = w.heap[k]?) (hs : w.heap.size ≤ w'.heap.size) (hp : (ps' n).is w' G) (hG : ∀ k, G k → w.heap.size ≤ k) (he : ∀ i, i < n → ps' i = ps i) (hX : ∀ k, X' k → (X k ∨ w.heap.size ≤ k) ∧ k < w'.heap.size ∧ ¬ G k) : AsideAt w' (n + 1) ps' (fun j => if j = n then G else Gs j) X' (n + 1) NoY := by
  refine ⟨fun j hj => ?_, fun a c k ha hc hac h1 h2 => ?_, fun k e => ⟨(hX k e).2.1, fun j hj hg => ?_⟩, fun k e => e.elim⟩
  · by_cases e : j = n
    · rw [if_pos e, e]; exact hp
    · have hj' : j < n := by omega
      rw [if_neg e, he j hj']
      exact (ps j).kept _ _ _ (h.is j hj') (fun k hk' => hk j k hj' hk') hs
  · by_cases ea : a = n
    · rw [if_pos ea] at h1
      have ec : c ≠ n := fun e => hac (ea.trans e.symm)
      rw [if_neg ec] at h2
      have := (ps c).lt _ _ (h.is c (by omega)) k h2
      have := hG k h1
      omega
    · rw [if_neg ea] at h1
      by_cases ec : c = n
      · rw [if_pos ec] at h2
        have := (ps a).lt _ _ (h.is a (by omega)) k h1
        have := hG k h2
        omega
      · rw [if_neg ec] at h2
        exact h.apart a c k (by omega) (by omega) hac h1 h2
  · by_cases ej : j = n
    · rw [if_pos ej] at hg
      exact (hX k e).2.2 hg
    · rw [if_neg ej] at hg
      have hj' : j < n := by omega
      rcases (hX k e).1 with r | r
      · exact (h.free k r).2 j hj' hg
      · have := (ps j).lt _ _ (h.is j hj') k hg
        omega
theorem pairsC_snoc (bp : Nat → Nat) (x : Nat → Int) (n p : Nat) (y : Int) (hy : x n = y) : pairsC (fun j => if j = n then p else bp j) x (n + 1) = pairsC bp x n ++ [.pointer (some ⟨p, 0, none⟩), .int .i64 y] := by
  unfold pairsC
  rw [List.range_succ, List.flatMap_append]
  congr 1
  · rw [List.flatMap_def, List.flatMap_def]
    congr 1
    refine List.map_congr_left (fun j hj => ?_)
    have := List.mem_range.1 hj
    show pairC (if j = n then p else bp j) (x j) = _
    rw [if_neg (by omega)]
  · simp [pairC, hy]
theorem PWo.addSite (h : PWo w b M W Gs) (hc : W.c = 0) (hP : PS w2 p (fun k => k = p ∨ k = q) (W.S W.n)) (hp : w.heap.size ≤ p) (hq : w.heap.size ≤ q) (hwl : W.wall W.n = 0) (hb2 : Below w.heap.size w w2) (hb3 : Below w2.heap.size w2 w3)
    (own : wE.ownsRow 0 167 2 (.slice (some ⟨g, 0, none⟩) (W.n + 1) cap) (W.n + 1) (pairsC M.bp W.wall W.n ++ [.pointer (some ⟨p, 0, none⟩), .int .i64 0])) (gr : w3.grownBy wE M.pv.ownBlock) (eg : M.pv.ownBlock = some g ∨ g = w3.heap.size) (hlt : g < wE.heap.size) :
    PWo (wE.setCell ⟨b, 0, none⟩ (.slice (some ⟨g, 0, none⟩) (W.n + 1) cap)) b { M with pv := .slice (some ⟨g, 0, none⟩) (W.n + 1) cap, bp := fun j => if j = W.n then p else M.bp j } { W with n := W.n + 1 } (fun j => if j = W.n then (fun k => k = p ∨ k = q) else Gs j) := by
  have s2 := hb2.size
  have s3 := hb3.size
  have sE := gr.size
  have lp := hP.lt p (.inl rfl)
  have lq := hP.lt q (.inr rfl)
  have hbl := h.box.lt
  have gb : (Value.slice (some ⟨g, 0, none⟩) (W.n + 1) cap).ownBlock = some g := rfl
  have sS : (wE.setCell ⟨b, 0, none⟩ (.slice (some ⟨g, 0, none⟩) (W.n + 1) cap)).heap.size = wE.heap.size := by simp [World.setCell]
  have hgb : g ≠ b := by
    rcases eg with e | e
    · exact fun r => h.sb.1 (by rw [e, r])
    · omega
  have kE : ∀ k, k < w.heap.size → M.pv.ownBlock ≠ some k → wE.heap[k]? = w.heap[k]? := fun k hk hn => (gr.block k (by omega) (fun e => hn e.symm)).trans ((hb3.block k (by omega)).trans (hb2.block k hk))
  have kS : ∀ k, k < w.heap.size → M.pv.ownBlock ≠ some k → k ≠ b → (wE.setCell ⟨b, 0, none⟩ (.slice (some ⟨g, 0, none⟩) (W.n + 1) cap)).heap[k]? = w.heap[k]? := fun k hk hn hkb => (Below.heap_setCell _ _ _ _ (fun e => hkb e)).trans (kE k hk hn)
  have pvlt : ∀ k, M.pv.ownBlock = some k → k < w.heap.size := fun k e => (h.pr.lt k e).2
  have gg : ∀ k, g = k → (M.pv.ownBlock = some k ∨ w2.heap.size ≤ k) := fun k e => by
    rcases eg with r | r
    · exact .inl (by rw [r, e])
    · exact .inr (by omega)
  have fam := h.fam
  rw [hc, Nat.add_zero] at fam
  refine ⟨?_, ?_, ?_, ?_, h.nl, fun x hx => ?_, ?_, ⟨fun e => hgb (by rw [gb] at e; injection e), h.sb.2⟩, fun k => ⟨fun e => ?_, (h.sr k).2⟩, fun x hx => ?_⟩
  · have B2 := (((h.box.later hb2).later hb3)).grown gr (fun e => h.sb.1 e.symm)
    exact B2.set 0 _ (by simp)
  · show World.ownsRow _ 0 _ 2 _ (W.n + 1) (pairsC _ W.wall (W.n + 1))
    rw [pairsC_snoc M.bp W.wall W.n p 0 hwl]
    exact own_keptN own (fun k e => Below.heap_setCell _ _ _ _ (fun r => hgb (by rw [gb] at e; injection e with e; exact e.trans r)))
  · exact own_keptN h.cr (fun k e => kS k (h.cr.lt k e).2 (fun e2 => ((h.sr k).1 e2).1 e) (fun r => h.sb.2.1 (by rw [e, r])))
  · exact own_keptN h.nr (fun k e => kS k (h.nr.lt k e).2 (fun e2 => ((h.sr k).1 e2).2 e) (fun r => h.sb.2.2 (by rw [e, r])))
  · have s := h.sg x hx
    exact (h.gr x hx).kept (kS _ (h.gr x hx).own.lt s.2.1 s.1) (by rw [sS]; omega)
  · show AsideAt _ (W.n + 1 + W.c) _ _ _ (W.n + 1 + W.c) NoY
    rw [hc, Nat.add_zero]
    refine fam.snoc (fun j k hj e => kS k (h.ltG (by omega) e) (fun r => (fam.free k (.inr (.inl r))).2 j hj e) (fun r => (fam.free k (.inl r)).2 j hj e)) (by rw [sS]; omega) ?_ (fun k e => by rcases e with e | e <;> omega) (fun j hj => ?_) (fun k e => ?_)
    · show (if W.n < W.n + 1 then siteP (if W.n = W.n then p else M.bp W.n) (W.S W.n) else _).is _ _
      rw [if_pos (by omega), if_pos rfl]
      exact hP.kept (fun k e => (Below.heap_setCell _ _ _ _ (fun r => by rcases e with e | e <;> (have : k = b := r; omega))).trans ((gr.block k (by rcases e with e | e <;> omega) (fun r => by have := pvlt k r.symm; rcases e with e | e <;> omega)).trans (hb3.block k (by rcases e with e | e <;> omega)))) (by rw [sS]; omega)
    · show (if j < W.n + 1 then siteP (if j = W.n then p else M.bp j) (W.S j) else _) = (if j < W.n then _ else _)
      rw [if_pos (by omega), if_pos hj, if_neg (by omega)]
    · have old : footW b M k → (footW b M k ∨ w.heap.size ≤ k) ∧ k < (wE.setCell ⟨b, 0, none⟩ (.slice (some ⟨g, 0, none⟩) (W.n + 1) cap)).heap.size ∧ ¬ (k = p ∨ k = q) := fun e => by
        have := h.ltF k e
        exact ⟨.inl e, by rw [sS]; omega, by omega⟩
      rcases e with e | e | e | e | ⟨x, hx, e⟩
      · exact old (.inl e)
      · rw [gb] at e
        injection e with e
        rcases gg k e with r | r
        · exact old (.inr (.inl r))
        · exact ⟨.inr (by omega), by rw [sS]; omega, by omega⟩
      · exact old (.inr (.inr (.inl e)))
      · exact old (.inr (.inr (.inr (.inl e))))
      · exact old (.inr (.inr (.inr (.inr ⟨x, hx, e⟩))))
  · rw [gb] at e
    injection e with e
    rcases gg k e with r | r
    · exact (h.sr k).1 r
    · exact ⟨fun e2 => by have := (h.cr.lt k e2).2; omega, fun e2 => by have := (h.nr.lt k e2).2; omega⟩
  · have s := h.sg x hx
    refine ⟨s.1, fun e => ?_, s.2.2⟩
    rw [gb] at e
    injection e with e
    rcases gg x.blk e with r | r
    · exact s.2.1 r
    · have := (h.gr x hx).own.lt; omega
theorem PWo.addSes (h : PWo w b M W Gs) (hP : PSe w2 p (fun k => k = p) (W.ses W.c)) (hp : w.heap.size ≤ p) (hat : W.at_ W.c = 0) (hb2 : Below w.heap.size w w2) (hb3 : Below w2.heap.size w2 w3)
    (own : wE.ownsRow 0 171 2 (.slice (some ⟨g, 0, none⟩) (W.c + 1) cap) (W.c + 1) (pairsC M.bs (fun k => (W.at_ k : Int)) W.c ++ [.pointer (some ⟨p, 0, none⟩), .int .i64 0])) (gr : w3.grownBy wE M.cv.ownBlock) (eg : M.cv.ownBlock = some g ∨ g = w3.heap.size) (hlt : g < wE.heap.size) :
    PWo (wE.setCell ⟨b, 1, none⟩ (.slice (some ⟨g, 0, none⟩) (W.c + 1) cap)) b { M with cv := .slice (some ⟨g, 0, none⟩) (W.c + 1) cap, bs := fun j => if j = W.c then p else M.bs j } { W with c := W.c + 1 } (fun j => if j = W.n + W.c then (fun k => k = p) else Gs j) := by
  have s2 := hb2.size
  have s3 := hb3.size
  have sE := gr.size
  have lp := hP.lt p rfl
  have hbl := h.box.lt
  have gb : (Value.slice (some ⟨g, 0, none⟩) (W.c + 1) cap).ownBlock = some g := rfl
  have sS : (wE.setCell ⟨b, 1, none⟩ (.slice (some ⟨g, 0, none⟩) (W.c + 1) cap)).heap.size = wE.heap.size := by simp [World.setCell]
  have hgb : g ≠ b := by
    rcases eg with e | e
    · exact fun r => h.sb.2.1 (by rw [e, r])
    · omega
  have kE : ∀ k, k < w.heap.size → M.cv.ownBlock ≠ some k → wE.heap[k]? = w.heap[k]? := fun k hk hn => (gr.block k (by omega) (fun e => hn e.symm)).trans ((hb3.block k (by omega)).trans (hb2.block k hk))
  have kS : ∀ k, k < w.heap.size → M.cv.ownBlock ≠ some k → k ≠ b → (wE.setCell ⟨b, 1, none⟩ (.slice (some ⟨g, 0, none⟩) (W.c + 1) cap)).heap[k]? = w.heap[k]? := fun k hk hn hkb => (Below.heap_setCell _ _ _ _ (fun e => hkb e)).trans (kE k hk hn)
  have pvlt : ∀ k, M.cv.ownBlock = some k → k < w.heap.size := fun k e => (h.cr.lt k e).2
  have gg : ∀ k, g = k → (M.cv.ownBlock = some k ∨ w2.heap.size ≤ k) := fun k e => by
    rcases eg with r | r
    · exact .inl (by rw [r, e])
    · exact .inr (by omega)
  have fam := h.fam
  refine ⟨?_, ?_, ?_, ?_, h.nl, fun x hx => ?_, ?_, ⟨h.sb.1, fun e => hgb (by rw [gb] at e; injection e), h.sb.2.2⟩, fun k => ⟨fun e => ⟨fun e2 => ?_, ((h.sr k).1 e).2⟩, fun e => ?_⟩, fun x hx => ?_⟩
  · have B2 := (((h.box.later hb2).later hb3)).grown gr (fun e => h.sb.2.1 e.symm)
    exact B2.set 1 _ (by simp)
  · exact own_keptN h.pr (fun k e => kS k (h.pr.lt k e).2 ((h.sr k).1 e).1 (fun r => h.sb.1 (by rw [e, r])))
  · show World.ownsRow _ 0 _ 2 _ (W.c + 1) (pairsC _ (fun k => (W.at_ k : Int)) (W.c + 1))
    rw [pairsC_snoc M.bs (fun k => (W.at_ k : Int)) W.c p 0 (by show (W.at_ W.c : Int) = 0; rw [hat]; rfl)]
    exact own_keptN own (fun k e => Below.heap_setCell _ _ _ _ (fun r => hgb (by rw [gb] at e; injection e with e; exact e.trans r)))
  · exact own_keptN h.nr (fun k e => kS k (h.nr.lt k e).2 (fun e2 => (h.sr k).2 e2 e) (fun r => h.sb.2.2 (by rw [e, r])))
  · have s := h.sg x hx
    exact (h.gr x hx).kept (kS _ (h.gr x hx).own.lt s.2.2.1 s.1) (by rw [sS]; omega)
  · show AsideAt _ (W.n + W.c + 1) _ _ _ (W.n + W.c + 1) NoY
    refine fam.snoc (fun j k hj e => kS k (h.ltG hj e) (fun r => (fam.free k (.inr (.inr (.inl r)))).2 j hj e) (fun r => (fam.free k (.inl r)).2 j hj e)) (by rw [sS]; omega) ?_ (fun k e => by omega) (fun j hj => ?_) (fun k e => ?_)
    · show (if W.n + W.c < W.n then _ else sesP (if W.n + W.c - W.n = W.c then p else M.bs (W.n + W.c - W.n)) (W.ses (W.n + W.c - W.n))).is _ _
      rw [if_neg (by omega), show W.n + W.c - W.n = W.c by omega, if_pos rfl]
      exact hP.kept (fun k e => (Below.heap_setCell _ _ _ _ (fun r => by have : k = b := r; omega)).trans ((gr.block k (by omega) (fun r => by have := pvlt k r.symm; omega)).trans (hb3.block k (by omega)))) (by rw [sS]; omega)
    · show (if j < W.n then _ else sesP (if j - W.n = W.c then p else M.bs (j - W.n)) (W.ses (j - W.n))) = (if j < W.n then _ else _)
      by_cases r : j < W.n
      · rw [if_pos r, if_pos r]
      · rw [if_neg r, if_neg r, if_neg (by omega)]
    · have old : footW b M k → (footW b M k ∨ w.heap.size ≤ k) ∧ k < (wE.setCell ⟨b, 1, none⟩ (.slice (some ⟨g, 0, none⟩) (W.c + 1) cap)).heap.size ∧ ¬ (k = p) := fun e => by
        have := h.ltF k e
        exact ⟨.inl e, by rw [sS]; omega, by omega⟩
      rcases e with e | e | e | e | ⟨x, hx, e⟩
      · exact old (.inl e)
      · exact old (.inr (.inl e))
      · rw [gb] at e
        injection e with e
        rcases gg k e with r | r
        · exact old (.inr (.inr (.inl r)))
        · exact ⟨.inr (by omega), by rw [sS]; omega, by omega⟩
      · exact old (.inr (.inr (.inr (.inl e))))
      · exact old (.inr (.inr (.inr (.inr ⟨x, hx, e⟩))))
  · rw [gb] at e2
    injection e2 with e2
    rcases gg k e2 with r | r
    · exact ((h.sr k).1 e).1 r
    · have := (h.pr.lt k e).2; omega
  · rw [gb] at e
    injection e with e
    rcases gg k e with r | r
    · exact (h.sr k).2 r
    · exact fun e2 => by have := (h.nr.lt k e2).2; omega
  · have s := h.sg x hx
    refine ⟨s.1, s.2.1, fun e => ?_, s.2.2.2⟩
    rw [gb] at e
    injection e with e
    rcases gg x.blk e with r | r
    · exact s.2.2.1 r
    · have := (h.gr x hx).own.lt; omega
end
end Go.Proofs.YtoanjdndmlffdaaGreatDoor
