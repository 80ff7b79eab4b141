import Derived.Test.YtoanjdndmlffdaaGreatDoorDkM5
namespace Go.Proofs.YtoanjdndmlffdaaGreatDoor
open Go.RowKit
set_option maxRecDepth 100000
set_option maxHeartbeats 8000000
/-- a Commit with whatever number -/
structure CmIs (W : WoS) (k site seq wall count d0 d1 d2 d3 er : Int) (W' : WoS) (told : List UInt8) : Prop where
  cmd : CmdTo 5 W [k] ⟨#[]⟩ W' er told
  yes : er = 0 → told = if seq = 0 then [110, 111, 116, 104, 105, 110, 103] else blkd [site, seq, wall, count] ++ [58, 32] ++ blkd [d0, d1, d2, d3]
  wf : ∀ x ∈ [site, seq, wall, count, d0, d1, d2, d3], wfI x
theorem okT_wf {t : TxP} (h : okT t = true) : ∀ x ∈ [t.site, t.seq, t.wall, t.count, t.d0, t.d1, t.d2, t.d3], wfI x := by
  simp only [okT, okTx, timesB, timeB, Bool.and_eq_true, inB_iff, decide_eq_true_eq] at h
  intro x hx
  simp only [List.mem_cons, List.not_mem_nil, or_false] at hx
  rcases hx with rfl | rfl | rfl | rfl | rfl | rfl | rfl | rfl <;> exact ⟨by omega, by omega⟩
theorem wcT_wf {W : WoS} {k : Nat} (hD : DkI W) (hk : k < W.c) : ∀ x ∈ [(wcT W k).site, (wcT W k).seq, (wcT W k).wall, (wcT W k).count, (wcT W k).d0, (wcT W k).d1, (wcT W k).d2, (wcT W k).d3], wfI x := by
  obtain ⟨j, hj⟩ := hD.pl
  by_cases q : 0 < (wcT W k).seq
  · exact okT_wf (hj.told hk q).1
  · have z : wcT W k = ⟨0, 0, 0, 0, 0, 0, 0, 0, []⟩ := by
      unfold wcT scomT at q ⊢
      split at q
      · rename_i e; rw [if_pos e]
      · rename_i e
        rw [if_neg e]
        unfold comT at q ⊢
        split at q
        · rename_i f
          exfalso
          apply q
          have := commit_okT (ws := allW (W.ses k).ws) (hj.wf.inv _ (hj.wf.at_ k hk)) f
          simp only [okT, okTx, Bool.and_eq_true, inB_iff] at this
          have := this.1.1.1.1.2.1
          omega
        · rename_i f; rw [if_neg f]
    rw [z]
    intro x hx
    simp at hx
    subst hx
    exact ⟨by decide, by decide⟩
theorem op_commit {b : Nat} {G : Nat → Prop} {W : WoS} (k : Int) (hD : DkI W) : ∃ site seq wall count d0 d1 d2 d3 er W' told, CmIs W k site seq wall count d0 d1 d2 d3 er W' told ∧ ∀ w, PW w b G W → Calls Tryz.prog 103 #[.pointer (some ⟨b, 0, none⟩), .int .i64 k] w fun e w' => ∃ wa n wc, e = .returned (.tuple #[.agg #[.int .i64 site, .int .i64 seq, .int .i64 wall, .int .i64 count, .int .i64 d0, .int .i64 d1, .int .i64 d2, .int .i64 d3, .slice wa n wc], errV er]) ∧ PWPo w b G W' w' := by
  obtain ⟨j, hI⟩ := hD.pl
  by_cases hk : There k W.c
  · obtain ⟨i, rfl, hi, e⟩ := there_nat hk
    refine ⟨_, _, _, _, _, _, _, _, _, _, _, ⟨by
      show CmdTo 5 W [(i : Int)] ⟨#[]⟩ (wcW W i) (wcE W i) (cstTold W i)
      unfold CmdTo
      simp only
      rw [if_pos hk]
      exact ⟨rfl, rfl, rfl⟩, fun _ => rfl, wcT_wf hD hi⟩, fun w h => (pw_commit w h hI.wf hi (fun q => (hI.told hi q).1)).mono fun e w' ⟨m, h1, h2, h3⟩ => ?_⟩
    obtain ⟨_, G', p1, p2, p3, _⟩ := h3.out
    refine ⟨m.wa, m.t.ws.length, m.wc, ?_, G', p1, p2, p3⟩
    rw [h1]
    unfold txV
    rw [h2]
  · refine ⟨0, 0, 0, 0, 0, 0, 0, 0, 2, W, [], ⟨by
      show if There k W.c then _ else _
      rw [if_neg hk]
      exact ⟨rfl, rfl, rfl⟩, fun e => (by cases e), fun x hx => ?_⟩, fun w h => (pw_commit_no k w h hk).mono fun e w' ⟨h1, h2⟩ => ⟨none, 0, 0, h1, PWPo.same h h2⟩⟩
    simp at hx
    subst hx
    exact ⟨by decide, by decide⟩
section
variable {cb mb b j cap : Nat} {Gw G : Nat → Prop} {W : WoS} {a : Option Addr} {l : List ByteArray}
theorem DoPre.opAt {w w1 wb wx : World} {W' : WoS} {b5 : Nat} (h : DoPre w cb mb b Gw G W j a cap l) (hb : Below w.heap.size w w1) (hp : PWPo w1 b Gw W' wb) (h5 : w.heap.size ≤ b5) (h6 : b5 < w1.heap.size) (hx : Touch (fun k => k = b5) wb wx) : Left (ckP cb mb W') w G wx ∧ Gl wx := by
  obtain ⟨G', p1, p2, tt⟩ := hp
  have h1 := h.ck.later hb
  have lc : cb < w1.heap.size := h1.ltc
  have lm : mb < w1.heap.size := h1.map.lt
  have lc0 := h.ck.ltc
  have lm0 := h.ck.map.lt
  have n5 : ¬ G' b5 := fun e => by
    rcases p2 b5 e with q | q
    · have := h.ck.pw.lt b5 q; omega
    · omega
  have ls := tt.size
  refine ⟨⟨fun k => k = cb ∨ k = mb ∨ G' k, ⟨b, G', ⟨(hx.block cb (by omega) (by omega)).trans ((tt.block cb lc h.ck.n2).trans h1.box), (h1.map.kept (tt.block mb lm h.ck.n3)).kept (hx.block mb (by omega) (by omega)), p1.kept (fun k e => hx.block k (p1.lt k e) (fun e2 => n5 (e2 ▸ e))) hx.size, h.ck.n1, fun e => ?_, fun e => ?_⟩, fun _ => Iff.rfl⟩, fun k hk => ?_, ?_⟩, ?_⟩
  · rcases p2 cb e with q | q
    · exact h.ck.n2 q
    · omega
  · rcases p2 mb e with q | q
    · exact h.ck.n3 q
    · omega
  · rcases hk with rfl | rfl | e
    · exact .inl ((h.g k).2 (.inl rfl))
    · exact .inl ((h.g k).2 (.inr (.inl rfl)))
    · rcases p2 k e with q | q
      · exact .inl ((h.g k).2 (.inr (.inr q)))
      · exact .inr (Nat.le_trans hb.size q)
  · refine ⟨hx.os.trans (tt.os.trans hb.os), hx.tape.trans (tt.tape.trans hb.tape), hx.output.trans (tt.output.trans hb.output), Nat.le_trans hb.size (Nat.le_trans tt.size hx.size), fun k hk hn => ?_⟩
    have hk1 := Nat.lt_of_lt_of_le hk hb.size
    rw [hx.block k (by omega) (by omega), tt.block k hk1 (fun e => hn ((h.g k).2 (.inr (.inr e)))), hb.block k hk]
  · have g1 := h.gl.later hb
    have sz := h.gl.sz
    refine g1.kept (fun k hk => ?_) (Nat.le_trans tt.size hx.size)
    rw [hx.block k (by omega) (by omega), tt.block k (by omega) (fun e => h.gn k hk ((h.g k).2 (.inr (.inr e))))]
theorem commit_no (w : World) (h : DoPre w cb mb b Gw G W j a cap l) (hn : numsN 1 l = none) : Calls Tryz.prog 51 #[.pointer (some ⟨cb, 0, none⟩), .slice a l.length cap] w (DoPost 5 W l w cb mb G) := by
  have HH : Hid (DoPre w cb mb b Gw G W j a cap l) := h
  have N1 : Hid (∀ w', Below w.heap.size w w' → Calls Tryz.prog 95 #[.slice a l.length cap] w' fun e w2 => e = thrown 3 ∧ Below w'.heap.size w' w2) := fun w' hb => (one_any h.sm w' (h.gl.later hb) (h.st.later hb)).mono fun e w2 ⟨h1, h2⟩ => by
    rcases h2 with ⟨v, hv, _⟩ | ⟨_, he⟩
    · rw [hv.out] at hn; cases hn
    · exact ⟨he, h1⟩
  have c0 := h.ck.cell0
  have HN : Hid (numsN 1 l = none) := hn
  have c0a : ∀ o, (w.alloc o).cell? ⟨cb, 0, none⟩ = some (.pointer (some ⟨b, 0, none⟩)) := fun o => cell_later (boxed (Below.refl _ w) o) c0
  clear h hn
  go_enter Tryz.func51, Tryz.ntmps51
  go_wp2
  go_region_dies
  all_goals
    refine (N1.out _ (by repeat (first | (with_reducible exact Below.refl _ _) | (with_reducible refine boxed ?_ _) | (with_reducible refine Below.drew ?_)))).mono ?_
    rintro e wa ⟨rfl, hba⟩
    exact ⟨rfl, HH.out.no (by decide) HN.out (behind (by repeat (first | (with_reducible exact Below.refl _ _) | (with_reducible refine boxed ?_ _) | (with_reducible refine Below.drew ?_))) hba)⟩
end
end Go.Proofs.YtoanjdndmlffdaaGreatDoor
