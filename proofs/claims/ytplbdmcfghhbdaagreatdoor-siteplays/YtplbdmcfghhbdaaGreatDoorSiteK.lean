/-
  What it is to take another one's transaction at a site of the document, as the model runs it (copseref.Site.Take): up to where all that may be applied is.
  All that may be applied is, at a site of the document (copseref.Site.Take's loop): what is so of memory while it goes on.
  The pieces of a function's code, found in it.
  What a site of the document tells, and what comes of a commit and a sweep there, with all that it holds in one word; and the same words for a site of the program.
-/
import Derived.Test.YtplbdmcfghhbdaaGreatDoorPTake
import Derived.Test.YtplbdmcfghhbdaaGreatDoorRefCommit3
import Derived.Test.YtplbdmcfghhbdaaGreatDoorRefRightTx
import Derived.Test.YtplbdmcfghhbdaaGreatDoorSiteE
import Derived.Test.YtplbdmcfghhbdaaGreatDoorSiteH
import Derived.Test.YtplbdmcfghhbdaaGreatDoorPCommit
import Derived.Test.YtplbdmcfghhbdaaGreatDoorSiteI
import Derived.Test.YtplbdmcfghhbdaaGreatDoorPStable
import Derived.Test.YtplbdmcfghhbdaaGreatDoorSiteJ
namespace Go.Proofs.YtplbdmcfghhbdaaGreatDoor
open Go.RowKit

/-- a site of the document in memory: all that it holds lies in blocks of G -/
def RS (w : World) (b : Nat) (G : Nat → Prop) (S : SiteS) : Prop :=
  ∃ lv wv sv log waits, SMem w b lv wv sv S log waits ∧ log.map (·.t) = S.log ∧ waits.map (·.t) = S.waits ∧ ∀ k, G k ↔ (footS b lv wv sv k ∨ ∃ m ∈ log ++ waits, m.blk k)
theorem RS.lt {w : World} {b : Nat} {G : Nat → Prop} {S : SiteS} (h : RS w b G S) : ∀ k, G k → k < w.heap.size := by
  obtain ⟨lv, wv, sv, log, waits, h, _, _, hG⟩ := h
  intro k hk
  rcases (hG k).1 hk with h1 | ⟨m, hm, h1⟩
  · exact h.lt k h1
  · exact (h.hold m hm).1.blk_lt k h1
theorem RS.kept {w w' : World} {b : Nat} {G : Nat → Prop} {S : SiteS} (h : RS w b G S) (hk : ∀ k, G k → w'.heap[k]? = w.heap[k]?) (hs : w.heap.size ≤ w'.heap.size) : RS w' b G S := by
  obtain ⟨lv, wv, sv, log, waits, h, h1, h2, hG⟩ := h
  exact ⟨lv, wv, sv, log, waits, h.keptB (fun k e => hk k ((hG k).2 e)) hs, h1, h2, hG⟩
theorem RS.later {w w' : World} {b : Nat} {G : Nat → Prop} {S : SiteS} (h : RS w b G S) (hb : Below w.heap.size w w') : RS w' b G S := h.kept (fun k hk => hb.block k (h.lt k hk)) hb.size
/-- what is left of it -/
def RPo (w : World) (b : Nat) (G : Nat → Prop) (S' : SiteS) (w' : World) : Prop := ∃ G', RS w' b G' S' ∧ (∀ k, G' k → G k ∨ w.heap.size ≤ k) ∧ Touch G w w'
theorem RPo.trans {w w1 w2 : World} {b : Nat} {G G1 : Nat → Prop} {S' : SiteS} (hG : ∀ k, G1 k → G k ∨ w.heap.size ≤ k) (ht : Touch G w w1) (h : RPo w1 b G1 S' w2) : RPo w b G S' w2 := by
  obtain ⟨G', h1, h2, h3⟩ := h
  refine ⟨G', h1, fun k hk => ?_, ht.more h3 hG⟩
  rcases h2 k hk with h4 | h4
  · exact hG k h4
  · exact .inr (by have := ht.size; omega)
theorem RPo.same {w w' : World} {b : Nat} {G : Nat → Prop} {S : SiteS} (h : RS w b G S) (hb : Below w.heap.size w w') : RPo w b G S w' := ⟨G, h.later hb, fun _ hk => .inl hk, Touch.ofBelow hb⟩
/-- another row of what waits -/
theorem SMem.rewait {w w' : World} {b : Nat} {lv wv sv wv' : Value} {S S' : SiteS} {log waits waits' : List TxM} (h : SMem w b lv wv sv S log waits) (hk : ∀ k, (footS b lv wv sv k ∨ ∃ m ∈ log ++ waits, m.blk k) → k ≠ b → wv.ownBlock ≠ some k → w'.heap[k]? = w.heap[k]?) (hbox : RowL w' b (siteC S' lv wv' sv)) (hl : S'.l = S.l)
    (hw : w'.ownsRow 0 44 9 wv' waits'.length (txsC waits')) (hnew : ∀ k, wv'.ownBlock = some k → w.heap.size ≤ k) (hh : ∀ m ∈ waits', m ∈ waits ∨ (WrIn w' m.wa m.wc m.t.ws ∧ ∀ k, m.blk k → ¬ footS b lv wv sv k ∧ wv'.ownBlock ≠ some k)) : SMem w' b lv wv' sv S' log waits' := by
  have nf : ∀ k, footS b lv wv' sv k → footS b lv wv sv k ∨ wv'.ownBlock = some k := fun k hk => by
    rcases hk with h1 | h1 | h1 | h1
    · exact .inl (.inl h1)
    · exact .inl (.inr (.inl h1))
    · exact .inr h1
    · exact .inl (.inr (.inr (.inr h1)))
  have old : ∀ m ∈ log ++ waits, WrIn w' m.wa m.wc m.t.ws ∧ ∀ k, m.blk k → ¬ footS b lv wv' sv k := fun m hm => by
    have q := h.hold m hm
    refine ⟨q.1.kept (fun k e => hk k (.inr ⟨m, hm, e⟩) (fun x => q.2 k e (.inl x)) (fun x => q.2 k e (.inr (.inr (.inl x))))), fun k e hf => ?_⟩
    rcases nf k hf with h1 | h1
    · exact q.2 k e h1
    · have := hnew k h1
      have := q.1.blk_lt k e
      omega
  refine ⟨hbox, own_keptN h.rlog (fun k e => hk k (.inl (.inr (.inl e))) (fun x => h.nl (by rw [← x]; exact e)) (h.lw k e)), hw, by rw [hl]; exact own_keptN h.own (fun k e => hk k (.inl (.inr (.inr (.inr e)))) (fun x => h.ns (by rw [← x]; exact e)) (fun x => h.ws k x e)), by rw [hl]; exact h.ok, h.nl, fun e => ?_, h.ns, fun k e e2 => ?_, h.ls, fun k e e2 => ?_, fun m hm => ?_⟩
  · have := hnew b e
    have := h.box.lt
    omega
  · have := hnew k e2
    have := (h.rlog.lt k e).2
    omega
  · have := hnew k e
    have := (h.own.lt k e2).2
    omega
  · rcases List.mem_append.1 hm with h1 | h1
    · exact old m (List.mem_append.2 (.inl h1))
    · rcases hh m h1 with h2 | h2
      · exact old m (List.mem_append.2 (.inr h2))
      · refine ⟨h2.1, fun k e hf => ?_⟩
        rcases nf k hf with h3 | h3
        · exact (h2.2 k e).1 h3
        · exact (h2.2 k e).2 h3

theorem own_none9 (w : World) {n : Nat} (T : TypeId) (hn : w.heap.size = n) : (w.alloc (.cells #[] T)).ownsRow 0 T 9 (.slice (some ⟨n, 0, none⟩) 0 0) 0 [] := by
  subst hn
  exact ⟨rfl, .inr ⟨w.heap.size, 0, #[], rfl, Nat.zero_le _, heap_alloc_new w (.cells #[] T), Nat.le_refl _, by decide, rfl, rfl⟩⟩
/-- a row of one -/
theorem TxsIn.one {w : World} {M : Nat} {m : TxM} (h : RowL w M (txC m)) : TxsIn w (some ⟨M, 0, none⟩) 1 [m] := by
  refine ⟨Nat.le_refl _, by omega, .inr ⟨M, 0, rfl, fun i x r u hi hr => ?_⟩⟩
  have h0 : i = 0 := by
    have := (List.getElem?_eq_some_iff.1 hi).1
    simp at this
    exact this
  subst h0
  simp at hi
  subst hi
  simpa using h.cell r u hr
theorem TxsIn.kept {w w' : World} {a : Option Addr} {c : Nat} {l : List TxM} (h : TxsIn w a c l) (hk : ∀ k off, a = some ⟨k, off, none⟩ → w'.heap[k]? = w.heap[k]?) : TxsIn w' a c l := by
  refine ⟨h.len, h.cap, ?_⟩
  rcases h.held with h0 | ⟨wb, off, e, hc⟩
  · exact .inl h0
  · exact .inr ⟨wb, off, e, fun i m r u h1 h2 => by rw [World.cell?_of_block (w := w) (hk wb off e)]; exact hc i m r u h1 h2⟩
theorem TxsIn.take {w : World} {wb off c : Nat} {l : List TxM} (h : TxsIn w (some ⟨wb, off, none⟩) c l) (k : Nat) (hk : k ≤ l.length) : TxsIn w (some ⟨wb, off, none⟩) c (l.take k) := by
  refine ⟨by rw [List.length_take]; have := h.len; omega, h.cap, ?_⟩
  rcases h.held with h0 | ⟨wb', off', e, hc⟩
  · exact .inl (by rw [h0]; simp)
  · refine .inr ⟨wb', off', e, fun i m r u h1 h2 => hc i m r u ?_ h2⟩
    rw [List.getElem?_take] at h1
    split at h1
    · exact h1
    · cases h1
theorem TxsIn.drop {w : World} {wb off c : Nat} {l : List TxM} (h : TxsIn w (some ⟨wb, off, none⟩) c l) (k : Nat) (hk : k ≤ l.length) : TxsIn w (some ⟨wb, off + k * 9, none⟩) (c - k) (l.drop k) := by
  refine ⟨by rw [List.length_drop]; have := h.len; omega, by have := h.cap; omega, ?_⟩
  rcases h.held with h0 | ⟨wb', off', e, hc⟩
  · exact .inl (by rw [h0]; simp)
  · injection e with e
    injection e with e1 e2
    subst e1 e2
    refine .inr ⟨_, _, rfl, fun i m r u h1 h2 => ?_⟩
    rw [List.getElem?_drop] at h1
    have := hc (k + i) m r u h1 h2
    rw [show off + k * 9 + (i * 9 + r) = off + ((k + i) * 9 + r) by omega]
    exact this

end Go.Proofs.YtplbdmcfghhbdaaGreatDoor

namespace Go.Proofs.YtplbdmcfghhbdaaGreatDoor
open Go.RowKit

/-- while it goes on: what is to come of it is what was to come at first -/
structure RGoM (w0 : World) (b : Nat) (G : Nat → Prop) (S0 S : SiteS) (wr : World) : Prop where
  mem : ∃ G', RS wr b G' S ∧ (∀ k, G' k → G k ∨ w0.heap.size ≤ k)
  touch : Touch G w0 wr
  inv : InvS S
  wn : S.waits.length ≤ 1000
  go : ∀ X, Goes S X → Goes S0 X
theorem RGoM.later {w0 : World} {b : Nat} {G : Nat → Prop} {S0 S : SiteS} {wr w' : World} (h : RGoM w0 b G S0 S wr) (hb : Below wr.heap.size wr w') : RGoM w0 b G S0 S w' := by
  obtain ⟨G', h1, h2⟩ := h.mem
  exact ⟨⟨G', h1.later hb, h2⟩, h.touch.trans (Touch.ofBelow hb), h.inv, h.wn, h.go⟩
theorem RS.left {w : World} {b : Nat} {G : Nat → Prop} {S : SiteS} (h : RS w b G S) : logLeft w b = 200 - S.log.length := by
  obtain ⟨lv, wv, sv, log, waits, h, h1, _, _⟩ := h
  obtain ⟨la, lc, rfl, hT⟩ := txsIn_own h.rlog
  unfold logLeft
  rw [h.box.cell 7 _ rfl, ← h1]
  simp
theorem RGoM.done {w0 : World} {b : Nat} {G : Nat → Prop} {S0 S : SiteS} {wr : World} (h : RGoM w0 b G S0 S wr) : RPo w0 b G S wr := by
  obtain ⟨G', h1, h2⟩ := h.mem
  exact ⟨G', h1, h2, h.touch⟩

/-- another row of what waits is laid, and kept -/
theorem SMem.reset {w w7 : World} {b : Nat} {lv wv sv : Value} {S : SiteS} {log waits waits' : List TxM} (h : SMem w b lv wv sv S log waits) (hb : Below w.heap.size w w7) {g n c : Nat} (hg : w.heap.size ≤ g)
    (own : w7.ownsRow 0 44 9 (.slice (some ⟨g, 0, none⟩) n c) n (txsC waits')) (hn : waits'.length = n) (hh : ∀ m ∈ waits', m ∈ waits ∨ (WrIn w m.wa m.wc m.t.ws ∧ ∀ k, m.blk k → ¬ footS b lv wv sv k)) (W : List TxP) :
    SMem (w7.setCell ⟨b, 8, none⟩ (.slice (some ⟨g, 0, none⟩) n c)) b lv (.slice (some ⟨g, 0, none⟩) n c) sv { S with waits := W } log waits' ∧ Touch (footS b lv wv sv) w (w7.setCell ⟨b, 8, none⟩ (.slice (some ⟨g, 0, none⟩) n c)) ∧
      ∀ k, footS b lv (.slice (some ⟨g, 0, none⟩) n c) sv k → footS b lv wv sv k ∨ w.heap.size ≤ k := by
  subst hn
  have bl := h.box.lt
  have gb : g ≠ b := by omega
  have kb : ∀ k, k < w.heap.size → k ≠ b → (w7.setCell ⟨b, 8, none⟩ (.slice (some ⟨g, 0, none⟩) waits'.length c)).heap[k]? = w.heap[k]? := fun k hk hn => (Below.heap_setCell _ _ _ _ hn).trans (hb.block k hk)
  have hbox : RowL (w7.setCell ⟨b, 8, none⟩ (.slice (some ⟨g, 0, none⟩) waits'.length c)) b (siteC { S with waits := W } lv (.slice (some ⟨g, 0, none⟩) waits'.length c) sv) := (h.box.later hb).set 8 _ (by simp [siteC])
  have hw : (w7.setCell ⟨b, 8, none⟩ (.slice (some ⟨g, 0, none⟩) waits'.length c)).ownsRow 0 44 9 (.slice (some ⟨g, 0, none⟩) waits'.length c) waits'.length (txsC waits') := own_keptN own (fun k e => Below.heap_setCell _ _ _ _ (by simp [Value.ownBlock] at e; simp only; omega))
  refine ⟨h.rewait (fun k hk hn _ => kb k ?_ hn) hbox rfl hw (fun k e => by simp [Value.ownBlock] at e; omega) (fun m hm => ?_), ⟨?_, ?_, ?_, ?_, fun k hk hn => kb k hk (fun e => hn (.inl e))⟩, fun k hk => ?_⟩
  · rcases hk with h1 | ⟨m, hm, h1⟩
    · exact h.lt k h1
    · exact (h.hold m hm).1.blk_lt k h1
  · rcases hh m hm with h1 | ⟨h1, h2⟩
    · exact .inl h1
    · refine .inr ⟨h1.kept (fun k e => kb k (h1.blk_lt k e) (fun x => h2 k e (.inl x))), fun k e => ⟨h2 k e, fun x => ?_⟩⟩
      have := h1.blk_lt k e
      simp [Value.ownBlock] at x
      omega
  · exact hb.os
  · exact hb.tape
  · exact hb.output
  · have := hb.size
    simpa [World.setCell] using this
  · rcases hk with h1 | h1 | h1 | h1
    · exact .inl (.inl h1)
    · exact .inl (.inr (.inl h1))
    · simp [Value.ownBlock] at h1
      exact .inr (by omega)
    · exact .inl (.inr (.inr (.inr h1)))

/-- one round -/
theorem rgone_round {w0 wr w6 w9 : World} {b : Nat} {G G' : Nat → Prop} {S0 S : SiteS} {lv wv sv wv' lv' sv' : Value} {log waits : List TxM} (hM : RGoM w0 b G S0 S wr) (hl : log.map (·.t) = S.log) (hw : waits.map (·.t) = S.waits)
    (hG : ∀ k, G' k ↔ (footS b lv wv sv k ∨ ∃ m ∈ log ++ waits, m.blk k)) (hGG : ∀ k, G' k → G k ∨ w0.heap.size ≤ k) {i : Nat} {m : TxM} (hi : waits[i]? = some m) (hlog : S.log.length < 200) (hx : nextS S = some m.t)
    (t6 : Touch (footS b lv wv sv) wr w6) (f6 : ∀ k, footS b lv wv' sv k → footS b lv wv sv k ∨ wr.heap.size ≤ k)
    (ap : SMem w9 b lv' wv' sv' (applyS { S with waits := dropW S.waits m.t } m.t) (log ++ [m]) (waits.take i ++ waits.drop (i + 1))) (nf : ∀ k, footS b lv' wv' sv' k → footS b lv wv' sv k ∨ w6.heap.size ≤ k) (ht : Touch (footS b lv wv' sv) w6 w9) :
    RGoM w0 b G S0 (goneS S m.t) w9 := by
  have hm : m ∈ waits := List.mem_of_getElem? hi
  have hmm : m.t ∈ S.waits := by rw [← hw]; exact List.mem_map.2 ⟨m, hm, rfl⟩
  have him : S.waits[i]? = some m.t := by rw [← hw, List.getElem?_map, hi]; rfl
  have hsub : ∀ x ∈ waits.take i ++ waits.drop (i + 1), x ∈ waits := fun x hx => by
    rcases List.mem_append.1 hx with h1 | h1
    · exact List.mem_of_mem_take h1
    · exact List.mem_of_mem_drop h1
  have f9 : ∀ k, footS b lv' wv' sv' k → footS b lv wv sv k ∨ wr.heap.size ≤ k := fun k hk => by
    rcases nf k hk with h1 | h1
    · exact f6 k h1
    · exact .inr (by have := t6.size; omega)
  have tm : Touch (footS b lv wv sv) wr w9 := t6.more ht f6
  have tG : Touch G' wr w9 := ⟨tm.os, tm.tape, tm.output, tm.size, fun k hk hn => tm.block k hk (fun e => hn ((hG k).2 (.inl e)))⟩
  refine ⟨⟨fun k => footS b lv' wv' sv' k ∨ ∃ x ∈ (log ++ [m]) ++ (waits.take i ++ waits.drop (i + 1)), x.blk k, ⟨lv', wv', sv', log ++ [m], waits.take i ++ waits.drop (i + 1), ap, by rw [List.map_append, hl]; rfl, ?_, fun k => Iff.rfl⟩, fun k hk => ?_⟩, hM.touch.more tG hGG, hM.inv.gone hmm hlog, ?_, fun X hX => hM.go X (.step hlog hx hX)⟩
  · show _ = dropW S.waits m.t
    rw [dropW_at hM.inv.nums him, List.map_append, List.map_take, List.map_drop, hw]
  · rcases hk with h1 | ⟨x, hx, h1⟩
    · rcases f9 k h1 with h2 | h2
      · exact hGG k ((hG k).2 (.inl h2))
      · exact .inr (by have := hM.touch.size; omega)
    · refine hGG k ((hG k).2 (.inr ⟨x, ?_, h1⟩))
      rcases List.mem_append.1 hx with h2 | h2
      · rcases List.mem_append.1 h2 with h3 | h3
        · exact List.mem_append.2 (.inl h3)
        · rw [List.mem_singleton.1 h3]; exact List.mem_append.2 (.inr hm)
      · exact List.mem_append.2 (.inr (hsub x h2))
  · have := dropW_length hM.inv.nums hmm
    have := hM.wn
    show (dropW S.waits m.t).length ≤ 1000
    omega

/-- that one is applied -/
theorem rapply_round {w0 wr w6 : World} {b : Nat} {G G' : Nat → Prop} {S0 S : SiteS} {lv wv sv wv' : Value} {log waits : List TxM} (hM : RGoM w0 b G S0 S wr) (PM : SMem wr b lv wv sv S log waits) (hl : log.map (·.t) = S.log) (hw : waits.map (·.t) = S.waits)
    (hG : ∀ k, G' k ↔ (footS b lv wv sv k ∨ ∃ m ∈ log ++ waits, m.blk k)) (hGG : ∀ k, G' k → G k ∨ w0.heap.size ≤ k) {i : Nat} {m : TxM} (hi : waits[i]? = some m) (hlog : S.log.length < 200) (hx : nextS S = some m.t)
    (t6 : Touch (footS b lv wv sv) wr w6) (f6 : ∀ k, footS b lv wv' sv k → footS b lv wv sv k ∨ wr.heap.size ≤ k) (PM6 : SMem w6 b lv wv' sv { S with waits := dropW S.waits m.t } log (waits.take i ++ waits.drop (i + 1))) :
    Calls Tryz.prog 51 #[.pointer (some ⟨b, 0, none⟩), .agg #[.int .i64 m.t.site, .int .i64 m.t.seq, .int .i64 m.t.wall, .int .i64 m.t.count, .int .i64 m.t.d0, .int .i64 m.t.d1, .int .i64 m.t.d2, .int .i64 m.t.d3, .slice m.wa m.t.ws.length m.wc]] w6 fun e w' =>
      e = .returned (.tuple #[]) ∧ RGoM w0 b G S0 (goneS S m.t) w' ∧ Touch (footS b lv wv' sv) w6 w' := by
  have hm : m ∈ waits := List.mem_of_getElem? hi
  have hold := PM.hold m (List.mem_append.2 (.inr hm))
  have hmm : m.t ∈ S.waits := by rw [← hw]; exact List.mem_map.2 ⟨m, hm, rfl⟩
  obtain ⟨⟨s0, s3⟩, hsq, hw5⟩ := okT_parts (hM.inv.wt m.t hmm).1
  have hlen := hM.inv.len
  have hl2 : log.length = S.log.length := by rw [← hl]; simp
  refine (refApplies_any m w6 PM6 ⟨hold.1.kept (fun k e => t6.block k (hold.1.blk_lt k e) (hold.2 k e)), fun k e hf => ?_⟩ s0 s3 (by show S.l.length + _ ≤ _; omega) (by omega)).mono fun e w' ⟨he, lv', sv', p1, p2, p3⟩ => ⟨he, rgone_round hM hl hw hG hGG hi hlog hx t6 f6 p1 p2 p3, p3⟩
  rcases f6 k hf with h1 | h1
  · exact hold.2 k e h1
  · have := hold.1.blk_lt k e
    omega

end Go.Proofs.YtplbdmcfghhbdaaGreatDoor

namespace Go.Proofs.YtplbdmcfghhbdaaGreatDoor
open Go.RowKit

/-- a function's region, by its number -/
def findRegion (n : Nat) : Code → Option Code
  | .region id ops d => if id = n then some (.region id ops d) else none
  | .seq x y => match findRegion n x with
    | some c => some c
    | none => findRegion n y
  | .block _ c => findRegion n c
  | .loop c => findRegion n c
  | .cond _ x y => match findRegion n x with
    | some c => some c
    | none => findRegion n y
  | _ => none
/-- the region that a piece opens with -/
def opensWith (n : Nat) : Code → Bool
  | .region id _ _ => Nat.beq id n
  | .seq x _ => opensWith n x
  | .block _ c => opensWith n c
  | .loop c => opensWith n c
  | _ => false
/-- a function's loop, by the region that its body opens with -/
def findLoop (n : Nat) : Code → Option Code
  | .loop c => match opensWith n c with
    | true => some (.loop c)
    | false => findLoop n c
  | .seq x y => match findLoop n x with
    | some c => some c
    | none => findLoop n y
  | .block _ c => findLoop n c
  | .cond _ x y => match findLoop n x with
    | some c => some c
    | none => findLoop n y
  | _ => none
/-- what a function does from a region on -/
def findFrom (n : Nat) : Code → Option Code
  | .seq x y => match opensWith n x with
    | true => some (.seq x y)
    | false => match findFrom n x with
      | some c => some c
      | none => findFrom n y
  | .block _ c => findFrom n c
  | .cond _ x y => match findFrom n x with
    | some c => some c
    | none => findFrom n y
  | _ => none
theorem wp_out {P : Program} {c : Code} {x : Exit} {Q : Exit → Act → World → Prop} {a : Act} {w : World} (h : c.wp P (fun e a w => e = x ∧ Q x a w) a w) : c.wp P Q a w :=
  wp_mono h (fun e a w h => by obtain ⟨h1, h2⟩ := h; rw [h1]; exact h2)
theorem wp_next {P : Program} {c : Code} {K : Act → World → Prop} {Q : Exit → Act → World → Prop} {a : Act} {w : World} (h : c.wp P (Exit.then K (fun _ _ _ => False)) a w) : c.wp P (Exit.then K Q) a w :=
  wp_mono h (fun e a w h => by cases e <;> first | exact h | exact False.elim h)

end Go.Proofs.YtplbdmcfghhbdaaGreatDoor

namespace Go.Proofs.YtplbdmcfghhbdaaGreatDoor
open Go.RowKit

/-- those that a vector has not -/
def missP (S : SiteS) (h0 h1 h2 h3 : Int) : List TxP := S.log.filter (fun t => decide (depOf t.site h0 h1 h2 h3 < t.seq))
theorem missP_map {S : SiteS} {log : List TxM} (h : log.map (·.t) = S.log) (h0 h1 h2 h3 : Int) : (log.filter (missB h0 h1 h2 h3)).map (·.t) = missP S h0 h1 h2 h3 := by
  unfold missP
  rw [← h, List.filter_map]
  rfl
/-- a row of them, with their writes -/
def MissTo (w : World) (L : List TxP) (v : Value) (w' : World) : Prop := ∃ kept : List TxM, kept.map (·.t) = L ∧ (∃ B, w'.ownsRow B 44 9 v kept.length (txsC kept)) ∧ (∀ m ∈ kept, WrIn w' m.wa m.wc m.t.ws) ∧ Below w.heap.size w w'

theorem rread_any {b : Nat} {G : Nat → Prop} {S : SiteS} (key a0 a1 a2 a3 : Int) (w : World) (h : RS w b G S) (hI : InvS S) :
    Calls Tryz.prog 18 #[.pointer (some ⟨b, 0, none⟩), .int .i64 key, .agg #[.int .i64 a0, .int .i64 a1, .int .i64 a2, .int .i64 a3]] w fun e w' =>
      e = .returned (.tuple #[.agg (verL (readS S key a0 a1 a2 a3).1).toArray, .int .i64 (readS S key a0 a1 a2 a3).2]) ∧ Below w.heap.size w w' := by
  obtain ⟨lv, wv, sv, log, waits, h, _, _, _⟩ := h
  exact refSiteRead_any key a0 a1 a2 a3 w h (by have := hI.len; have := hI.log; omega)
theorem pread_site {b : Nat} {G : Nat → Prop} {S : SiteS} (key a0 a1 a2 a3 : Int) (w : World) (h : PS w b G S) (hI : InvS S) :
    Calls Tryz.prog 19 #[.pointer (some ⟨b, 0, none⟩), .int .i64 key, .agg #[.int .i64 a0, .int .i64 a1, .int .i64 a2, .int .i64 a3]] w fun e w' =>
      e = .returned (.tuple #[.agg (verL (readS S key a0 a1 a2 a3).1).toArray, errV (readS S key a0 a1 a2 a3).2]) ∧ Below w.heap.size w w' := by
  obtain ⟨lv, bm, F, log, waits, h, _, _, _⟩ := h
  exact pread_any key a0 a1 a2 a3 w h hI
theorem rstable_any {b : Nat} {G : Nat → Prop} {S : SiteS} (sites : Int) (w : World) (h : RS w b G S) :
    Calls Tryz.prog 23 #[.pointer (some ⟨b, 0, none⟩), .int .i64 sites] w fun e w' =>
      e = .returned (.agg #[.int .i64 (stabS S (cutN sites)).v0, .int .i64 (stabS S (cutN sites)).v1, .int .i64 (stabS S (cutN sites)).v2, .int .i64 (stabS S (cutN sites)).v3]) ∧ Below w.heap.size w w' := by
  obtain ⟨lv, wv, sv, log, waits, h, _, _, _⟩ := h
  exact refStable_all sites w h
theorem pstable_any {b : Nat} {G : Nat → Prop} {S : SiteS} (sites : Int) (w : World) (h : PS w b G S) :
    Calls Tryz.prog 22 #[.pointer (some ⟨b, 0, none⟩), .int .i64 sites] w fun e w' =>
      e = .returned (.agg #[.int .i64 (stabS S (cutN sites)).v0, .int .i64 (stabS S (cutN sites)).v1, .int .i64 (stabS S (cutN sites)).v2, .int .i64 (stabS S (cutN sites)).v3]) ∧ Below w.heap.size w w' := by
  obtain ⟨lv, bm, F, log, waits, h, _, _, _⟩ := h
  exact stable_any sites w h
theorem rmissing_any {b : Nat} {G : Nat → Prop} {S : SiteS} (h0 h1 h2 h3 : Int) (w : World) (h : RS w b G S) (hI : InvS S) :
    Calls Tryz.prog 30 #[.pointer (some ⟨b, 0, none⟩), .agg #[.int .i64 h0, .int .i64 h1, .int .i64 h2, .int .i64 h3]] w fun e w' => ∃ v, e = .returned v ∧ MissTo w (missP S h0 h1 h2 h3) v w' := by
  obtain ⟨lv, wv, sv, log, waits, h, hl, _, _⟩ := h
  have hln : log.length = S.log.length := by rw [← hl]; simp
  refine (refMissing_any h0 h1 h2 h3 w h (fun m hm => (hI.lsite m.t (by rw [← hl]; exact List.mem_map.2 ⟨m, hm, rfl⟩)).1) (by have := hI.log; omega)).mono fun e w' ⟨v, h1', h2', h3'⟩ => ⟨v, h1', log.filter (missB h0 h1 h2 h3), missP_map hl _ _ _ _, ⟨_, h2'⟩, fun m hm => ?_, h3'⟩
  exact (h.hold m (List.mem_append.2 (.inl (List.mem_filter.1 hm).1))).1.later h3'
theorem pmissing_any {b : Nat} {G : Nat → Prop} {S : SiteS} (h0 h1 h2 h3 : Int) (w : World) (h : PS w b G S) (hI : InvS S) :
    Calls Tryz.prog 29 #[.pointer (some ⟨b, 0, none⟩), .agg #[.int .i64 h0, .int .i64 h1, .int .i64 h2, .int .i64 h3]] w fun e w' => ∃ v, e = .returned v ∧ MissTo w (missP S h0 h1 h2 h3) v w' := by
  obtain ⟨lv, bm, F, log, waits, h, hl, _, _⟩ := h
  have hln : log.length = S.log.length := by rw [← hl]; simp
  refine (missing_any h0 h1 h2 h3 w h (fun m hm => hI.lsite m.t (by rw [← hl]; exact List.mem_map.2 ⟨m, hm, rfl⟩)) (by have := hI.log; omega)).mono fun e w' ⟨v, h1', kept, k1, k2, k3, k4⟩ => ⟨v, h1', kept, ?_, k2, k3, k4⟩
  rw [← k1]
  exact missP_map hl _ _ _ _
theorem rtold_any {b : Nat} {G : Nat → Prop} {S : SiteS} (a0 a1 a2 a3 : Int) (w : World) (h : RS w b G S) (hI : InvS S) :
    Calls Tryz.prog 27 #[.pointer (some ⟨b, 9, none⟩), .agg #[.int .i64 a0, .int .i64 a1, .int .i64 a2, .int .i64 a3]] w fun e w' => ∃ v, e = .returned v ∧ w'.ownsRow (w.heap.size + 1) 9 1 v 8 (toldC a0 a1 a2 a3 S.l 8) ∧ Below w.heap.size w w' := by
  obtain ⟨lv, wv, sv, log, waits, h, _, _, _⟩ := h
  exact oTold_any a0 a1 a2 a3 w h.st (by have := hI.len; have := hI.log; omega)
theorem RS.of {w w' : World} {b : Nat} {G : Nat → Prop} {lv wv sv lv' wv' sv' : Value} {S' : SiteS} {log waits log' : List TxM} (hl : log'.map (·.t) = S'.log) (hw : waits.map (·.t) = S'.waits) (hG : ∀ k, G k ↔ (footS b lv wv sv k ∨ ∃ m ∈ log ++ waits, m.blk k)) (M : SMem w' b lv' wv' sv' S' log' waits) (nf : ∀ k, footS b lv' wv' sv' k → footS b lv wv sv k ∨ w.heap.size ≤ k) (tt : Touch (footS b lv wv sv) w w')
    (nl : ∀ m ∈ log', m ∈ log ∨ ∀ k, m.blk k → w.heap.size ≤ k) : RPo w b G S' w' := by
  refine ⟨_, ⟨lv', wv', sv', log', waits, M, hl, hw, fun k => Iff.rfl⟩, fun k hk => ?_, ⟨tt.os, tt.tape, tt.output, tt.size, fun k hk hn => tt.block k hk (fun e => hn ((hG k).2 (.inl e)))⟩⟩
  rcases hk with h1 | ⟨m, hm, h1⟩
  · exact (nf k h1).imp (fun e => (hG k).2 (.inl e)) id
  · rcases List.mem_append.1 hm with h2 | h2
    · rcases nl m h2 with h3 | h3
      · exact .inl ((hG k).2 (.inr ⟨m, List.mem_append.2 (.inl h3), h1⟩))
      · exact .inr (h3 k h1)
    · exact .inl ((hG k).2 (.inr ⟨m, List.mem_append.2 (.inr h2), h1⟩))
theorem rsweep_any {b : Nat} {G : Nat → Prop} {S : SiteS} (x0 x1 x2 x3 : Int) (w : World) (h : RS w b G S) (hI : InvS S) :
    Calls Tryz.prog 16 #[.pointer (some ⟨b, 9, none⟩), .agg #[.int .i64 x0, .int .i64 x1, .int .i64 x2, .int .i64 x3]] w fun e w' => e = .returned (.tuple #[]) ∧ RPo w b G { S with l := sweepL x0 x1 x2 x3 S.l } w' := by
  obtain ⟨lv, wv, sv, log, waits, h, hl, hw, hG⟩ := h
  refine (oSweep_any x0 x1 x2 x3 w h.st (by have := hI.len; have := hI.log; omega)).mono fun e w' ⟨h1, h2⟩ => ⟨h1, ?_⟩
  obtain ⟨sv', m1, m2, m3⟩ := h.store h2
  exact RS.of hl hw hG m1 m2 m3 (fun m hm => .inl hm)

/-- what comes of a commit at a site of the document -/
def RCommitIs (w : World) (b : Nat) (G : Nat → Prop) (S : SiteS) (now d0 d1 d2 d3 : Int) (ws : List Wr) (e : Ending) (w' : World) : Prop :=
  ∃ m : TxM, e = .returned (.tuple #[txV m, .int .i64 (comE S now d0 d1 d2 d3 ws)]) ∧ m.t = comT S now d0 d1 d2 d3 ws ∧ Hid (WrIn w' m.wa m.wc m.t.ws ∧ RPo w b G (comS S now d0 d1 d2 d3 ws) w') ∧ ∀ k, m.blk k → w.heap.size ≤ k
theorem rcommit_any {b : Nat} {G : Nat → Prop} {S : SiteS} (now d0 d1 d2 d3 : Int) {a : Option Addr} {cap : Nat} {ws : List Wr} (w : World) (h : RS w b G S) (hI : InvS S) (hW : WrIn w a cap ws) (hX : ∀ k off, ws ≠ [] → a = some ⟨k, off, none⟩ → ¬ G k) :
    Calls Tryz.prog 8 #[.pointer (some ⟨b, 0, none⟩), .int .i64 now, .agg #[.int .i64 d0, .int .i64 d1, .int .i64 d2, .int .i64 d3], .slice a ws.length cap] w (RCommitIs w b G S now d0 d1 d2 d3 ws) := by
  have h0 := h
  obtain ⟨lv, wv, sv, log, waits, hM, hl, hw, hG⟩ := h
  have hln : log.length = S.log.length := by rw [← hl]; simp
  have hE : commitE S log.length now d0 d1 d2 d3 ws = comE S now d0 d1 d2 d3 ws := by rw [hln]; rfl
  by_cases hz : commitE S log.length now d0 d1 d2 d3 ws = 0
  · have hz' : comE S now d0 d1 d2 d3 ws = 0 := by rw [← hE]; exact hz
    refine (refCommit_yes now d0 d1 d2 d3 w hM hI hln hW (fun k off e1 e2 hf => hX k off e1 e2 ((hG k).2 (.inl hf))) hz).mono fun e w' ho => ?_
    obtain ⟨wa, wc, lv', sv', he, M, nf, tt, hnew⟩ := ho
    · refine ⟨⟨commitT S now d0 d1 d2 d3 ws, wa, wc⟩, by rw [he, hz']; rfl, by unfold comT; rw [if_pos hz'], ⟨(M.hold _ (List.mem_append.2 (.inl (List.mem_append.2 (.inr (List.mem_singleton.2 rfl)))))).1, ?_⟩, hnew⟩
      unfold comS
      rw [if_pos hz']
      refine RS.of (by rw [List.map_append, hl]; rfl) hw hG M nf tt (fun m hm => ?_)
      rcases List.mem_append.1 hm with h1 | h1
      · exact .inl h1
      · rw [List.mem_singleton.1 h1]
        exact .inr hnew
  · have hz' : comE S now d0 d1 d2 d3 ws ≠ 0 := by rw [← hE]; exact hz
    refine (refCommit_no now d0 d1 d2 d3 w hM hW hz).mono fun e w' ho => ?_
    rcases ho with ⟨_, he, hb⟩ | ⟨hn, _⟩
    · refine ⟨tx0, by rw [he, hE]; rfl, by unfold comT; rw [if_neg hz']; rfl, ⟨⟨Nat.le_refl _, by decide, .inl rfl⟩, ?_⟩, fun k hk => absurd rfl hk.1⟩
      unfold comS
      rw [if_neg hz']
      exact RPo.same h0 hb
    · exact absurd hn hz

end Go.Proofs.YtplbdmcfghhbdaaGreatDoor
