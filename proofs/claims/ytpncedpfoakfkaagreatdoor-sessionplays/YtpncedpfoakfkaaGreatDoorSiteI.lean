/-
  What it is to take another one's transaction at a site of the document, as the model runs it (copseref.Site.Take): up to where all that may be applied is.
  A session of the document begins, as the model runs it (copseref.Session.Begin).
  What a site reads, and what comes of a commit at a site of the document, with all that it holds in one word.
  A session's parts: sites and sessions of both sides, as things in memory that lie apart.
  Towards a Commit of a session: what is left of the session and of the site, step by step; one cell of what it has seen.
  A session of the document ends, as the model runs it (copseref.Session.Abort).
  What a session of the document reads, as the model runs it (copseref.Session.Read).
  The program's session, as the model runs it: valueOf, Read, hasRoom, rising.
  All that may be applied is, at a site of the document (copseref.Site.Take's loop): what is so of memory while it goes on.
  The pieces of a function's code, found in it.
  How many wait; a site of the document that is new.
-/
import Derived.Test.YtpncedpfoakfkaaGreatDoorPTake
import Derived.Test.YtpncedpfoakfkaaGreatDoorRefCommit3
import Derived.Test.YtpncedpfoakfkaaGreatDoorRefRightTx
import Derived.Test.YtpncedpfoakfkaaGreatDoorSiteF
import Derived.Test.YtpncedpfoakfkaaGreatDoorSiteH
import Derived.Test.YtpncedpfoakfkaaGreatDoorRefMax
import Derived.Test.YtpncedpfoakfkaaGreatDoorPCommit
import Derived.Test.YtpncedpfoakfkaaGreatDoorPRead
namespace Go.Proofs.YtpncedpfoakfkaaGreatDoor
open Go.RowKit

/-- a site of the document in memory: all that it holds lies in blocks of G -/
def RS (w : World) (b : Nat) (G : Nat → Prop) (S : SiteS) : Prop :=
  ∃ lv wv sv log waits, SMem w b lv wv sv S log waits ∧ log.map (·.t) = S.log ∧ waits.map (·.t) = S.waits ∧ ∀ k, G k ↔ (footS b lv wv sv k ∨ ∃ m ∈ log ++ waits, m.blk k)
theorem RS.lt {w : World} {b : Nat} {G : Nat → Prop} {S : SiteS} (h : RS w b G S) : ∀ k, G k → k < w.heap.size := by
  obtain ⟨lv, wv, sv, log, waits, h, _, _, hG⟩ := h
  intro k hk
  rcases (hG k).1 hk with h1 | ⟨m, hm, h1⟩
  · exact h.lt k h1
  · exact (h.hold m hm).1.blk_lt k h1
theorem RS.kept {w w' : World} {b : Nat} {G : Nat → Prop} {S : SiteS} (h : RS w b G S) (hk : ∀ k, G k → w'.heap[k]? = w.heap[k]?) (hs : w.heap.size ≤ w'.heap.size) : RS w' b G S := by
  obtain ⟨lv, wv, sv, log, waits, h, h1, h2, hG⟩ := h
  exact ⟨lv, wv, sv, log, waits, h.keptB (fun k e => hk k ((hG k).2 e)) hs, h1, h2, hG⟩
theorem RS.later {w w' : World} {b : Nat} {G : Nat → Prop} {S : SiteS} (h : RS w b G S) (hb : Below w.heap.size w w') : RS w' b G S := h.kept (fun k hk => hb.block k (h.lt k hk)) hb.size
/-- what is left of it -/
def RPo (w : World) (b : Nat) (G : Nat → Prop) (S' : SiteS) (w' : World) : Prop := ∃ G', RS w' b G' S' ∧ (∀ k, G' k → G k ∨ w.heap.size ≤ k) ∧ Touch G w w'
theorem RPo.trans {w w1 w2 : World} {b : Nat} {G G1 : Nat → Prop} {S' : SiteS} (hG : ∀ k, G1 k → G k ∨ w.heap.size ≤ k) (ht : Touch G w w1) (h : RPo w1 b G1 S' w2) : RPo w b G S' w2 := by
  obtain ⟨G', h1, h2, h3⟩ := h
  refine ⟨G', h1, fun k hk => ?_, ht.more h3 hG⟩
  rcases h2 k hk with h4 | h4
  · exact hG k h4
  · exact .inr (by have := ht.size; omega)
theorem RPo.same {w w' : World} {b : Nat} {G : Nat → Prop} {S : SiteS} (h : RS w b G S) (hb : Below w.heap.size w w') : RPo w b G S w' := ⟨G, h.later hb, fun _ hk => .inl hk, Touch.ofBelow hb⟩
/-- another row of what waits -/
theorem SMem.rewait {w w' : World} {b : Nat} {lv wv sv wv' : Value} {S S' : SiteS} {log waits waits' : List TxM} (h : SMem w b lv wv sv S log waits) (hk : ∀ k, (footS b lv wv sv k ∨ ∃ m ∈ log ++ waits, m.blk k) → k ≠ b → wv.ownBlock ≠ some k → w'.heap[k]? = w.heap[k]?) (hbox : RowL w' b (siteC S' lv wv' sv)) (hl : S'.l = S.l)
    (hw : w'.ownsRow 0 44 9 wv' waits'.length (txsC waits')) (hnew : ∀ k, wv'.ownBlock = some k → w.heap.size ≤ k) (hh : ∀ m ∈ waits', m ∈ waits ∨ (WrIn w' m.wa m.wc m.t.ws ∧ ∀ k, m.blk k → ¬ footS b lv wv sv k ∧ wv'.ownBlock ≠ some k)) : SMem w' b lv wv' sv S' log waits' := by
  have nf : ∀ k, footS b lv wv' sv k → footS b lv wv sv k ∨ wv'.ownBlock = some k := fun k hk => by
    rcases hk with h1 | h1 | h1 | h1
    · exact .inl (.inl h1)
    · exact .inl (.inr (.inl h1))
    · exact .inr h1
    · exact .inl (.inr (.inr (.inr h1)))
  have old : ∀ m ∈ log ++ waits, WrIn w' m.wa m.wc m.t.ws ∧ ∀ k, m.blk k → ¬ footS b lv wv' sv k := fun m hm => by
    have q := h.hold m hm
    refine ⟨q.1.kept (fun k e => hk k (.inr ⟨m, hm, e⟩) (fun x => q.2 k e (.inl x)) (fun x => q.2 k e (.inr (.inr (.inl x))))), fun k e hf => ?_⟩
    rcases nf k hf with h1 | h1
    · exact q.2 k e h1
    · have := hnew k h1
      have := q.1.blk_lt k e
      omega
  refine ⟨hbox, own_keptN h.rlog (fun k e => hk k (.inl (.inr (.inl e))) (fun x => h.nl (by rw [← x]; exact e)) (h.lw k e)), hw, by rw [hl]; exact own_keptN h.own (fun k e => hk k (.inl (.inr (.inr (.inr e)))) (fun x => h.ns (by rw [← x]; exact e)) (fun x => h.ws k x e)), by rw [hl]; exact h.ok, h.nl, fun e => ?_, h.ns, fun k e e2 => ?_, h.ls, fun k e e2 => ?_, fun m hm => ?_⟩
  · have := hnew b e
    have := h.box.lt
    omega
  · have := hnew k e2
    have := (h.rlog.lt k e).2
    omega
  · have := hnew k e
    have := (h.own.lt k e2).2
    omega
  · rcases List.mem_append.1 hm with h1 | h1
    · exact old m (List.mem_append.2 (.inl h1))
    · rcases hh m h1 with h2 | h2
      · exact old m (List.mem_append.2 (.inr h2))
      · refine ⟨h2.1, fun k e hf => ?_⟩
        rcases nf k hf with h3 | h3
        · exact (h2.2 k e).1 h3
        · exact (h2.2 k e).2 h3

theorem own_none9 (w : World) {n : Nat} (T : TypeId) (hn : w.heap.size = n) : (w.alloc (.cells #[] T)).ownsRow 0 T 9 (.slice (some ⟨n, 0, none⟩) 0 0) 0 [] := by
  subst hn
  exact ⟨rfl, .inr ⟨w.heap.size, 0, #[], rfl, Nat.zero_le _, heap_alloc_new w (.cells #[] T), Nat.le_refl _, by decide, rfl, rfl⟩⟩
/-- a row of one -/
theorem TxsIn.one {w : World} {M : Nat} {m : TxM} (h : RowL w M (txC m)) : TxsIn w (some ⟨M, 0, none⟩) 1 [m] := by
  refine ⟨Nat.le_refl _, by omega, .inr ⟨M, 0, rfl, fun i x r u hi hr => ?_⟩⟩
  have h0 : i = 0 := by
    have := (List.getElem?_eq_some_iff.1 hi).1
    simp at this
    exact this
  subst h0
  simp at hi
  subst hi
  simpa using h.cell r u hr
theorem TxsIn.kept {w w' : World} {a : Option Addr} {c : Nat} {l : List TxM} (h : TxsIn w a c l) (hk : ∀ k off, a = some ⟨k, off, none⟩ → w'.heap[k]? = w.heap[k]?) : TxsIn w' a c l := by
  refine ⟨h.len, h.cap, ?_⟩
  rcases h.held with h0 | ⟨wb, off, e, hc⟩
  · exact .inl h0
  · exact .inr ⟨wb, off, e, fun i m r u h1 h2 => by rw [World.cell?_of_block (w := w) (hk wb off e)]; exact hc i m r u h1 h2⟩
theorem TxsIn.take {w : World} {wb off c : Nat} {l : List TxM} (h : TxsIn w (some ⟨wb, off, none⟩) c l) (k : Nat) (hk : k ≤ l.length) : TxsIn w (some ⟨wb, off, none⟩) c (l.take k) := by
  refine ⟨by rw [List.length_take]; have := h.len; omega, h.cap, ?_⟩
  rcases h.held with h0 | ⟨wb', off', e, hc⟩
  · exact .inl (by rw [h0]; simp)
  · refine .inr ⟨wb', off', e, fun i m r u h1 h2 => hc i m r u ?_ h2⟩
    rw [List.getElem?_take] at h1
    split at h1
    · exact h1
    · cases h1
theorem TxsIn.drop {w : World} {wb off c : Nat} {l : List TxM} (h : TxsIn w (some ⟨wb, off, none⟩) c l) (k : Nat) (hk : k ≤ l.length) : TxsIn w (some ⟨wb, off + k * 9, none⟩) (c - k) (l.drop k) := by
  refine ⟨by rw [List.length_drop]; have := h.len; omega, by have := h.cap; omega, ?_⟩
  rcases h.held with h0 | ⟨wb', off', e, hc⟩
  · exact .inl (by rw [h0]; simp)
  · injection e with e
    injection e with e1 e2
    subst e1 e2
    refine .inr ⟨_, _, rfl, fun i m r u h1 h2 => ?_⟩
    rw [List.getElem?_drop] at h1
    have := hc (k + i) m r u h1 h2
    rw [show off + k * 9 + (i * 9 + r) = off + ((k + i) * 9 + r) by omega]
    exact this

end Go.Proofs.YtpncedpfoakfkaaGreatDoor

namespace Go.Proofs.YtpncedpfoakfkaaGreatDoor
open Go.RowKit

/-- what is left of it -/
def RSPo (w : World) (b : Nat) (wv : Value) (s' : SesS) (w' : World) : Prop :=
  ∃ wv', RSes w' b wv' s' ∧ (∀ k, wv'.ownBlock = some k → wv.ownBlock = some k ∨ w.heap.size ≤ k) ∧ Touch (fun k => k = b ∨ wv.ownBlock = some k) w w'
theorem RSPo.same {w w' : World} {b : Nat} {wv : Value} {s : SesS} (h : RSes w b wv s) (hb : Below w.heap.size w w') : RSPo w b wv s w' := ⟨wv, h.later hb, fun _ e => .inl e, Touch.ofBelow hb⟩
/-- the box alone is written -/
theorem rses_box {w w1 : World} {b : Nat} {wv : Value} {s' : SesS} (hb : Below w.heap.size w w1) {w' : World} (hw : ∀ k, k ≠ b → w'.heap[k]? = w1.heap[k]?) (ho : w'.os = w1.os) (ht : w'.tape = w1.tape) (hu : w'.output = w1.output) (hz : w1.heap.size ≤ w'.heap.size) (hB : RowL w' b (rsesC s' (.slice none 0 0))) (hn : s'.ws = []) : RSPo w b wv s' w' := by
  refine ⟨.slice none 0 0, ⟨hB, by rw [hn]; exact World.ownsRow_nil _ _ _ _, by simp [Value.ownBlock]⟩, fun k e => by simp [Value.ownBlock] at e, ⟨ho.trans hb.os, ht.trans hb.tape, hu.trans hb.output, Nat.le_trans hb.size hz, fun k hk hn => ?_⟩⟩
  have hkb : k ≠ b := fun e => hn (.inl e)
  exact (hw k hkb).trans (hb.block k hk)

theorem beg_box {w w2 : World} {b : Nat} {wv wv0 : Value} {s : SesS} (hb : Below w.heap.size w w2) (B : RowL w2 b (rsesC s wv0)) (a0 a1 a2 a3 : Int) :
    RSPo w b wv { s with opn := true, s0 := a0, s1 := a1, s2 := a2, s3 := a3, ws := [] } ((((((w2.setCell ⟨b, 8, none⟩ (.bool true)).setCell ⟨b, 4, none⟩ (.int .i64 a0)).setCell ⟨b, 5, none⟩ (.int .i64 a1)).setCell ⟨b, 6, none⟩ (.int .i64 a2)).setCell ⟨b, 7, none⟩ (.int .i64 a3)).setCell ⟨b, 9, none⟩ (.slice none 0 0)) := by
  have R1 := B.set 8 (.bool true) (by simp [rsesC])
  have R2 := R1.set 4 (.int .i64 a0) (by simp [rsesC])
  have R3 := R2.set 5 (.int .i64 a1) (by simp [rsesC])
  have R4 := R3.set 6 (.int .i64 a2) (by simp [rsesC])
  have R5 := R4.set 7 (.int .i64 a3) (by simp [rsesC])
  have R6 := R5.set 9 (.slice none 0 0) (by simp [rsesC])
  refine rses_box hb (fun k hk => ?_) ?_ ?_ ?_ ?_ R6 rfl
  · rw [Below.heap_setCell _ _ _ _ hk, Below.heap_setCell _ _ _ _ hk, Below.heap_setCell _ _ _ _ hk, Below.heap_setCell _ _ _ _ hk, Below.heap_setCell _ _ _ _ hk, Below.heap_setCell _ _ _ _ hk]
  · simp only [World.setCell]
  · simp only [World.setCell]
  · simp only [World.setCell]
  · simp only [World.setCell, Array.size_modify, Nat.le_refl]

set_option maxRecDepth 100000 in
set_option maxHeartbeats 4000000 in
theorem refBegin_any {b bx : Nat} {wv : Value} {s : SesS} {G : Nat → Prop} {S : SiteS} (w : World) (h : RSes w b wv s) (hS : RS w bx G S) (hG : ¬ G b) :
    Calls Tryz.prog 33 #[.pointer (some ⟨b, 0, none⟩), .pointer (some ⟨bx, 0, none⟩)] w fun e w' => e = .returned (.int .i64 (begE S s)) ∧ RSPo w b wv (begS S s) w' := by
  obtain ⟨lv, wv2, sv, log, waits, M, _, _, hGG⟩ := hS
  have hne := Later.one
  have nb : b ≠ bx := fun e => hG ((hGG b).2 (.inl (.inl e)))
  have HS : Hid (RSes w b wv s) := h
  have HM : Hid (SMem w bx lv wv2 sv S log waits) := M
  have k8 := h.box.cell 8 _ rfl
  cases ho : s.opn
  · have l0 := Later.cell (h.box.cell 0 _ rfl)
    have l1 := Later.cell (h.box.cell 1 _ rfl)
    have l2 := Later.cell (h.box.cell 2 _ rfl)
    have l3 := Later.cell (h.box.cell 3 _ rfl)
    have x1 := Later.cell (M.box.cell 1 _ rfl)
    have x2 := Later.cell (M.box.cell 2 _ rfl)
    have x3 := Later.cell (M.box.cell 3 _ rfl)
    have x4 := Later.cell (M.box.cell 4 _ rfl)
    rw [ho] at k8
    have HO : Hid (s.opn = false) := ho
    cases hc : covB S.a0 S.a1 S.a2 S.a3 s.p0 s.p1 s.p2 s.p3
    · have HC : Hid (covB S.a0 S.a1 S.a2 S.a3 s.p0 s.p1 s.p2 s.p3 = false) := hc
      have HE : Hid (begE S s = 10) := by show _ = _; unfold begE; rw [HO.out, HC.out]; rfl
      clear h M ho hc hGG
      go_enter Tryz.func33, Tryz.ntmps33
      go_wp2_with fail
      refine wp_region_later (by kernel_rfl) (by kernel_rfl) ?_
      repeat (go_big_quiet_step (first | rfl | (go_at_call 49; with_reducible exact calls_later (refCovers_is HC.out _))))
      refine wpQuiet_nil ?_
      rintro w2 ⟨⟨_, hb2⟩, rfl⟩
      go_wp2_with fail
      go_ret
      refine ⟨by rw [HE.out]; rfl, ?_⟩
      rw [show begS S s = s by unfold begS; rw [if_neg (by rw [HE.out]; decide)]]
      exact RSPo.same HS.out hb2
    · have HC : Hid (covB S.a0 S.a1 S.a2 S.a3 s.p0 s.p1 s.p2 s.p3 = true) := hc
      have HE : Hid (begE S s = 0) := by show _ = _; unfold begE; rw [HO.out, HC.out]; rfl
      clear h M ho hc hGG
      go_enter Tryz.func33, Tryz.ntmps33
      go_wp2_with fail
      refine wp_region_later (by kernel_rfl) (by kernel_rfl) ?_
      repeat (go_big_quiet_step (first | rfl | (go_at_call 49; with_reducible exact calls_later (refCovers_is HC.out _))))
      refine wpQuiet_nil ?_
      rintro w2 ⟨⟨_, hb2⟩, rfl⟩
      have B2 := HS.out.box.later hb2
      have M2 := HM.out.box.later hb2
      clear k8 l0 l1 l2 l3 x1 x2 x3 x4
      have y1 := M2.cell 1 _ rfl
      have y2 := M2.cell 2 _ rfl
      have y3 := M2.cell 3 _ rfl
      have y4 := M2.cell 4 _ rfl
      have z4 := B2.cell 4 _ rfl
      have z5 := B2.cell 5 _ rfl
      have z6 := B2.cell 6 _ rfl
      have z7 := B2.cell 7 _ rfl
      have z8 := B2.cell 8 _ rfl
      have z9 := B2.cell 9 _ rfl
      have f4 := B2.free 4 (by simp [rsesC])
      have f5 := B2.free 5 (by simp [rsesC])
      have f6 := B2.free 6 (by simp [rsesC])
      have f7 := B2.free 7 (by simp [rsesC])
      have f8 := B2.free 8 (by simp [rsesC])
      have f9 := B2.free 9 (by simp [rsesC])
      go_wp2_with fail
      go_ret
      refine ⟨by rw [HE.out]; rfl, ?_⟩
      rw [show begS S s = { s with opn := true, s0 := S.a0, s1 := S.a1, s2 := S.a2, s3 := S.a3, ws := [] } by unfold begS; rw [if_pos HE.out]]
      exact beg_box hb2 B2 S.a0 S.a1 S.a2 S.a3
  · rw [ho] at k8
    have HE : Hid (begE S s = 6) := by show _ = _; unfold begE; rw [ho]; rfl
    clear h M ho hGG
    go_enter Tryz.func33, Tryz.ntmps33
    go_wp2_with fail
    go_ret
    refine ⟨by rw [HE.out]; rfl, ?_⟩
    rw [show begS S s = s by unfold begS; rw [if_neg (by rw [HE.out]; decide)]]
    exact RSPo.same HS.out (Below.refl _ _)

end Go.Proofs.YtpncedpfoakfkaaGreatDoor

namespace Go.Proofs.YtpncedpfoakfkaaGreatDoor
open Go.RowKit

theorem rread_any {b : Nat} {G : Nat → Prop} {S : SiteS} (key a0 a1 a2 a3 : Int) (w : World) (h : RS w b G S) (hI : InvS S) :
    Calls Tryz.prog 18 #[.pointer (some ⟨b, 0, none⟩), .int .i64 key, .agg #[.int .i64 a0, .int .i64 a1, .int .i64 a2, .int .i64 a3]] w fun e w' =>
      e = .returned (.tuple #[.agg (verL (readS S key a0 a1 a2 a3).1).toArray, .int .i64 (readS S key a0 a1 a2 a3).2]) ∧ Below w.heap.size w w' := by
  obtain ⟨lv, wv, sv, log, waits, h, _, _, _⟩ := h
  exact refSiteRead_any key a0 a1 a2 a3 w h (by have := hI.len; have := hI.log; omega)
theorem pread_site {b : Nat} {G : Nat → Prop} {S : SiteS} (key a0 a1 a2 a3 : Int) (w : World) (h : PS w b G S) (hI : InvS S) :
    Calls Tryz.prog 19 #[.pointer (some ⟨b, 0, none⟩), .int .i64 key, .agg #[.int .i64 a0, .int .i64 a1, .int .i64 a2, .int .i64 a3]] w fun e w' =>
      e = .returned (.tuple #[.agg (verL (readS S key a0 a1 a2 a3).1).toArray, errV (readS S key a0 a1 a2 a3).2]) ∧ Below w.heap.size w w' := by
  obtain ⟨lv, bm, F, log, waits, h, _, _, _⟩ := h
  exact pread_any key a0 a1 a2 a3 w h hI
theorem RS.of {w w' : World} {b : Nat} {G : Nat → Prop} {lv wv sv lv' wv' sv' : Value} {S' : SiteS} {log waits log' : List TxM} (hl : log'.map (·.t) = S'.log) (hw : waits.map (·.t) = S'.waits) (hG : ∀ k, G k ↔ (footS b lv wv sv k ∨ ∃ m ∈ log ++ waits, m.blk k)) (M : SMem w' b lv' wv' sv' S' log' waits) (nf : ∀ k, footS b lv' wv' sv' k → footS b lv wv sv k ∨ w.heap.size ≤ k) (tt : Touch (footS b lv wv sv) w w')
    (nl : ∀ m ∈ log', m ∈ log ∨ ∀ k, m.blk k → w.heap.size ≤ k) : RPo w b G S' w' := by
  refine ⟨_, ⟨lv', wv', sv', log', waits, M, hl, hw, fun k => Iff.rfl⟩, fun k hk => ?_, ⟨tt.os, tt.tape, tt.output, tt.size, fun k hk hn => tt.block k hk (fun e => hn ((hG k).2 (.inl e)))⟩⟩
  rcases hk with h1 | ⟨m, hm, h1⟩
  · exact (nf k h1).imp (fun e => (hG k).2 (.inl e)) id
  · rcases List.mem_append.1 hm with h2 | h2
    · rcases nl m h2 with h3 | h3
      · exact .inl ((hG k).2 (.inr ⟨m, List.mem_append.2 (.inl h3), h1⟩))
      · exact .inr (h3 k h1)
    · exact .inl ((hG k).2 (.inr ⟨m, List.mem_append.2 (.inr h2), h1⟩))
/-- what comes of a commit at a site of the document -/
def RCommitIs (w : World) (b : Nat) (G : Nat → Prop) (S : SiteS) (now d0 d1 d2 d3 : Int) (ws : List Wr) (e : Ending) (w' : World) : Prop :=
  ∃ m : TxM, e = .returned (.tuple #[txV m, .int .i64 (comE S now d0 d1 d2 d3 ws)]) ∧ m.t = comT S now d0 d1 d2 d3 ws ∧ Hid (WrIn w' m.wa m.wc m.t.ws ∧ RPo w b G (comS S now d0 d1 d2 d3 ws) w') ∧ ∀ k, m.blk k → w.heap.size ≤ k
theorem rcommit_any {b : Nat} {G : Nat → Prop} {S : SiteS} (now d0 d1 d2 d3 : Int) {a : Option Addr} {cap : Nat} {ws : List Wr} (w : World) (h : RS w b G S) (hI : InvS S) (hW : WrIn w a cap ws) (hX : ∀ k off, ws ≠ [] → a = some ⟨k, off, none⟩ → ¬ G k) :
    Calls Tryz.prog 8 #[.pointer (some ⟨b, 0, none⟩), .int .i64 now, .agg #[.int .i64 d0, .int .i64 d1, .int .i64 d2, .int .i64 d3], .slice a ws.length cap] w (RCommitIs w b G S now d0 d1 d2 d3 ws) := by
  have h0 := h
  obtain ⟨lv, wv, sv, log, waits, hM, hl, hw, hG⟩ := h
  have hln : log.length = S.log.length := by rw [← hl]; simp
  have hE : commitE S log.length now d0 d1 d2 d3 ws = comE S now d0 d1 d2 d3 ws := by rw [hln]; rfl
  by_cases hz : commitE S log.length now d0 d1 d2 d3 ws = 0
  · have hz' : comE S now d0 d1 d2 d3 ws = 0 := by rw [← hE]; exact hz
    refine (refCommit_yes now d0 d1 d2 d3 w hM hI hln hW (fun k off e1 e2 hf => hX k off e1 e2 ((hG k).2 (.inl hf))) hz).mono fun e w' ho => ?_
    obtain ⟨wa, wc, lv', sv', he, M, nf, tt, hnew⟩ := ho
    · refine ⟨⟨commitT S now d0 d1 d2 d3 ws, wa, wc⟩, by rw [he, hz']; rfl, by unfold comT; rw [if_pos hz'], ⟨(M.hold _ (List.mem_append.2 (.inl (List.mem_append.2 (.inr (List.mem_singleton.2 rfl)))))).1, ?_⟩, hnew⟩
      unfold comS
      rw [if_pos hz']
      refine RS.of (by rw [List.map_append, hl]; rfl) hw hG M nf tt (fun m hm => ?_)
      rcases List.mem_append.1 hm with h1 | h1
      · exact .inl h1
      · rw [List.mem_singleton.1 h1]
        exact .inr hnew
  · have hz' : comE S now d0 d1 d2 d3 ws ≠ 0 := by rw [← hE]; exact hz
    refine (refCommit_no now d0 d1 d2 d3 w hM hW hz).mono fun e w' ho => ?_
    rcases ho with ⟨_, he, hb⟩ | ⟨hn, _⟩
    · refine ⟨tx0, by rw [he, hE]; rfl, by unfold comT; rw [if_neg hz']; rfl, ⟨⟨Nat.le_refl _, by decide, .inl rfl⟩, ?_⟩, fun k hk => absurd rfl hk.1⟩
      unfold comS
      rw [if_neg hz']
      exact RPo.same h0 hb
    · exact absurd hn hz

end Go.Proofs.YtpncedpfoakfkaaGreatDoor

namespace Go.Proofs.YtpncedpfoakfkaaGreatDoor
open Go.RowKit

/-- a site of the program, and of the document -/
def siteP (b : Nat) (S : SiteS) : Part := ⟨fun w G => PS w b G S, fun _ _ h => h.lt, fun _ _ _ h => h.kept⟩
def siteR (b : Nat) (S : SiteS) : Part := ⟨fun w G => RS w b G S, fun _ _ h => h.lt, fun _ _ _ h => h.kept⟩
/-- a session of the document in memory: all that it holds lies in blocks of G -/
def RSe (w : World) (b : Nat) (G : Nat → Prop) (s : SesS) : Prop := ∃ wv, RSes w b wv s ∧ ∀ k, G k ↔ (k = b ∨ wv.ownBlock = some k)
theorem RSe.lt {w : World} {b : Nat} {G : Nat → Prop} {s : SesS} (h : RSe w b G s) : ∀ k, G k → k < w.heap.size := by
  obtain ⟨wv, h, hG⟩ := h
  intro k hk
  rcases (hG k).1 hk with e | e
  · rw [e]; exact h.box.lt
  · exact (h.row.lt k e).2
theorem RSe.kept {w w' : World} {b : Nat} {G : Nat → Prop} {s : SesS} (h : RSe w b G s) (hk : ∀ k, G k → w'.heap[k]? = w.heap[k]?) (hs : w.heap.size ≤ w'.heap.size) : RSe w' b G s := by
  obtain ⟨wv, h, hG⟩ := h
  exact ⟨wv, ⟨h.box.kept (hk b ((hG b).2 (.inl rfl))) hs, own_keptN h.row (fun k e => hk k ((hG k).2 (.inr e))), h.nb⟩, hG⟩
theorem RSe.later {w w' : World} {b : Nat} {G : Nat → Prop} {s : SesS} (h : RSe w b G s) (hb : Below w.heap.size w w') : RSe w' b G s := h.kept (fun k hk => hb.block k (h.lt k hk)) hb.size
def sesR (b : Nat) (s : SesS) : Part := ⟨fun w G => RSe w b G s, fun _ _ h => h.lt, fun _ _ _ h => h.kept⟩
theorem RSPo.left {w w' : World} {b : Nat} {wv : Value} {s' : SesS} {G : Nat → Prop} (hG : ∀ k, G k ↔ (k = b ∨ wv.ownBlock = some k)) (h : RSPo w b wv s' w') : Left (sesR b s') w G w' := by
  obtain ⟨wv', h1, h2, h3⟩ := h
  refine ⟨fun k => k = b ∨ wv'.ownBlock = some k, ⟨wv', h1, fun _ => Iff.rfl⟩, fun k hk => ?_, ⟨h3.os, h3.tape, h3.output, h3.size, fun k hk hn => h3.block k hk (fun e => hn ((hG k).2 e))⟩⟩
  rcases hk with e | e
  · exact .inl ((hG k).2 (.inl e))
  · rcases h2 k e with e2 | e2
    · exact .inl ((hG k).2 (.inr e2))
    · exact .inr e2
/-- a session of the document that is new -/
theorem rse_new {w : World} (T : TypeId) : RSe (w.alloc (.cells (rsesC newSes (.slice none 0 0)).toArray T)) w.heap.size (fun k => k = w.heap.size) newSes :=
  ⟨.slice none 0 0, ⟨RowL.new (w := w) (T := T) _ rfl, World.ownsRow_nil _ _ _ _, by simp [Value.ownBlock]⟩, fun k => ⟨fun h => .inl h, fun h => by simpa [Value.ownBlock] using h⟩⟩

/-- what comes of a Commit of a session, the program's and the document's: the transaction, in blocks of Y -/
def PSCommit (w : World) (b bx : Nat) (G Gx : Nat → Prop) (S : SiteS) (s : SesS) (now : Int) (e : Ending) (w' : World) : Prop :=
  ∃ m : TxM, e = .returned (.tuple #[txV m, errV (scomE S s now)]) ∧ m.t = scomT S s now ∧ Hid (WrIn w' m.wa m.wc m.t.ws ∧ Left2 (sesP b (scomSes S s now)) (siteP bx (scomS S s now)) w G Gx NoY w') ∧ ∀ k, m.blk k → w.heap.size ≤ k
def RSCommit (w : World) (b bx : Nat) (G Gx : Nat → Prop) (S : SiteS) (s : SesS) (now : Int) (e : Ending) (w' : World) : Prop :=
  ∃ m : TxM, e = .returned (.tuple #[txV m, .int .i64 (scomE S s now)]) ∧ m.t = scomT S s now ∧ Hid (WrIn w' m.wa m.wc m.t.ws ∧ Left2 (sesR b (scomSes S s now)) (siteR bx (scomS S s now)) w G Gx m.blk w')

end Go.Proofs.YtpncedpfoakfkaaGreatDoor

namespace Go.Proofs.YtpncedpfoakfkaaGreatDoor
open Go.RowKit

section
variable {p q : Part} {w wA wB wC wD wF : World} {G Gx Y N : Nat → Prop}
/-- behind the site's: the session is as it was -/
theorem com_mid (hGl : ∀ k, G k → k < w.heap.size) (hd : ∀ k, G k → ¬ Gx k) (hA : Below w.heap.size w wA) (hN : ∀ k, N k → w.heap.size ≤ k ∧ k < wA.heap.size) (hB : Left q wA Gx wB) (hC : Touch N wB wC) : (∀ k, G k → wC.heap[k]? = w.heap[k]?) ∧ w.heap.size ≤ wC.heap.size := by
  obtain ⟨H1, q1, qs, tB⟩ := hB
  refine ⟨fun k hk => ?_, Nat.le_trans hA.size (Nat.le_trans tB.size hC.size)⟩
  have h1 := hGl k hk
  have h2 : k < wA.heap.size := Nat.lt_of_lt_of_le h1 hA.size
  exact (hC.block k (Nat.lt_of_lt_of_le h2 tB.size) (fun e => by have := (hN k e).1; omega)).trans ((tB.block k h2 (hd k hk)).trans (hA.block k h1))
/-- the site's, then the session's; N: boxes of the call's own -/
theorem com_fin (hGl : ∀ k, G k → k < w.heap.size) (hXl : ∀ k, Gx k → k < w.heap.size) (hd : ∀ k, G k → ¬ Gx k) (hA : Below w.heap.size w wA) (hN : ∀ k, N k → w.heap.size ≤ k ∧ k < wA.heap.size) (hB : Left q wA Gx wB) (hY : ∀ k, Y k → wA.heap.size ≤ k ∧ k < wB.heap.size)
    (hC : Touch N wB wC) (hD : Left p wC G wD) (hF : Touch N wD wF) : Left2 p q w G Gx Y wF ∧ ∀ k, Y k → wF.heap[k]? = wB.heap[k]? := by
  obtain ⟨H1, q1, qs, tB⟩ := hB
  obtain ⟨G1, p1, ps, tD⟩ := hD
  have sA := hA.size
  have sB := tB.size
  have sC := hC.size
  have sD := tD.size
  have sF := hF.size
  have Hlt : ∀ k, H1 k → k < wB.heap.size := fun k hk => q.lt _ _ q1 k hk
  have HN : ∀ k, H1 k → ¬ N k := fun k hk e => by
    have := hN k e
    rcases qs k hk with h | h
    · have := hXl k h; omega
    · omega
  have HG : ∀ k, H1 k → ¬ G k := fun k hk e => by
    rcases qs k hk with h | h
    · exact hd k e h
    · have := hGl k e; omega
  have GN : ∀ k, G1 k → ¬ N k := fun k hk e => by
    have := hN k e
    rcases ps k hk with h | h
    · have := hGl k h; omega
    · omega
  refine ⟨⟨G1, H1, ?_, ?_, fun k hk => ?_, fun k hk => ?_, fun k hk h1 => ?_, fun k hk => ⟨?_, ?_, fun e => ?_⟩, ⟨?_, ?_, ?_, ?_, fun k hk hn => ?_⟩⟩, fun k hk => ?_⟩
  · exact p.kept _ _ _ p1 (fun k hk => hF.block k (p.lt _ _ p1 k hk) (GN k hk)) sF
  · have r1 := q.kept _ _ _ q1 (fun k hk => hC.block k (Hlt k hk) (HN k hk)) sC
    have r2 := q.kept _ _ _ r1 (fun k hk => tD.block k (by have := Hlt k hk; omega) (HG k hk)) sD
    exact q.kept _ _ _ r2 (fun k hk => hF.block k (by have := Hlt k hk; omega) (HN k hk)) sF
  · rcases ps k hk with h | h
    · exact .inl h
    · exact .inr (by omega)
  · rcases qs k hk with h | h
    · exact .inl h
    · exact .inr (by omega)
  · rcases ps k hk with h | h
    · exact HG k h1 h
    · have := Hlt k h1; omega
  · have := (hY k hk).1; omega
  · have := (hY k hk).2; omega
  · have := hY k hk
    rcases ps k e with h | h
    · have := hGl k h; omega
    · omega
  · exact hF.os.trans (tD.os.trans (hC.os.trans (tB.os.trans hA.os)))
  · exact hF.tape.trans (tD.tape.trans (hC.tape.trans (tB.tape.trans hA.tape)))
  · exact hF.output.trans (tD.output.trans (hC.output.trans (tB.output.trans hA.output)))
  · omega
  · have nN : ¬ N k := fun e => by have := (hN k e).1; omega
    exact (hF.block k (by omega) nN).trans ((tD.block k (by omega) (fun e => hn (.inl e))).trans ((hC.block k (by omega) nN).trans ((tB.block k (by omega) (fun e => hn (.inr e))).trans (hA.block k hk))))
  · have y := hY k hk
    have nN : ¬ N k := fun e => by have := (hN k e).2; omega
    exact (hF.block k (by omega) nN).trans ((tD.block k (by omega) (fun e => by have := hGl k e; omega)).trans (hC.block k (by omega) nN))
theorem left2_same {p q : Part} {w w' : World} {G Gx : Nat → Prop} (hp : p.is w G) (hq : q.is w Gx) (hd : ∀ k, G k → ¬ Gx k) (hb : Below w.heap.size w w') (Y : Nat → Prop) (hY : ∀ k, ¬ Y k) : Left2 p q w G Gx Y w' :=
  ⟨G, Gx, p.kept _ _ _ hp (fun k hk => hb.block k (p.lt _ _ hp k hk)) hb.size, q.kept _ _ _ hq (fun k hk => hb.block k (q.lt _ _ hq k hk)) hb.size, fun _ hk => .inl hk, fun _ hk => .inl hk, hd, fun k hk => absurd hk (hY k), Touch.ofBelow hb⟩
end
theorem touch_tx' {F : Nat → Prop} {w W : World} {b : Nat} (h : Touch F w W) (hB : F b) (x0 x1 x2 x3 x4 x5 x6 x7 : Int) (v : Value) : Touch F w (setTx W b x0 x1 x2 x3 x4 x5 x6 x7 v) :=
  ((((((((h.trans (Touch.setCell _ _ _ hB)).trans (Touch.setCell _ _ _ hB)).trans (Touch.setCell _ _ _ hB)).trans (Touch.setCell _ _ _ hB)).trans (Touch.setCell _ _ _ hB)).trans (Touch.setCell _ _ _ hB)).trans (Touch.setCell _ _ _ hB)).trans (Touch.setCell _ _ _ hB)).trans (Touch.setCell _ _ _ hB)

/-- a cell of what it has seen -/
def pastN (n : Nat) (x : Int) (s : SesS) : SesS := { s with p0 := if n = 0 then x else s.p0, p1 := if n = 1 then x else s.p1, p2 := if n = 2 then x else s.p2, p3 := if n = 3 then x else s.p3 }
theorem past_at {s : SesS} {wv : Value} {n : Int} (h0 : 0 ≤ n) (h3 : n ≤ 3) : (rsesC s wv)[n.toNat]? = some (.int .i64 (depOf n s.p0 s.p1 s.p2 s.p3)) := by
  have hc : n = 0 ∨ n = 1 ∨ n = 2 ∨ n = 3 := by omega
  rcases hc with rfl | rfl | rfl | rfl <;> rfl
theorem ppast_at {s : SesS} {mv : Value} {n : Int} (h0 : 0 ≤ n) (h3 : n ≤ 3) : (psesC s mv)[n.toNat]? = some (.int .i64 (depOf n s.p0 s.p1 s.p2 s.p3)) := by
  have hc : n = 0 ∨ n = 1 ∨ n = 2 ∨ n = 3 := by omega
  rcases hc with rfl | rfl | rfl | rfl <;> rfl
theorem atLeast_eq {site seq : Int} {s : SesS} (h0 : 0 ≤ site) (h3 : site ≤ 3) : atLeast site seq s = pastN site.toNat (maxZ (depOf site s.p0 s.p1 s.p2 s.p3) seq) s := by
  have hc : site = 0 ∨ site = 1 ∨ site = 2 ∨ site = 3 := by omega
  rcases hc with rfl | rfl | rfl | rfl <;> rfl
theorem atLeast_no {site seq : Int} {s : SesS} (h0 : 0 ≤ site) (h3 : site ≤ 3) (h : ¬ depOf site s.p0 s.p1 s.p2 s.p3 < seq) : atLeast site seq s = s := by
  have hc : site = 0 ∨ site = 1 ∨ site = 2 ∨ site = 3 := by omega
  rw [atLeast_eq h0 h3, maxZ_neg h]
  rcases hc with rfl | rfl | rfl | rfl <;> rfl
theorem RSes.keptB {w w' : World} {b : Nat} {wv : Value} {s : SesS} (h : RSes w b wv s) (hk : ∀ k, (k = b ∨ wv.ownBlock = some k) → w'.heap[k]? = w.heap[k]?) (hs : w.heap.size ≤ w'.heap.size) : RSes w' b wv s := ⟨h.box.kept (hk b (.inl rfl)) hs, own_keptN h.row (fun k e => hk k (.inr e)), h.nb⟩
theorem RSPo.after {w w1 w2 : World} {b : Nat} {wv : Value} {s : SesS} (h : RSPo w b wv s w1) (hb : Below w1.heap.size w1 w2) : RSPo w b wv s w2 := by
  obtain ⟨wv', h1, h2, h3⟩ := h
  exact ⟨wv', h1.later hb, h2, h3.trans (Touch.ofBelow hb)⟩
theorem RSPo.past {w w1 : World} {b : Nat} {wv : Value} {s : SesS} (h : RSPo w b wv s w1) {n : Nat} (hn : n < 4) (x : Int) : RSPo w b wv (pastN n x s) (w1.setCell ⟨b, n, none⟩ (.int .i64 x)) := by
  obtain ⟨wv', h1, h2, h3⟩ := h
  have R := h1.box.set n (.int .i64 x) (by simp [rsesC]; omega)
  refine ⟨wv', ⟨?_, own_keptN h1.row (fun k e => Below.heap_setCell _ _ _ _ (fun e2 => h1.nb (by have e3 : k = b := e2; rw [← e3]; exact e))), h1.nb⟩, h2, h3.trans (Touch.setCell _ _ _ (.inl rfl))⟩
  match n, hn with
  | 0, _ => exact R
  | 1, _ => exact R
  | 2, _ => exact R
  | 3, _ => exact R
theorem PSPo.after {w w1 w2 : World} {b : Nat} {G : Nat → Prop} {s : SesS} (h : PSPo w b G s w1) (hb : Below w1.heap.size w1 w2) : PSPo w b G s w2 := by
  obtain ⟨G', h1, h2, h3⟩ := h
  exact ⟨G', h1.later hb, h2, h3.trans (Touch.ofBelow hb)⟩
theorem PSPo.past {w w1 : World} {b : Nat} {G : Nat → Prop} {s : SesS} (hG : G b) (h : PSPo w b G s w1) {n : Nat} (hn : n < 4) (x : Int) : PSPo w b G (pastN n x s) (w1.setCell ⟨b, n, none⟩ (.int .i64 x)) := by
  obtain ⟨G', h1, h2, h3⟩ := h
  exact past_box h1 h2 hG h3 n hn x
theorem tx0_in (w : World) : WrIn w tx0.wa tx0.wc tx0.t.ws := ⟨Nat.le_refl _, by decide, .inl rfl⟩
theorem tx0_blk (k : Nat) : ¬ tx0.blk k := fun h => absurd rfl h.1
/-- where it has writes -/
theorem scom_yes {S : SiteS} {s : SesS} {now : Int} (ho : s.opn = true) (hl : (allW s.ws).length ≠ 0) :
    scomE S s now = comE S now s.s0 s.s1 s.s2 s.s3 (allW s.ws) ∧ scomT S s now = comT S now s.s0 s.s1 s.s2 s.s3 (allW s.ws) ∧ scomS S s now = comS S now s.s0 s.s1 s.s2 s.s3 (allW s.ws) := by
  have n1 : ¬ s.opn = false := by rw [ho]; decide
  have n2 : ¬ (s.opn = false ∨ (allW s.ws).length = 0) := by rintro (h | h); exact n1 h; exact hl h
  exact ⟨by unfold scomE; rw [if_neg n1, if_neg hl], by unfold scomT; rw [if_neg n2], by unfold scomS; rw [if_neg n2]⟩
theorem scom_none {S : SiteS} {s : SesS} {now : Int} (ho : s.opn = true) (hl : (allW s.ws).length = 0) :
    scomE S s now = 0 ∧ scomT S s now = tx0.t ∧ scomS S s now = S ∧ scomSes S s now = endS s := by
  have n1 : ¬ s.opn = false := by rw [ho]; decide
  have E : scomE S s now = 0 := by unfold scomE; rw [if_neg n1, if_pos hl]
  exact ⟨E, by unfold scomT; rw [if_pos (.inr hl)]; rfl, by unfold scomS; rw [if_pos (.inr hl)], by unfold scomSes; rw [if_neg (by rw [E]; decide), if_pos hl]⟩
theorem scom_shut {S : SiteS} {s : SesS} {now : Int} (ho : s.opn = false) :
    scomE S s now = 6 ∧ scomT S s now = tx0.t ∧ scomS S s now = S ∧ scomSes S s now = s := by
  have E : scomE S s now = 6 := by unfold scomE; rw [if_pos ho]
  exact ⟨E, by unfold scomT; rw [if_pos (.inl ho)]; rfl, by unfold scomS; rw [if_pos (.inl ho)], by unfold scomSes; rw [if_pos (by rw [E]; decide)]⟩
theorem scom_bad {S : SiteS} {s : SesS} {now : Int} (ho : s.opn = true) (hl : (allW s.ws).length ≠ 0) (hE : comE S now s.s0 s.s1 s.s2 s.s3 (allW s.ws) ≠ 0) : scomSes S s now = s ∧ comS S now s.s0 s.s1 s.s2 s.s3 (allW s.ws) = S ∧ comT S now s.s0 s.s1 s.s2 s.s3 (allW s.ws) = tx0.t := by
  refine ⟨by unfold scomSes; rw [if_pos (by rw [(scom_yes ho hl).1]; exact hE)], by unfold comS; rw [if_neg hE], by unfold comT; rw [if_neg hE]; rfl⟩
theorem scom_good {S : SiteS} {s : SesS} {now : Int} (ho : s.opn = true) (hl : (allW s.ws).length ≠ 0) (hE : comE S now s.s0 s.s1 s.s2 s.s3 (allW s.ws) = 0) : scomSes S s now = atLeast (comT S now s.s0 s.s1 s.s2 s.s3 (allW s.ws)).site (comT S now s.s0 s.s1 s.s2 s.s3 (allW s.ws)).seq (endS s) ∧ (comT S now s.s0 s.s1 s.s2 s.s3 (allW s.ws)).site = S.id := by
  have y := scom_yes (S := S) (now := now) ho hl
  refine ⟨by unfold scomSes; rw [if_neg (by rw [y.1, hE]; decide), if_neg hl, y.2.1], by unfold comT; rw [if_pos hE]; rfl⟩

end Go.Proofs.YtpncedpfoakfkaaGreatDoor

namespace Go.Proofs.YtpncedpfoakfkaaGreatDoor
open Go.RowKit

theorem abo_box {w w2 : World} {b : Nat} {wv wv0 : Value} {s : SesS} (hb : Below w.heap.size w w2) (B : RowL w2 b (rsesC s wv0)) (x0 x1 x2 x3 : Int) :
    RSPo w b wv ⟨x0, x1, x2, x3, false, 0, 0, 0, 0, []⟩ ((((((((((w2.setCell ⟨b, 0, none⟩ (.int .i64 x0)).setCell ⟨b, 1, none⟩ (.int .i64 x1)).setCell ⟨b, 2, none⟩ (.int .i64 x2)).setCell ⟨b, 3, none⟩ (.int .i64 x3)).setCell ⟨b, 8, none⟩ (.bool false)).setCell ⟨b, 4, none⟩ (.int .i64 0)).setCell ⟨b, 5, none⟩ (.int .i64 0)).setCell ⟨b, 6, none⟩ (.int .i64 0)).setCell ⟨b, 7, none⟩ (.int .i64 0)).setCell ⟨b, 9, none⟩ (.slice none 0 0)) := by
  have R1 := B.set 0 (.int .i64 x0) (by simp [rsesC])
  have R2 := R1.set 1 (.int .i64 x1) (by simp [rsesC])
  have R3 := R2.set 2 (.int .i64 x2) (by simp [rsesC])
  have R4 := R3.set 3 (.int .i64 x3) (by simp [rsesC])
  have R5 := R4.set 8 (.bool false) (by simp [rsesC])
  have R6 := R5.set 4 (.int .i64 0) (by simp [rsesC])
  have R7 := R6.set 5 (.int .i64 0) (by simp [rsesC])
  have R8 := R7.set 6 (.int .i64 0) (by simp [rsesC])
  have R9 := R8.set 7 (.int .i64 0) (by simp [rsesC])
  have R10 := R9.set 9 (.slice none 0 0) (by simp [rsesC])
  refine rses_box hb (fun k hk => ?_) ?_ ?_ ?_ ?_ R10 rfl
  · rw [Below.heap_setCell _ _ _ _ hk, Below.heap_setCell _ _ _ _ hk, Below.heap_setCell _ _ _ _ hk, Below.heap_setCell _ _ _ _ hk, Below.heap_setCell _ _ _ _ hk, Below.heap_setCell _ _ _ _ hk, Below.heap_setCell _ _ _ _ hk, Below.heap_setCell _ _ _ _ hk, Below.heap_setCell _ _ _ _ hk, Below.heap_setCell _ _ _ _ hk]
  · simp only [World.setCell]
  · simp only [World.setCell]
  · simp only [World.setCell]
  · simp only [World.setCell, Array.size_modify, Nat.le_refl]

set_option maxRecDepth 100000 in
set_option maxHeartbeats 4000000 in
theorem refAbort_any {b : Nat} {wv : Value} {s : SesS} (w : World) (h : RSes w b wv s) :
    Calls Tryz.prog 41 #[.pointer (some ⟨b, 0, none⟩)] w fun e w' => e = .returned (.int .i64 (aboE s)) ∧ RSPo w b wv (aboS s) w' := by
  have HS : Hid (RSes w b wv s) := h
  have k8 := h.box.cell 8 _ rfl
  cases ho : s.opn
  · rw [ho] at k8
    have HE : Hid (aboE s = 6 ∧ aboS s = s) := ⟨by unfold aboE; rw [ho]; rfl, by unfold aboS; rw [ho]; rfl⟩
    clear h ho
    go_enter Tryz.func41, Tryz.ntmps41
    go_wp2_with fail
    go_ret
    refine ⟨by rw [HE.out.1]; rfl, ?_⟩
    rw [HE.out.2]
    exact RSPo.same HS.out (Below.refl _ _)
  · rw [ho] at k8
    have HE : Hid (aboE s = 0 ∧ aboS s = endS s) := ⟨by unfold aboE; rw [ho]; rfl, by unfold aboS; rw [ho]; rfl⟩
    have hbD : Below w.heap.size w w.drew := (Below.refl _ w).drew
    have B1 := h.box.later hbD
    clear h ho
    go_enter Tryz.func41, Tryz.ntmps41
    go_wp2_with fail
    have y0 := B1.cell 0 _ rfl
    have y1 := B1.cell 1 _ rfl
    have y2 := B1.cell 2 _ rfl
    have y3 := B1.cell 3 _ rfl
    have y4 := B1.cell 4 _ rfl
    have y5 := B1.cell 5 _ rfl
    have y6 := B1.cell 6 _ rfl
    have y7 := B1.cell 7 _ rfl
    go_region_law (refine step_call rfl 13 #[.agg #[.int .i64 s.p0, .int .i64 s.p1, .int .i64 s.p2, .int .i64 s.p3], .agg #[.int .i64 s.s0, .int .i64 s.s1, .int .i64 s.s2, .int .i64 s.s3]] (by go_simp) (refMax_any s.p0 s.p1 s.p2 s.p3 s.s0 s.s1 s.s2 s.s3 _) ?_
                   rintro e wa ⟨rfl, hba⟩
                   refine ⟨_, rfl, ?_⟩
                   have hbA := behind hbD hba
                   have B2 := HS.out.box.later hbA
                   have z0 := B2.cell 0 _ rfl
                   have z1 := B2.cell 1 _ rfl
                   have z2 := B2.cell 2 _ rfl
                   have z3 := B2.cell 3 _ rfl
                   have z4 := B2.cell 4 _ rfl
                   have z5 := B2.cell 5 _ rfl
                   have z6 := B2.cell 6 _ rfl
                   have z7 := B2.cell 7 _ rfl
                   have z8 := B2.cell 8 _ rfl
                   have z9 := B2.cell 9 _ rfl
                   have f0 := B2.free 0 (by simp [rsesC])
                   have f1 := B2.free 1 (by simp [rsesC])
                   have f2 := B2.free 2 (by simp [rsesC])
                   have f3 := B2.free 3 (by simp [rsesC])
                   have f4 := B2.free 4 (by simp [rsesC])
                   have f5 := B2.free 5 (by simp [rsesC])
                   have f6 := B2.free 6 (by simp [rsesC])
                   have f7 := B2.free 7 (by simp [rsesC])
                   have f8 := B2.free 8 (by simp [rsesC])
                   have f9 := B2.free 9 (by simp [rsesC]))
    all_goals
      go_wp2_with fail
      go_ret
      refine ⟨by rw [HE.out.1]; rfl, ?_⟩
      rw [HE.out.2]
      exact abo_box hbA B2 _ _ _ _

end Go.Proofs.YtpncedpfoakfkaaGreatDoor

namespace Go.Proofs.YtpncedpfoakfkaaGreatDoor
open Go.RowKit

set_option maxRecDepth 100000 in
set_option maxHeartbeats 4000000 in
theorem refSesRead_any {b bx : Nat} {wv : Value} {s : SesS} {G : Nat → Prop} {S : SiteS} (key : Int) (w : World) (h : RSes w b wv s) (hS : RS w bx G S) (hI : InvS S) :
    Calls Tryz.prog 34 #[.pointer (some ⟨b, 0, none⟩), .pointer (some ⟨bx, 0, none⟩), .int .i64 key] w fun e w' => e = .returned (.tuple #[.string (sreadV S s key).1, .int .i64 (sreadV S s key).2]) ∧ Below w.heap.size w w' := by
  have HS : Hid (RSes w b wv s) := h
  have HR : Hid (RS w bx G S ∧ InvS S) := ⟨hS, hI⟩
  have k8 := h.box.cell 8 _ rfl
  have OW := refOwn_any key w h
  cases ho : s.opn
  · rw [ho] at k8
    have HE : Hid (sreadV S s key = (⟨#[]⟩, 6)) := by show _ = _; unfold sreadV; rw [ho]; rfl
    clear h hS hI ho OW
    rw [HE.out]
    go_enter Tryz.func34, Tryz.ntmps34
    go_wp2_with fail
    go_ret2
    exact ⟨rfl, Below.refl _ _⟩
  · rw [ho] at k8
    cases hw : ownW s.ws key with
    | none =>
      obtain ⟨⟨⟨rw_, rc, rs, rq, rd, rg⟩, re⟩, hrd⟩ : ∃ x, readS S key s.s0 s.s1 s.s2 s.s3 = x := ⟨_, rfl⟩
      have HE : Hid (sreadV S s key = (rd, re)) := by show _ = _; unfold sreadV; rw [ho, hw, hrd]; rfl
      rw [hw, show ownOr s.ws key = ⟨0, ⟨#[]⟩, false⟩ by unfold ownOr; rw [hw]; rfl] at OW
      have RR : Hid (∀ w', Below w.heap.size w w' → Calls Tryz.prog 18 #[.pointer (some ⟨bx, 0, none⟩), .int .i64 key, .agg #[.int .i64 s.s0, .int .i64 s.s1, .int .i64 s.s2, .int .i64 s.s3]] w' fun e w'' => e = .returned (.tuple #[.agg #[.int .i64 rw_, .int .i64 rc, .int .i64 rs, .int .i64 rq, .string rd, .bool rg], .int .i64 re]) ∧ Below w'.heap.size w' w'') := fun w' hb => by
        have := rread_any key s.s0 s.s1 s.s2 s.s3 w' (HR.out.1.later hb) HR.out.2
        rw [hrd] at this
        exact this
      clear h hS hI ho hw hrd
      rw [HE.out]
      go_enter Tryz.func34, Tryz.ntmps34
      go_wp2_with fail
      refine OW.mono ?_
      rintro e w1 ⟨rfl, hb1⟩
      rw [show wrV ⟨0, ⟨#[]⟩, false⟩ = .agg #[.int .i64 0, .string ⟨#[]⟩, .bool false] from rfl, show (none : Option Wr).isSome = false from rfl]
      have hb2 := boxed hb1 (.cells #[.int .i64 0, .string ⟨#[]⟩, .bool false] 83)
      have B2 := HS.out.box.later hb2
      have y4 := B2.cell 4 _ rfl
      have y5 := B2.cell 5 _ rfl
      have y6 := B2.cell 6 _ rfl
      have y7 := B2.cell 7 _ rfl
      have R2 := RR.out _ hb2
      clear OW k8
      go_wp2_with fail
      refine R2.mono ?_
      rintro e w3 ⟨rfl, hb3⟩
      have hb4 := boxed (behind hb2 hb3) (.cells #[.int .i64 rw_, .int .i64 rc, .int .i64 rs, .int .i64 rq, .string rd, .bool rg] 59)
      clear y4 y5 y6 y7 R2
      go_wp2_with fail
      go_ret2
      exact ⟨rfl, hb4⟩
    | some x =>
      obtain ⟨xk, xd, xg⟩ := x
      rw [hw, show ownOr s.ws key = ⟨xk, xd, xg⟩ by unfold ownOr; rw [hw]; rfl] at OW
      cases xg
      · have HE : Hid (sreadV S s key = (xd, 0)) := by show _ = _; unfold sreadV; rw [ho, hw]; rfl
        clear h hS hI ho hw
        rw [HE.out]
        go_enter Tryz.func34, Tryz.ntmps34
        go_wp2_with fail
        refine OW.mono ?_
        rintro e w1 ⟨rfl, hb1⟩
        rw [show wrV ⟨xk, xd, false⟩ = .agg #[.int .i64 xk, .string xd, .bool false] from rfl, show (some (⟨xk, xd, false⟩ : Wr)).isSome = true from rfl]
        have hb2 := boxed hb1 (.cells #[.int .i64 xk, .string xd, .bool false] 83)
        clear OW k8
        go_wp2_with fail
        go_ret2
        exact ⟨rfl, hb2⟩
      · have HE : Hid (sreadV S s key = (⟨#[]⟩, 8)) := by show _ = _; unfold sreadV; rw [ho, hw]; rfl
        clear h hS hI ho hw
        rw [HE.out]
        go_enter Tryz.func34, Tryz.ntmps34
        go_wp2_with fail
        refine OW.mono ?_
        rintro e w1 ⟨rfl, hb1⟩
        rw [show wrV ⟨xk, xd, true⟩ = .agg #[.int .i64 xk, .string xd, .bool true] from rfl, show (some (⟨xk, xd, true⟩ : Wr)).isSome = true from rfl]
        have hb2 := boxed hb1 (.cells #[.int .i64 xk, .string xd, .bool true] 83)
        clear OW k8
        go_wp2_with fail
        go_ret2
        exact ⟨rfl, hb2⟩

end Go.Proofs.YtpncedpfoakfkaaGreatDoor

namespace Go.Proofs.YtpncedpfoakfkaaGreatDoor
open Go.RowKit Go.Maps

theorem intKeyW {k : Int} (h : (Lit.int .i64 k).wf = true) : keyOf Tryz.prog 3 (.int .i64 k) = some (.int .i64 k) := by
  unfold keyOf
  rw [Tryz.underlying3]
  simp [mapKey, h, Tryz.underlying3]
/-- the look-up, the value written out -/
theorem wpList_lookW {ops : Array Oper} {rest : List Oper} {o : Oper} {a : Act} {Q : Exit → Act → World → Prop} (w : World) (hg : o.guard = none) (mo xo : Operand) (hop : o.op = Op.lookup 127 mo xo true) {bm n : Nat} {D : DataW Value} {k : Int} {u : Value} {v : Bool}
    (hm : a.eval mo = .map (some bm)) (hown : w.ownsMap Tryz.prog 3 heldR bm n D) (hx : a.eval xo = .int .i64 k) (hkey : keyOf Tryz.prog 3 (.int .i64 k) = some (.int .i64 k)) (h1 : Maps.has D (.int .i64 k) = v) (h2 : D.atKey (.int .i64 k) (.held wrV0) = .held u)
    (hK : wpList Tryz.prog ops Q rest (a.put o.dst (.tuple #[u, .bool v])) w) : wpList Tryz.prog ops Q (o :: rest) a w := by
  refine wpList_lookup_own_ok w hg mo xo 127 hop 3 83 intLaw Tryz.underlying127 heldR (wr_zero w) (.held wrV0) [] rfl bm n D hm hown (.int .i64 k) (.int .i64 k) hx hkey ?_
  intro u' ps hu
  have e := heldR_inv hu
  rw [h2] at e
  injection e with e
  rw [← e, h1]
  exact hK
/-- what is found there -/
theorem WMap.look {w : World} {bm : Nat} {l : List Wr} (h : WMap w bm l) (k : Int) : ∃ D, w.ownsMap Tryz.prog 3 heldR bm (allW l).length D ∧ Maps.has D (.int .i64 k) = (ownW l k).isSome ∧ D.atKey (.int .i64 k) (.held wrV0) = .held (wrV (ownOr l k)) := by
  obtain ⟨_, D, h1, h2⟩ := h
  refine ⟨D, h1, ?_⟩
  cases ho : ownW l k with
  | none =>
    have e : ownOr l k = ⟨0, ⟨#[]⟩, false⟩ := by unfold ownOr; rw [ho]; rfl
    rw [e]
    exact ⟨(h2.no k ho).1, (h2.no k ho).2 _⟩
  | some x =>
    have e : ownOr l k = x := by unfold ownOr; rw [ho]; rfl
    rw [e]
    exact ⟨(h2.has k x ho).1, (h2.has k x ho).2 _⟩
theorem WMap.len {w : World} {bm : Nat} {l : List Wr} (h : WMap w bm l) (ty : TypeId) : (Builtin.len_ #[127] ty #[.map (some bm)]).run Tryz.prog w = .ok (.int .i64 (allW l).length) w := by
  obtain ⟨_, D, h1, h2⟩ := h
  have := h1.len Tryz.underlying127 ty
  rw [h2.size] at this
  exact this
theorem WMap.later {w w' : World} {bm : Nat} {l : List Wr} (h : WMap w bm l) (hb : Below w.heap.size w w') : WMap w' bm l := h.kept (hb.block bm h.lt)

/-- what a write's value is -/
def valE (x : Wr) : Int := if x.gone = true then 8 else 0
def valD (x : Wr) : ByteArray := if x.gone = true then ⟨#[]⟩ else x.data
set_option maxRecDepth 100000 in
set_option maxHeartbeats 4000000 in
theorem valueOf_any (x : Wr) (w : World) :
    Calls Tryz.prog 74 #[wrV x] w fun e w' => e = .returned (.tuple #[.string (valD x), errV (valE x)]) ∧ Below w.heap.size w w' := by
  obtain ⟨xk, xd, xg⟩ := x
  show Calls Tryz.prog 74 #[.agg #[.int .i64 xk, .string xd, .bool xg]] w _
  have hb := boxed (Below.refl _ w) (.cells #[.int .i64 xk, .string xd, .bool xg] 83)
  cases xg
  · go_enter Tryz.func74, Tryz.ntmps74
    go_wp2_with fail
    go_ret2
    exact ⟨rfl, boxed (Below.refl _ w) _⟩
  · go_enter Tryz.func74, Tryz.ntmps74
    go_wp2_with fail
    go_ret2
    exact ⟨rfl, boxed (Below.refl _ w) _⟩

set_option maxRecDepth 100000 in
set_option maxHeartbeats 4000000 in
theorem psread_any {b bx : Nat} {G Gx : Nat → Prop} {s : SesS} {S : SiteS} (key : Int) (hk : (Lit.int .i64 key).wf = true) (w : World) (h : PSe w b G s) (hS : PS w bx Gx S) (hI : InvS S) :
    Calls Tryz.prog 35 #[.pointer (some ⟨b, 0, none⟩), .pointer (some ⟨bx, 0, none⟩), .int .i64 key] w fun e w' => e = .returned (.tuple #[.string (sreadV S s key).1, errV (sreadV S s key).2]) ∧ Below w.heap.size w w' := by
  have KEY : Hid (keyOf Tryz.prog 3 (.int .i64 key) = some (.int .i64 key)) := intKeyW hk
  have HR : Hid (PS w bx Gx S ∧ InvS S) := ⟨hS, hI⟩
  obtain ⟨mv, B, hm⟩ := h
  have HB : Hid (RowL w b (psesC s mv)) := B
  have k4 := B.cell 4 _ rfl
  rcases hm with ⟨ho, rfl, _, _⟩ | ⟨ho, bm, rfl, _, hM, _⟩
  · rw [ho] at k4
    have HE : Hid (sreadV S s key = (⟨#[]⟩, 6)) := by show _ = _; unfold sreadV; rw [ho]; rfl
    clear hS hI ho B hk
    rw [HE.out]
    go_enter Tryz.func35, Tryz.ntmps35
    go_wp2_with fail
    go_ret2
    exact ⟨rfl, Below.refl _ _⟩
  · rw [ho] at k4
    have k9 := B.cell 9 _ rfl
    obtain ⟨D, own0, q1, q2⟩ := hM.look key
    cases hw : ownW s.ws key with
    | none =>
      have e0 : ownOr s.ws key = ⟨0, ⟨#[]⟩, false⟩ := by unfold ownOr; rw [hw]; rfl
      rw [hw] at q1
      rw [e0] at q2
      clear e0
      have H1 : Hid (Maps.has D (.int .i64 key) = false) := q1
      have H2 : Hid (D.atKey (.int .i64 key) (.held wrV0) = .held (.agg #[.int .i64 0, .string ⟨#[]⟩, .bool false])) := q2
      obtain ⟨⟨⟨rw_, rc, rs, rq, rd, rg⟩, re⟩, hrd⟩ : ∃ x, readS S key s.s0 s.s1 s.s2 s.s3 = x := ⟨_, rfl⟩
      have HE : Hid (sreadV S s key = (rd, re)) := by show _ = _; unfold sreadV; rw [ho, hw, hrd]; rfl
      have hb2 := boxed (Below.refl _ w) (.cells #[.int .i64 0, .string ⟨#[]⟩, .bool false] 83)
      have R2 := pread_site key s.s0 s.s1 s.s2 s.s3 _ (HR.out.1.later hb2) HR.out.2
      rw [hrd] at R2
      have B2 := HB.out.later hb2
      have y5 := B2.cell 5 _ rfl
      have y6 := B2.cell 6 _ rfl
      have y7 := B2.cell 7 _ rfl
      have y8 := B2.cell 8 _ rfl
      clear hS hI ho B hk hM q1 q2 hw hrd
      rw [HE.out]
      go_enter Tryz.func35, Tryz.ntmps35
      go_wp2_with (at_lookup; refine wpList_lookW _ rfl _ _ rfl (u := .agg #[.int .i64 0, .string ⟨#[]⟩, .bool false]) rfl own0 rfl KEY.out H1.out H2.out ?_)
      refine R2.mono ?_
      rintro e w3 ⟨rfl, hb3⟩
      rw [show verL ((⟨rw_, rc, rs, rq, rd, rg⟩, re) : Ver × Int).1 = [.int .i64 rw_, .int .i64 rc, .int .i64 rs, .int .i64 rq, .string rd, .bool rg] from rfl]
      have hb4 := boxed (behind hb2 hb3) (.cells #[.int .i64 rw_, .int .i64 rc, .int .i64 rs, .int .i64 rq, .string rd, .bool rg] 59)
      clear y5 y6 y7 y8 R2 k4 k9 own0
      go_wp2_with fail
      go_ret2
      exact ⟨rfl, hb4⟩
    | some x =>
      obtain ⟨xk, xd, xg⟩ := x
      have e0 : ownOr s.ws key = ⟨xk, xd, xg⟩ := by unfold ownOr; rw [hw]; rfl
      rw [hw] at q1
      rw [e0] at q2
      clear e0
      have H1 : Hid (Maps.has D (.int .i64 key) = true) := q1
      have H2 : Hid (D.atKey (.int .i64 key) (.held wrV0) = .held (.agg #[.int .i64 xk, .string xd, .bool xg])) := q2
      have HE : Hid (sreadV S s key = (valD ⟨xk, xd, xg⟩, valE ⟨xk, xd, xg⟩)) := by show _ = _; unfold sreadV valD valE; rw [ho, hw]; cases xg <;> rfl
      have VO := valueOf_any ⟨xk, xd, xg⟩ (w.alloc (.cells #[.int .i64 xk, .string xd, .bool xg] 83))
      have hb2 := boxed (Below.refl _ w) (.cells #[.int .i64 xk, .string xd, .bool xg] 83)
      obtain ⟨vd, hvd⟩ : ∃ vd, valD ⟨xk, xd, xg⟩ = vd := ⟨_, rfl⟩
      obtain ⟨ve, hve⟩ : ∃ ve, valE ⟨xk, xd, xg⟩ = ve := ⟨_, rfl⟩
      rw [hvd, hve] at VO HE
      rw [show wrV ⟨xk, xd, xg⟩ = .agg #[.int .i64 xk, .string xd, .bool xg] from rfl] at VO
      clear hS hI ho B hk hM q1 q2 hw hvd hve
      rw [HE.out]
      go_enter Tryz.func35, Tryz.ntmps35
      go_wp2_with (at_lookup; refine wpList_lookW _ rfl _ _ rfl (u := .agg #[.int .i64 xk, .string xd, .bool xg]) rfl own0 rfl KEY.out H1.out H2.out ?_)
      refine VO.mono ?_
      rintro e w3 ⟨rfl, hb3⟩
      clear k4 k9 own0 VO
      go_wp2_with fail
      go_ret2
      exact ⟨rfl, behind hb2 hb3⟩

set_option maxRecDepth 100000 in
set_option maxHeartbeats 4000000 in
theorem hasRoom_any {b bm : Nat} {s : SesS} (key : Int) (hk : (Lit.int .i64 key).wf = true) (w : World) (B : RowL w b (psesC s (.map (some bm)))) (hM : WMap w bm s.ws) {v : Bool} (hv : decide (ownW s.ws key = none ∧ 5 ≤ (allW s.ws).length) = !v) :
    Calls Tryz.prog 75 #[.pointer (some ⟨b, 0, none⟩), .int .i64 key] w fun e w' => e = .returned (.bool v) ∧ Below w.heap.size w w' := by
  have KEY : Hid (keyOf Tryz.prog 3 (.int .i64 key) = some (.int .i64 key)) := intKeyW hk
  have k9 := B.cell 9 _ rfl
  obtain ⟨D, own0, q1, q2⟩ := hM.look key
  cases hw : ownW s.ws key with
  | none =>
    have e0 : ownOr s.ws key = ⟨0, ⟨#[]⟩, false⟩ := by unfold ownOr; rw [hw]; rfl
    rw [hw] at q1
    rw [e0] at q2
    clear e0
    have H1 : Hid (Maps.has D (.int .i64 key) = false) := q1
    have H2 : Hid (D.atKey (.int .i64 key) (.held wrV0) = .held (.agg #[.int .i64 0, .string ⟨#[]⟩, .bool false])) := q2
    have hb2 := boxed (Below.refl _ w) (.cells #[.int .i64 0, .string ⟨#[]⟩, .bool false] 83)
    have LEN := (hM.later hb2).len
    have c9 := (B.later hb2).cell 9 _ rfl
    have e : decide (((allW s.ws).length : Int) < 5) = v := by
      cases v
      · have := of_decide_eq_true hv
        exact decide_eq_false (by omega)
      · have := of_decide_eq_false hv
        refine decide_eq_true ?_
        have h5 : ¬ 5 ≤ (allW s.ws).length := fun h => this ⟨hw, h⟩
        omega
    clear B hM q1 q2 hv hk hw
    go_enter Tryz.func75, Tryz.ntmps75
    go_wp2_with (at_lookup; refine wpList_lookW _ rfl _ _ rfl (u := .agg #[.int .i64 0, .string ⟨#[]⟩, .bool false]) rfl own0 rfl KEY.out H1.out H2.out ?_)
    go_ret
    refine ⟨?_, hb2⟩
    first | rfl | (simp [e]) | (rw [e])
  | some x =>
    obtain ⟨xk, xd, xg⟩ := x
    have e0 : ownOr s.ws key = ⟨xk, xd, xg⟩ := by unfold ownOr; rw [hw]; rfl
    rw [hw] at q1
    rw [e0] at q2
    clear e0
    have H1 : Hid (Maps.has D (.int .i64 key) = true) := q1
    have H2 : Hid (D.atKey (.int .i64 key) (.held wrV0) = .held (.agg #[.int .i64 xk, .string xd, .bool xg])) := q2
    have hb2 := boxed (Below.refl _ w) (.cells #[.int .i64 xk, .string xd, .bool xg] 83)
    have hv' : v = true := by cases v <;> simp_all
    subst hv'
    clear B hM q1 q2 hv hk hw
    go_enter Tryz.func75, Tryz.ntmps75
    go_wp2_with (at_lookup; refine wpList_lookW _ rfl _ _ rfl (u := .agg #[.int .i64 xk, .string xd, .bool xg]) rfl own0 rfl KEY.out H1.out H2.out ?_)
    go_ret
    exact ⟨rfl, hb2⟩

set_option maxRecDepth 100000 in
set_option maxHeartbeats 4000000 in
theorem rising_any {b bm : Nat} {s : SesS} (w : World) (B : RowL w b (psesC s (.map (some bm)))) (hM : WMap w bm s.ws) :
    Calls Tryz.prog 79 #[.pointer (some ⟨b, 0, none⟩)] w fun e w' => ∃ v, e = .returned v ∧ w'.ownsRow w.heap.size 83 3 v (allW s.ws).length (wrsC (allW s.ws)) ∧ Below w.heap.size w w' := by
  have HS : Hid (RowL w b (psesC s (.map (some bm))) ∧ WMap w bm s.ws) := ⟨B, hM⟩
  clear B hM
  obtain ⟨i0, hi, hz0, hz1, hz2⟩ := info_parts wrInfo
  go_enter Tryz.func79, Tryz.ntmps79
  go_wp2_with fail
  go_loopw [3, 7] (fun ov iv wr => ∃ (k : Nat) (z : Int), k ≤ 8 ∧ z = k ∧ iv = .int .i64 z ∧ wr.ownsRow w.heap.size 83 3 ov (allTo s.ws k).length (wrsC (allTo s.ws k)) ∧ Below w.heap.size w wr) (fun _ i _ => 8 - (intOf i).toNat)
  case atStart => exact ⟨0, 0, by omega, rfl, rfl, World.ownsRow_nil _ _ _ _, Below.refl _ _⟩
  case round =>
    obtain ⟨k, z, hk, hz, rfl, own, hb⟩ := hrel
    have HZ : Hid (z = k) := hz
    have hal := allTo_len s.ws k
    have k9 := (HS.out.1.later hb).cell 9 _ rfl
    by_cases hlt : k < 8
    · have h1 : z < 8 := by omega
      have h0 : 0 ≤ z := by omega
      have KEY : Hid (keyOf Tryz.prog 3 (.int .i64 z) = some (.int .i64 z)) := intKey ⟨by omega, by omega⟩
      obtain ⟨D, own0, q1, q2⟩ := (HS.out.2.later hb).look z
      have HNX : Hid (allTo s.ws (k + 1) = allTo s.ws k ++ (match ownW s.ws (k : Int) with | some x => [x] | none => [])) := allTo_next s.ws k
      rw [hz] at q1 q2
      cases ho : ownW s.ws (k : Int) with
      | none =>
        have e1 : ownOr s.ws (k : Int) = ⟨0, ⟨#[]⟩, false⟩ := by unfold ownOr; rw [ho]; rfl
        have HN : Hid (allTo s.ws (k + 1) = allTo s.ws k) := by show _ = _; rw [HNX.out, ho]; simp
        rw [ho] at q1
        rw [e1] at q2
        rw [← hz] at q1 q2
        have H1 : Hid (Maps.has D (.int .i64 z) = false) := q1
        have H2 : Hid (D.atKey (.int .i64 z) (.held wrV0) = .held (.agg #[.int .i64 0, .string ⟨#[]⟩, .bool false])) := q2
        have ownX := own.alloc (.cells #[.int .i64 0, .string ⟨#[]⟩, .bool false] 83)
        have hbX := boxed hb (.cells #[.int .i64 0, .string ⟨#[]⟩, .bool false] 83)
        clear hz ho e1 HNX q1 q2 own hb
        go_wp2_with (at_lookup; refine wpList_lookW _ rfl _ _ rfl (u := .agg #[.int .i64 0, .string ⟨#[]⟩, .bool false]) rfl own0 rfl KEY.out H1.out H2.out ?_)
        go_roundw
        case rel => exact ⟨k + 1, z + 1, by omega, by have := HZ.out; omega, by go_num, by rw [HN.out]; exact ownX, hbX⟩
        case measure => simp [intOf]; have := HZ.out; omega
      | some x =>
        obtain ⟨xk, xd, xg⟩ := x
        have e1 : ownOr s.ws (k : Int) = ⟨xk, xd, xg⟩ := by unfold ownOr; rw [ho]; rfl
        have HN : Hid (allTo s.ws (k + 1) = allTo s.ws k ++ [⟨xk, xd, xg⟩]) := by show _ = _; rw [HNX.out, ho]
        rw [ho] at q1
        rw [e1] at q2
        rw [← hz] at q1 q2
        have H1 : Hid (Maps.has D (.int .i64 z) = true) := q1
        have H2 : Hid (D.atKey (.int .i64 z) (.held wrV0) = .held (.agg #[.int .i64 xk, .string xd, .bool xg])) := q2
        have own1 := own.alloc (.cells #[.int .i64 xk, .string xd, .bool xg] 83)
        have RY := RowL.new (w := wr) (T := 83) [.int .i64 xk, .string xd, .bool xg] rfl
        change RowL (wr.alloc (.cells #[.int .i64 xk, .string xd, .bool xg] 83)) wr.heap.size [.int .i64 xk, .string xd, .bool xg] at RY
        have hb2 := boxed hb (.cells #[.int .i64 xk, .string xd, .bool xg] 83)
        obtain ⟨W1, hW1⟩ : ∃ W1, wr.alloc (.cells #[.int .i64 xk, .string xd, .bool xg] 83) = W1 := ⟨_, rfl⟩
        rw [hW1] at own1 RY hb2
        have y0 := RY.cell 0 _ rfl
        have y1 := RY.cell 1 _ rfl
        have y2 := RY.cell 2 _ rfl
        clear own hb hz ho e1 HNX q1 q2
        obtain ⟨va, vc, rfl, hWv⟩ := wrIn_own own1
        have hcl := hWv.len
        have hcc := hWv.cap
        clear hWv
        go_wp2_with (first | (at_lookup; refine wpList_lookW _ rfl _ _ rfl (u := .agg #[.int .i64 xk, .string xd, .bool xg]) rfl own0 rfl KEY.out H1.out H2.out ?_) | (rw [hW1]) | (at_builtin; refine wpList_append_lies _ rfl (.tmp 20) (.tmp 22) 42 rfl w.heap.size 83 i0 (.agg #[.int .i64 0, .string ⟨#[]⟩, .bool false]) 3 32 Tryz.underlying42 hi hz0 hz1 hz2 rfl (by decide) (.slice va (allTo s.ws k).length vc) (allTo s.ws k).length (wrsC (allTo s.ws k)) rfl (own1.alloc _) ⟨W1.heap.size, 0, none⟩ 1 1 (wrC ⟨xk, xd, xg⟩) rfl rfl (World.news_of_block (heap_alloc_new W1 (.cells #[.int .i64 xk, .string xd, .bool xg] 83))) (by intro u hu; simp [wrC] at hu; rcases hu with rfl | rfl | rfl <;> rfl) (by decide) (by simp only [maxLen]; omega) (by omega) (by have := hb2.size; simp; omega) _ rfl ?_; intro g9 cap9 wE ownE grE egE ltE))
        have hbE : Below w.heap.size w wE := (boxed hb2 (.cells #[.int .i64 xk, .string xd, .bool xg] 83)).grown grE (by have := hb2.size; simp; omega) (fun j hj => by have := (own1.lt _ hj).1; omega)
        go_roundw
        case rel => exact ⟨k + 1, z + 1, by omega, by have := HZ.out; omega, by go_num, by rw [HN.out, wrsC_snoc, List.length_append]; exact ownE, hbE⟩
        case measure => simp [intOf]; have := HZ.out; omega
    · have h1 : ¬ z < 8 := by omega
      have hkk : k = 8 := by omega
      subst hkk
      go_wp2_with fail
      go_ret
      exact ⟨_, rfl, own, hb⟩

end Go.Proofs.YtpncedpfoakfkaaGreatDoor

namespace Go.Proofs.YtpncedpfoakfkaaGreatDoor
open Go.RowKit

/-- while it goes on: what is to come of it is what was to come at first -/
structure RGoM (w0 : World) (b : Nat) (G : Nat → Prop) (S0 S : SiteS) (wr : World) : Prop where
  mem : ∃ G', RS wr b G' S ∧ (∀ k, G' k → G k ∨ w0.heap.size ≤ k)
  touch : Touch G w0 wr
  inv : InvS S
  wn : S.waits.length ≤ 1000
  go : ∀ X, Goes S X → Goes S0 X
theorem RGoM.later {w0 : World} {b : Nat} {G : Nat → Prop} {S0 S : SiteS} {wr w' : World} (h : RGoM w0 b G S0 S wr) (hb : Below wr.heap.size wr w') : RGoM w0 b G S0 S w' := by
  obtain ⟨G', h1, h2⟩ := h.mem
  exact ⟨⟨G', h1.later hb, h2⟩, h.touch.trans (Touch.ofBelow hb), h.inv, h.wn, h.go⟩
theorem RS.left {w : World} {b : Nat} {G : Nat → Prop} {S : SiteS} (h : RS w b G S) : logLeft w b = 200 - S.log.length := by
  obtain ⟨lv, wv, sv, log, waits, h, h1, _, _⟩ := h
  obtain ⟨la, lc, rfl, hT⟩ := txsIn_own h.rlog
  unfold logLeft
  rw [h.box.cell 7 _ rfl, ← h1]
  simp
theorem RGoM.done {w0 : World} {b : Nat} {G : Nat → Prop} {S0 S : SiteS} {wr : World} (h : RGoM w0 b G S0 S wr) : RPo w0 b G S wr := by
  obtain ⟨G', h1, h2⟩ := h.mem
  exact ⟨G', h1, h2, h.touch⟩

/-- another row of what waits is laid, and kept -/
theorem SMem.reset {w w7 : World} {b : Nat} {lv wv sv : Value} {S : SiteS} {log waits waits' : List TxM} (h : SMem w b lv wv sv S log waits) (hb : Below w.heap.size w w7) {g n c : Nat} (hg : w.heap.size ≤ g)
    (own : w7.ownsRow 0 44 9 (.slice (some ⟨g, 0, none⟩) n c) n (txsC waits')) (hn : waits'.length = n) (hh : ∀ m ∈ waits', m ∈ waits ∨ (WrIn w m.wa m.wc m.t.ws ∧ ∀ k, m.blk k → ¬ footS b lv wv sv k)) (W : List TxP) :
    SMem (w7.setCell ⟨b, 8, none⟩ (.slice (some ⟨g, 0, none⟩) n c)) b lv (.slice (some ⟨g, 0, none⟩) n c) sv { S with waits := W } log waits' ∧ Touch (footS b lv wv sv) w (w7.setCell ⟨b, 8, none⟩ (.slice (some ⟨g, 0, none⟩) n c)) ∧
      ∀ k, footS b lv (.slice (some ⟨g, 0, none⟩) n c) sv k → footS b lv wv sv k ∨ w.heap.size ≤ k := by
  subst hn
  have bl := h.box.lt
  have gb : g ≠ b := by omega
  have kb : ∀ k, k < w.heap.size → k ≠ b → (w7.setCell ⟨b, 8, none⟩ (.slice (some ⟨g, 0, none⟩) waits'.length c)).heap[k]? = w.heap[k]? := fun k hk hn => (Below.heap_setCell _ _ _ _ hn).trans (hb.block k hk)
  have hbox : RowL (w7.setCell ⟨b, 8, none⟩ (.slice (some ⟨g, 0, none⟩) waits'.length c)) b (siteC { S with waits := W } lv (.slice (some ⟨g, 0, none⟩) waits'.length c) sv) := (h.box.later hb).set 8 _ (by simp [siteC])
  have hw : (w7.setCell ⟨b, 8, none⟩ (.slice (some ⟨g, 0, none⟩) waits'.length c)).ownsRow 0 44 9 (.slice (some ⟨g, 0, none⟩) waits'.length c) waits'.length (txsC waits') := own_keptN own (fun k e => Below.heap_setCell _ _ _ _ (by simp [Value.ownBlock] at e; simp only; omega))
  refine ⟨h.rewait (fun k hk hn _ => kb k ?_ hn) hbox rfl hw (fun k e => by simp [Value.ownBlock] at e; omega) (fun m hm => ?_), ⟨?_, ?_, ?_, ?_, fun k hk hn => kb k hk (fun e => hn (.inl e))⟩, fun k hk => ?_⟩
  · rcases hk with h1 | ⟨m, hm, h1⟩
    · exact h.lt k h1
    · exact (h.hold m hm).1.blk_lt k h1
  · rcases hh m hm with h1 | ⟨h1, h2⟩
    · exact .inl h1
    · refine .inr ⟨h1.kept (fun k e => kb k (h1.blk_lt k e) (fun x => h2 k e (.inl x))), fun k e => ⟨h2 k e, fun x => ?_⟩⟩
      have := h1.blk_lt k e
      simp [Value.ownBlock] at x
      omega
  · exact hb.os
  · exact hb.tape
  · exact hb.output
  · have := hb.size
    simpa [World.setCell] using this
  · rcases hk with h1 | h1 | h1 | h1
    · exact .inl (.inl h1)
    · exact .inl (.inr (.inl h1))
    · simp [Value.ownBlock] at h1
      exact .inr (by omega)
    · exact .inl (.inr (.inr (.inr h1)))

/-- one round -/
theorem rgone_round {w0 wr w6 w9 : World} {b : Nat} {G G' : Nat → Prop} {S0 S : SiteS} {lv wv sv wv' lv' sv' : Value} {log waits : List TxM} (hM : RGoM w0 b G S0 S wr) (hl : log.map (·.t) = S.log) (hw : waits.map (·.t) = S.waits)
    (hG : ∀ k, G' k ↔ (footS b lv wv sv k ∨ ∃ m ∈ log ++ waits, m.blk k)) (hGG : ∀ k, G' k → G k ∨ w0.heap.size ≤ k) {i : Nat} {m : TxM} (hi : waits[i]? = some m) (hlog : S.log.length < 200) (hx : nextS S = some m.t)
    (t6 : Touch (footS b lv wv sv) wr w6) (f6 : ∀ k, footS b lv wv' sv k → footS b lv wv sv k ∨ wr.heap.size ≤ k)
    (ap : SMem w9 b lv' wv' sv' (applyS { S with waits := dropW S.waits m.t } m.t) (log ++ [m]) (waits.take i ++ waits.drop (i + 1))) (nf : ∀ k, footS b lv' wv' sv' k → footS b lv wv' sv k ∨ w6.heap.size ≤ k) (ht : Touch (footS b lv wv' sv) w6 w9) :
    RGoM w0 b G S0 (goneS S m.t) w9 := by
  have hm : m ∈ waits := List.mem_of_getElem? hi
  have hmm : m.t ∈ S.waits := by rw [← hw]; exact List.mem_map.2 ⟨m, hm, rfl⟩
  have him : S.waits[i]? = some m.t := by rw [← hw, List.getElem?_map, hi]; rfl
  have hsub : ∀ x ∈ waits.take i ++ waits.drop (i + 1), x ∈ waits := fun x hx => by
    rcases List.mem_append.1 hx with h1 | h1
    · exact List.mem_of_mem_take h1
    · exact List.mem_of_mem_drop h1
  have f9 : ∀ k, footS b lv' wv' sv' k → footS b lv wv sv k ∨ wr.heap.size ≤ k := fun k hk => by
    rcases nf k hk with h1 | h1
    · exact f6 k h1
    · exact .inr (by have := t6.size; omega)
  have tm : Touch (footS b lv wv sv) wr w9 := t6.more ht f6
  have tG : Touch G' wr w9 := ⟨tm.os, tm.tape, tm.output, tm.size, fun k hk hn => tm.block k hk (fun e => hn ((hG k).2 (.inl e)))⟩
  refine ⟨⟨fun k => footS b lv' wv' sv' k ∨ ∃ x ∈ (log ++ [m]) ++ (waits.take i ++ waits.drop (i + 1)), x.blk k, ⟨lv', wv', sv', log ++ [m], waits.take i ++ waits.drop (i + 1), ap, by rw [List.map_append, hl]; rfl, ?_, fun k => Iff.rfl⟩, fun k hk => ?_⟩, hM.touch.more tG hGG, hM.inv.gone hmm hlog, ?_, fun X hX => hM.go X (.step hlog hx hX)⟩
  · show _ = dropW S.waits m.t
    rw [dropW_at hM.inv.nums him, List.map_append, List.map_take, List.map_drop, hw]
  · rcases hk with h1 | ⟨x, hx, h1⟩
    · rcases f9 k h1 with h2 | h2
      · exact hGG k ((hG k).2 (.inl h2))
      · exact .inr (by have := hM.touch.size; omega)
    · refine hGG k ((hG k).2 (.inr ⟨x, ?_, h1⟩))
      rcases List.mem_append.1 hx with h2 | h2
      · rcases List.mem_append.1 h2 with h3 | h3
        · exact List.mem_append.2 (.inl h3)
        · rw [List.mem_singleton.1 h3]; exact List.mem_append.2 (.inr hm)
      · exact List.mem_append.2 (.inr (hsub x h2))
  · have := dropW_length hM.inv.nums hmm
    have := hM.wn
    show (dropW S.waits m.t).length ≤ 1000
    omega

/-- that one is applied -/
theorem rapply_round {w0 wr w6 : World} {b : Nat} {G G' : Nat → Prop} {S0 S : SiteS} {lv wv sv wv' : Value} {log waits : List TxM} (hM : RGoM w0 b G S0 S wr) (PM : SMem wr b lv wv sv S log waits) (hl : log.map (·.t) = S.log) (hw : waits.map (·.t) = S.waits)
    (hG : ∀ k, G' k ↔ (footS b lv wv sv k ∨ ∃ m ∈ log ++ waits, m.blk k)) (hGG : ∀ k, G' k → G k ∨ w0.heap.size ≤ k) {i : Nat} {m : TxM} (hi : waits[i]? = some m) (hlog : S.log.length < 200) (hx : nextS S = some m.t)
    (t6 : Touch (footS b lv wv sv) wr w6) (f6 : ∀ k, footS b lv wv' sv k → footS b lv wv sv k ∨ wr.heap.size ≤ k) (PM6 : SMem w6 b lv wv' sv { S with waits := dropW S.waits m.t } log (waits.take i ++ waits.drop (i + 1))) :
    Calls Tryz.prog 51 #[.pointer (some ⟨b, 0, none⟩), .agg #[.int .i64 m.t.site, .int .i64 m.t.seq, .int .i64 m.t.wall, .int .i64 m.t.count, .int .i64 m.t.d0, .int .i64 m.t.d1, .int .i64 m.t.d2, .int .i64 m.t.d3, .slice m.wa m.t.ws.length m.wc]] w6 fun e w' =>
      e = .returned (.tuple #[]) ∧ RGoM w0 b G S0 (goneS S m.t) w' ∧ Touch (footS b lv wv' sv) w6 w' := by
  have hm : m ∈ waits := List.mem_of_getElem? hi
  have hold := PM.hold m (List.mem_append.2 (.inr hm))
  have hmm : m.t ∈ S.waits := by rw [← hw]; exact List.mem_map.2 ⟨m, hm, rfl⟩
  obtain ⟨⟨s0, s3⟩, hsq, hw5⟩ := okT_parts (hM.inv.wt m.t hmm).1
  have hlen := hM.inv.len
  have hl2 : log.length = S.log.length := by rw [← hl]; simp
  refine (refApplies_any m w6 PM6 ⟨hold.1.kept (fun k e => t6.block k (hold.1.blk_lt k e) (hold.2 k e)), fun k e hf => ?_⟩ s0 s3 (by show S.l.length + _ ≤ _; omega) (by omega)).mono fun e w' ⟨he, lv', sv', p1, p2, p3⟩ => ⟨he, rgone_round hM hl hw hG hGG hi hlog hx t6 f6 p1 p2 p3, p3⟩
  rcases f6 k hf with h1 | h1
  · exact hold.2 k e h1
  · have := hold.1.blk_lt k e
    omega

end Go.Proofs.YtpncedpfoakfkaaGreatDoor

namespace Go.Proofs.YtpncedpfoakfkaaGreatDoor
open Go.RowKit

/-- a function's region, by its number -/
def findRegion (n : Nat) : Code → Option Code
  | .region id ops d => if id = n then some (.region id ops d) else none
  | .seq x y => match findRegion n x with
    | some c => some c
    | none => findRegion n y
  | .block _ c => findRegion n c
  | .loop c => findRegion n c
  | .cond _ x y => match findRegion n x with
    | some c => some c
    | none => findRegion n y
  | _ => none
/-- the region that a piece opens with -/
def opensWith (n : Nat) : Code → Bool
  | .region id _ _ => Nat.beq id n
  | .seq x _ => opensWith n x
  | .block _ c => opensWith n c
  | .loop c => opensWith n c
  | _ => false
/-- a function's loop, by the region that its body opens with -/
def findLoop (n : Nat) : Code → Option Code
  | .loop c => match opensWith n c with
    | true => some (.loop c)
    | false => findLoop n c
  | .seq x y => match findLoop n x with
    | some c => some c
    | none => findLoop n y
  | .block _ c => findLoop n c
  | .cond _ x y => match findLoop n x with
    | some c => some c
    | none => findLoop n y
  | _ => none
/-- what a function does from a region on -/
def findFrom (n : Nat) : Code → Option Code
  | .seq x y => match opensWith n x with
    | true => some (.seq x y)
    | false => match findFrom n x with
      | some c => some c
      | none => findFrom n y
  | .block _ c => findFrom n c
  | .cond _ x y => match findFrom n x with
    | some c => some c
    | none => findFrom n y
  | _ => none
theorem wp_out {P : Program} {c : Code} {x : Exit} {Q : Exit → Act → World → Prop} {a : Act} {w : World} (h : c.wp P (fun e a w => e = x ∧ Q x a w) a w) : c.wp P Q a w :=
  wp_mono h (fun e a w h => by obtain ⟨h1, h2⟩ := h; rw [h1]; exact h2)
theorem wp_next {P : Program} {c : Code} {K : Act → World → Prop} {Q : Exit → Act → World → Prop} {a : Act} {w : World} (h : c.wp P (Exit.then K (fun _ _ _ => False)) a w) : c.wp P (Exit.then K Q) a w :=
  wp_mono h (fun e a w h => by cases e <;> first | exact h | exact False.elim h)

end Go.Proofs.YtpncedpfoakfkaaGreatDoor

namespace Go.Proofs.YtpncedpfoakfkaaGreatDoor
open Go.RowKit

theorem goes_waits {S S' : SiteS} (h : Goes S S') : S'.waits.length ≤ S.waits.length := by
  induction h with
  | full _ => exact Nat.le_refl _
  | none _ => exact Nat.le_refl _
  | step _ _ _ ih =>
    refine Nat.le_trans ih ?_
    exact List.length_filter_le _ _
theorem takes_waits {S S' : SiteS} {t : TxP} (h : TakesTo S t S') : S'.waits.length ≤ S.waits.length + 1 := by
  rcases h with ⟨_, rfl⟩ | ⟨_, h⟩
  · omega
  · have := goes_waits h
    simpa using this
theorem comS_inv {S : SiteS} {now d0 d1 d2 d3 : Int} {ws : List Wr} (hI : InvS S) : InvS (comS S now d0 d1 d2 d3 ws) := by
  unfold comS
  split
  · rename_i h
    exact (commitT_ok hI h).1
  · exact hI
theorem comS_waits {S : SiteS} {now d0 d1 d2 d3 : Int} {ws : List Wr} : (comS S now d0 d1 d2 d3 ws).waits = S.waits := by
  unfold comS
  split <;> rfl

/-- a site of the document that is new -/
theorem rnew {w : World} {id : Int} (T : TypeId) (vs : List Value) (hvs : vs = siteC (newS id) (.slice none 0 0) (.slice none 0 0) (.slice none 0 0)) : RS (w.alloc (.cells vs.toArray T)) w.heap.size (fun k => k = w.heap.size) (newS id) := by
  have B := RowL.new (w := w) (T := T) vs rfl
  rw [hvs] at B ⊢
  refine ⟨.slice none 0 0, .slice none 0 0, .slice none 0 0, [], [], ⟨B, World.ownsRow_nil _ _ _ _, World.ownsRow_nil _ _ _ _, World.ownsRow_nil _ _ _ _, fun h hh => (by cases hh), by simp [Value.ownBlock], by simp [Value.ownBlock], by simp [Value.ownBlock], by simp [Value.ownBlock], by simp [Value.ownBlock], by simp [Value.ownBlock], fun m hm => (by cases hm)⟩, rfl, rfl, fun k => ⟨fun h => .inl (.inl h), fun h => ?_⟩⟩
  rcases h with (h | h | h | h) | ⟨m, hm, _⟩
  · exact h
  · simp [Value.ownBlock] at h
  · simp [Value.ownBlock] at h
  · simp [Value.ownBlock] at h
  · cases hm

end Go.Proofs.YtpncedpfoakfkaaGreatDoor
