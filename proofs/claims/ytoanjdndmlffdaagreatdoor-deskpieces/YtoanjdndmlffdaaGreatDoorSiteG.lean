import Derived.Test.YtoanjdndmlffdaaGreatDoorPGo
import Derived.Test.YtoanjdndmlffdaaGreatDoorPMissing
import Derived.Test.YtoanjdndmlffdaaGreatDoorSiteF
import Derived.Test.YtoanjdndmlffdaaGreatDoorPStable
namespace Go.Proofs.YtoanjdndmlffdaaGreatDoor
open Go.RowKit
theorem nextP_is {lw lc now x y ne : Int} (h : nextP lw lc now = (x, y, ne)) (w : World) :
    Calls Tryz.prog 243 #[.agg #[.int .i64 lw, .int .i64 lc], .int .i64 now] w fun e w' => e = .returned (.tuple #[.agg #[.int .i64 x, .int .i64 y], errV ne]) ∧ Below w.heap.size w w' := by
  unfold nextP at h
  split at h
  · rename_i g
    injection h with h1 h2
    injection h2 with h2 h3
    subst h1 h2 h3
    exact next_range1 lw lc now w g
  · rename_i g
    have g' : (timeB lw && timeB lc) = true := by simpa using g
    have hb : 0 ≤ lc ∧ lc ≤ 1099511627776 := by
      have h' := g'
      simp [timeB] at h'
      omega
    split at h
    · rename_i g2
      injection h with h1 h2
      injection h2 with h2 h3
      subst h1 h2 h3
      exact next_range2 lw lc now w g' g2
    · rename_i g2
      have g2' : timeB now = true := by simpa using g2
      split at h
      · rename_i g3
        injection h with h1 h2
        injection h2 with h2 h3
        subst h1 h2 h3
        exact next_wall lw lc now w g' g2' g3
      · rename_i g3
        split at h
        · rename_i g4
          injection h with h1 h2
          injection h2 with h2 h3
          subst h1 h2 h3
          exact next_full lw lc now w g' g2' g3 (by simp; omega)
        · rename_i g4
          injection h with h1 h2
          injection h2 with h2 h3
          subst h1 h2 h3
          exact next_count lw lc now w g' g2' g3 (by simp; omega) hb.1 (by omega)

/-- the error of a Commit, and the site and the transaction behind it -/
def comE (S : SiteS) (now d0 d1 d2 d3 : Int) (ws : List Wr) : Int := commitE S S.log.length now d0 d1 d2 d3 ws
def comT (S : SiteS) (now d0 d1 d2 d3 : Int) (ws : List Wr) : TxP := if comE S now d0 d1 d2 d3 ws = 0 then commitT S now d0 d1 d2 d3 ws else ⟨0, 0, 0, 0, 0, 0, 0, 0, []⟩
def comS (S : SiteS) (now d0 d1 d2 d3 : Int) (ws : List Wr) : SiteS := if comE S now d0 d1 d2 d3 ws = 0 then applyS S (commitT S now d0 d1 d2 d3 ws) else S
/-- the same, and where what is told lies: in blocks that are new, and not the site's -/
def CommitA (w : World) (b : Nat) (G : Nat → Prop) (S : SiteS) (now d0 d1 d2 d3 : Int) (ws : List Wr) (e : Ending) (w' : World) : Prop :=
  ∃ (m : TxM) (G' : Nat → Prop), e = .returned (.tuple #[txV m, errV (comE S now d0 d1 d2 d3 ws)]) ∧ m.t = comT S now d0 d1 d2 d3 ws ∧ Hid (WrIn w' m.wa m.wc m.t.ws ∧ PS w' b G' (comS S now d0 d1 d2 d3 ws) ∧ (∀ k, G' k → G k ∨ w.heap.size ≤ k) ∧ Touch G w w' ∧ ∀ k, m.blk k → w.heap.size ≤ k ∧ ¬ G' k)
theorem pCommit_results {tmps : Array Value} {w : World} {b : Nat} {m : TxM} {ev : Value} (h : RowL w b (txC m)) (h2 : tmps[8]? = some (.pointer (some ⟨b, 0, none⟩))) (h3 : tmps[9]? = some ev) :
    (results Tryz.f206 tmps).run Tryz.prog w = .ok (.tuple #[txV m, ev]) w := by
  have z0 := h.cell 0 _ rfl
  have z1 := h.cell 1 _ rfl
  have z2 := h.cell 2 _ rfl
  have z3 := h.cell 3 _ rfl
  have z4 := h.cell 4 _ rfl
  have z5 := h.cell 5 _ rfl
  have z6 := h.cell 6 _ rfl
  have z7 := h.cell 7 _ rfl
  have z8 := h.cell 8 _ rfl
  simp [results, Tryz.results206, go_sem, h2, h3, z0, z1, z2, z3, z4, z5, z6, z7, z8, txV]
theorem commitT_ok {S : SiteS} {now d0 d1 d2 d3 : Int} {ws : List Wr} (hI : InvS S) (h : comE S now d0 d1 d2 d3 ws = 0) : InvS (applyS S (commitT S now d0 d1 d2 d3 ws)) ∧ 1 ≤ ws.length ∧ ws.length ≤ 5 ∧ S.log.length < 200 := by
  obtain ⟨h1, h2, h3, h4, h5⟩ := commitE_zero h
  have hw : 1 ≤ ws.length ∧ ws.length ≤ 5 := by
    simp only [okWs, Bool.and_eq_true, inB_iff] at h1
    omega
  have ho := hI.own
  have hd := hI.dep S.id
  refine ⟨hI.applied ⟨hI.id0, hI.id3⟩ ⟨?_, ?_⟩ hw (fun _ => ?_) (by omega), hw.1, hw.2, by omega⟩
  · show 0 ≤ depOf S.id _ _ _ _ + 1
    have := hd.1
    omega
  · show depOf S.id _ _ _ _ + 1 ≤ _
    omega
  · show depOf S.id _ _ _ _ + 1 ≤ _
    omega

theorem touch_cell {F : Nat → Prop} {w W : World} {p : Addr} (h : Touch F w W) (hB : w.heap.size ≤ p.block) (v : Value) : Touch F w (W.setCell p v) :=
  ⟨h.os, h.tape, h.output, by simpa [World.setCell] using h.size, fun k hk hn => (Below.heap_setCell _ _ _ _ (by omega)).trans (h.block k hk hn)⟩
theorem touch_tx {F : Nat → Prop} {w W : World} {b : Nat} (h : Touch F w W) (hB : w.heap.size ≤ b) (x0 x1 x2 x3 x4 x5 x6 x7 : Int) (v : Value) : Touch F w (setTx W b x0 x1 x2 x3 x4 x5 x6 x7 v) :=
  touch_cell (touch_cell (touch_cell (touch_cell (touch_cell (touch_cell (touch_cell (touch_cell (touch_cell h hB _) hB _) hB _) hB _) hB _) hB _) hB _) hB _) hB _
theorem commit_fin {w w7 w8 w9 : World} {b : Nat} {lv lv' : Value} {bm : Nat} {F F' G : Nat → Prop} {S : SiteS} {log waits : List TxM} {now d0 d1 d2 d3 : Int} {x0 x1 x2 x3 x4 x5 x6 x7 : Int} {ws : List Wr} {wa1 wa2 : Option Addr} {wc1 wc2 : Nat} (hP : PS w b G S) (h7 : Below w.heap.size w w7) (hs : w.heap.size + 1 < w7.heap.size)
    (PM8 : PMem w8 b lv' bm F' (applyS S ⟨x0, x1, x2, x3, x4, x5, x6, x7, ws⟩) (log ++ [⟨⟨x0, x1, x2, x3, x4, x5, x6, x7, ws⟩, wa1, wc1⟩]) waits) (nf : ∀ k, footQ b lv' bm F' k → footQ b lv bm F k ∨ w7.heap.size ≤ k) (tt : Touch (footQ b lv bm F) w7 w8)
    (hk1 : ∀ k, (⟨⟨x0, x1, x2, x3, x4, x5, x6, x7, ws⟩, wa1, wc1⟩ : TxM).blk k → w.heap.size + 1 < k) (hl : log.map (·.t) = S.log) (hw : waits.map (·.t) = S.waits) (hG : ∀ k, G k ↔ (footQ b lv bm F k ∨ ∃ m ∈ log ++ waits, m.blk k)) (h9 : Below w8.heap.size w8 w9)
    (W9 : WrIn w9 wa2 wc2 ws) (hk2 : ∀ k, (⟨⟨x0, x1, x2, x3, x4, x5, x6, x7, ws⟩, wa2, wc2⟩ : TxM).blk k → w.heap.size + 1 < k ∧ w8.heap.size ≤ k) (hct : commitT S now d0 d1 d2 d3 ws = ⟨x0, x1, x2, x3, x4, x5, x6, x7, ws⟩) (hE : comE S now d0 d1 d2 d3 ws = 0) :
    Hid (CommitA w b G S now d0 d1 d2 d3 ws (.returned (.tuple #[txV ⟨⟨x0, x1, x2, x3, x4, x5, x6, x7, ws⟩, wa2, wc2⟩, .nilIface])) (setTx w9 (w.heap.size + 1) x0 x1 x2 x3 x4 x5 x6 x7 (.slice wa2 ws.length wc2))) := by
  have tG : Touch G w w9 := ((Touch.ofBelow h7).more ⟨tt.os, tt.tape, tt.output, tt.size, fun k hk hn => tt.block k hk (fun e => hn ((hG k).2 (.inl e)))⟩ (fun k hk => .inl hk)).trans (Touch.ofBelow h9)
  have hblk : ∀ k, k ≠ w.heap.size + 1 → (setTx w9 (w.heap.size + 1) x0 x1 x2 x3 x4 x5 x6 x7 (.slice wa2 ws.length wc2)).heap[k]? = w9.heap[k]? := fun k hk => setTx_block hk x0 x1 x2 x3 x4 x5 x6 x7 _
  have hsz : (setTx w9 (w.heap.size + 1) x0 x1 x2 x3 x4 x5 x6 x7 (.slice wa2 ws.length wc2)).heap.size = w9.heap.size := by simp only [setTx, World.setCell, Array.size_modify]
  have tF : Touch G w (setTx w9 (w.heap.size + 1) x0 x1 x2 x3 x4 x5 x6 x7 (.slice wa2 ws.length wc2)) := touch_tx tG (Nat.le_succ _) _ _ _ _ _ _ _ _ _
  generalize setTx w9 (w.heap.size + 1) x0 x1 x2 x3 x4 x5 x6 x7 (.slice wa2 ws.length wc2) = W at *
  have PM9 := PM8.later h9
  have lt8 := hP.lt
  have PSW : PS W b (fun k => footQ b lv' bm F' k ∨ ∃ m ∈ (log ++ [⟨⟨x0, x1, x2, x3, x4, x5, x6, x7, ws⟩, wa1, wc1⟩]) ++ waits, m.blk k) (applyS S ⟨x0, x1, x2, x3, x4, x5, x6, x7, ws⟩) := by
    refine ⟨lv', bm, F', _, waits, PM9.kept (fun k hk => hblk k (fun e => ?_)) (by omega), by rw [List.map_append, hl]; rfl, hw, fun k => Iff.rfl⟩
    rcases hk with h1 | ⟨m, hm, h1⟩
    · rcases nf k h1 with h2 | h2
      · have := lt8 k ((hG k).2 (.inl h2)); omega
      · omega
    · rcases List.mem_append.1 hm with h2 | h2
      · rcases List.mem_append.1 h2 with h3 | h3
        · have := lt8 k ((hG k).2 (.inr ⟨m, List.mem_append.2 (.inl h3), h1⟩)); omega
        · rw [List.mem_singleton.1 h3] at h1
          have := hk1 k h1; omega
      · have := lt8 k ((hG k).2 (.inr ⟨m, List.mem_append.2 (.inr h2), h1⟩)); omega
  have lt9 : ∀ k, (footQ b lv' bm F' k ∨ ∃ m ∈ (log ++ [⟨⟨x0, x1, x2, x3, x4, x5, x6, x7, ws⟩, wa1, wc1⟩]) ++ waits, m.blk k) → k < w8.heap.size := PS.lt (w := w8) (b := b) (S := applyS S ⟨x0, x1, x2, x3, x4, x5, x6, x7, ws⟩) ⟨lv', bm, F', _, waits, PM8, by rw [List.map_append, hl]; rfl, hw, fun k => Iff.rfl⟩
  refine ⟨⟨⟨x0, x1, x2, x3, x4, x5, x6, x7, ws⟩, wa2, wc2⟩, _, by rw [hE]; rfl, ?_, WrIn.kept (m := ⟨⟨x0, x1, x2, x3, x4, x5, x6, x7, ws⟩, wa2, wc2⟩) (w := w9) W9 (fun k e => hblk k (by have := (hk2 k e).1; omega)), by unfold comS; rw [if_pos hE, hct]; exact PSW, fun k hk => ?_, tF, fun k e => ⟨by have := (hk2 k e).1; omega, fun q => by have := lt9 k q; have := (hk2 k e).2; omega⟩⟩
  · unfold comT; rw [if_pos hE, hct]
  · rcases hk with h1 | ⟨m, hm, h1⟩
    · rcases nf k h1 with h2 | h2
      · exact .inl ((hG k).2 (.inl h2))
      · exact .inr (by omega)
    · rcases List.mem_append.1 hm with h2 | h2
      · rcases List.mem_append.1 h2 with h3 | h3
        · exact .inl ((hG k).2 (.inr ⟨m, List.mem_append.2 (.inl h3), h1⟩))
        · rw [List.mem_singleton.1 h3] at h1
          have := hk1 k h1; exact .inr (by omega)
      · exact .inl ((hG k).2 (.inr ⟨m, List.mem_append.2 (.inr h2), h1⟩))
/-- a session: Past, whether one is open, Snap, and its writes as they came -/
structure SesS where
  p0 : Int
  p1 : Int
  p2 : Int
  p3 : Int
  opn : Bool
  s0 : Int
  s1 : Int
  s2 : Int
  s3 : Int
  ws : List Wr
def newSes : SesS := ⟨0, 0, 0, 0, false, 0, 0, 0, 0, []⟩
/-- the last write of a key -/
def ownW (l : List Wr) (key : Int) : Option Wr := l.reverse.find? (fun x => decide (x.key = key))
theorem ownW_snoc (l : List Wr) (x : Wr) (key : Int) : ownW (l ++ [x]) key = if x.key = key then some x else ownW l key := by
  unfold ownW
  rw [List.reverse_append]
  by_cases h : x.key = key
  · simp [h]
  · simp [h]
theorem ownW_key {l : List Wr} {key : Int} {x : Wr} (h : ownW l key = some x) : x.key = key ∧ x ∈ l := by
  unfold ownW at h
  have h1 := List.find?_some h
  have h2 := List.mem_of_find?_eq_some h
  exact ⟨by simpa using h1, by simpa using h2⟩
/-- all of them, by their keys -/
def allW (l : List Wr) : List Wr := (List.range 8).filterMap (fun (k : Nat) => ownW l (k : Int))
/-- those of the keys below k -/
def allTo (l : List Wr) (k : Nat) : List Wr := (List.range k).filterMap (fun (k : Nat) => ownW l (k : Int))
theorem allTo_next (l : List Wr) (k : Nat) : allTo l (k + 1) = allTo l k ++ (match ownW l (k : Int) with | some x => [x] | none => []) := by
  unfold allTo
  rw [List.range_succ, List.filterMap_append]
  cases h : ownW l (k : Int) <;> simp [h]
theorem allTo_len (l : List Wr) (k : Nat) : (allTo l k).length ≤ k := by
  unfold allTo
  have := List.length_filterMap_le (fun (k : Nat) => ownW l (k : Int)) (List.range k)
  simpa using this
theorem allTo_snoc_len (l : List Wr) (x : Wr) (k : Nat) (h0 : 0 ≤ x.key) : (allTo (l ++ [x]) k).length = (allTo l k).length + if x.key < k ∧ ownW l x.key = none then 1 else 0 := by
  induction k with
  | zero => simp [allTo]; omega
  | succ k ih =>
    rw [allTo_next, allTo_next, List.length_append, List.length_append, ih, ownW_snoc]
    by_cases h : x.key = (k : Int)
    · rw [if_pos h, h]
      cases ho : ownW l (k : Int) with
      | none =>
        rw [if_neg (by omega), if_pos ⟨by omega, rfl⟩]
        simp
      | some y =>
        rw [if_neg (by omega), if_neg (by simp)]
        simp
    · rw [if_neg h]
      have e : (x.key < (k : Int) ∧ ownW l x.key = none) ↔ (x.key < ((k + 1 : Nat) : Int) ∧ ownW l x.key = none) := by
        constructor
        · rintro ⟨a, b⟩; exact ⟨by omega, b⟩
        · rintro ⟨a, b⟩; exact ⟨by omega, b⟩
      by_cases g : x.key < (k : Int) ∧ ownW l x.key = none
      · rw [if_pos g, if_pos (e.1 g)]; omega
      · rw [if_neg g, if_neg (fun h => g (e.2 h))]; omega

/-- Begin: the error, and the session behind it -/
def begE (S : SiteS) (s : SesS) : Int := if s.opn = true then 6 else if covB S.a0 S.a1 S.a2 S.a3 s.p0 s.p1 s.p2 s.p3 = false then 10 else 0
def begS (S : SiteS) (s : SesS) : SesS := if begE S s = 0 then { s with opn := true, s0 := S.a0, s1 := S.a1, s2 := S.a2, s3 := S.a3, ws := [] } else s
/-- Read: the text, and the error -/
def sreadV (S : SiteS) (s : SesS) (key : Int) : ByteArray × Int :=
  if s.opn = false then (⟨#[]⟩, 6) else match ownW s.ws key with
    | some x => if x.gone = true then (⟨#[]⟩, 8) else (x.data, 0)
    | none => ((readS S key s.s0 s.s1 s.s2 s.s3).1.data, (readS S key s.s0 s.s1 s.s2 s.s3).2)
/-- Write -/
def wriE (s : SesS) (x : Wr) : Int :=
  if s.opn = false then 6 else if x.key < 0 ∨ 8 ≤ x.key then 2 else if 12 < x.data.size then 4 else if x.gone = true ∧ x.data.size ≠ 0 then 1 else if ownW s.ws x.key = none ∧ 5 ≤ (allW s.ws).length then 12 else 0
def wriS (s : SesS) (x : Wr) : SesS := if wriE s x = 0 then { s with ws := s.ws ++ [x] } else s
/-- it ends -/
def endS (s : SesS) : SesS := ⟨maxZ s.p0 s.s0, maxZ s.p1 s.s1, maxZ s.p2 s.s2, maxZ s.p3 s.s3, false, 0, 0, 0, 0, []⟩
def aboE (s : SesS) : Int := if s.opn = false then 6 else 0
def aboS (s : SesS) : SesS := if s.opn = false then s else endS s
/-- Commit: the error, the transaction, the session and the site behind it -/
def scomE (S : SiteS) (s : SesS) (now : Int) : Int := if s.opn = false then 6 else if (allW s.ws).length = 0 then 0 else comE S now s.s0 s.s1 s.s2 s.s3 (allW s.ws)
def scomT (S : SiteS) (s : SesS) (now : Int) : TxP := if s.opn = false ∨ (allW s.ws).length = 0 then ⟨0, 0, 0, 0, 0, 0, 0, 0, []⟩ else comT S now s.s0 s.s1 s.s2 s.s3 (allW s.ws)
def atLeast (site seq : Int) (s : SesS) : SesS := { s with p0 := if site = 0 then maxZ s.p0 seq else s.p0, p1 := if site = 1 then maxZ s.p1 seq else s.p1, p2 := if site = 2 then maxZ s.p2 seq else s.p2, p3 := if site = 3 then maxZ s.p3 seq else s.p3 }
def scomSes (S : SiteS) (s : SesS) (now : Int) : SesS := if scomE S s now ≠ 0 then s else if (allW s.ws).length = 0 then endS s else atLeast (scomT S s now).site (scomT S s now).seq (endS s)
def scomS (S : SiteS) (s : SesS) (now : Int) : SiteS := if s.opn = false ∨ (allW s.ws).length = 0 then S else comS S now s.s0 s.s1 s.s2 s.s3 (allW s.ws)
theorem InvS.scom {S : SiteS} {s : SesS} {now : Int} (h : InvS S) : InvS (scomS S s now) := by
  unfold scomS comS
  split
  · exact h
  · split
    · rename_i g
      exact (commitT_ok h g).1
    · exact h
/-- those that a vector has not -/
def missP (S : SiteS) (h0 h1 h2 h3 : Int) : List TxP := S.log.filter (fun t => decide (depOf t.site h0 h1 h2 h3 < t.seq))
theorem missP_map {S : SiteS} {log : List TxM} (h : log.map (·.t) = S.log) (h0 h1 h2 h3 : Int) : (log.filter (missB h0 h1 h2 h3)).map (·.t) = missP S h0 h1 h2 h3 := by
  unfold missP
  rw [← h, List.filter_map]
  rfl
/-- the same, in blocks that are new -/
def MissToN (w : World) (L : List TxP) (v : Value) (w' : World) : Prop := ∃ kept : List TxM, kept.map (·.t) = L ∧ (∃ B, w.heap.size ≤ B ∧ w'.ownsRow B 102 9 v kept.length (txsC kept)) ∧ (∀ m ∈ kept, WrIn w' m.wa m.wc m.t.ws ∧ ∀ j, m.blk j → w.heap.size ≤ j) ∧ Below w.heap.size w w'
theorem pmissing_new {b : Nat} {G : Nat → Prop} {S : SiteS} (h0 h1 h2 h3 : Int) (w : World) (h : PS w b G S) (hI : InvS S) :
    Calls Tryz.prog 258 #[.pointer (some ⟨b, 0, none⟩), .agg #[.int .i64 h0, .int .i64 h1, .int .i64 h2, .int .i64 h3]] w fun e w' => ∃ v, e = .returned v ∧ MissToN w (missP S h0 h1 h2 h3) v w' := by
  obtain ⟨lv, bm, F, log, waits, h, hl, _, _⟩ := h
  have hln : log.length = S.log.length := by rw [← hl]; simp
  refine (missing_new h0 h1 h2 h3 w h (fun m hm => hI.lsite m.t (by rw [← hl]; exact List.mem_map.2 ⟨m, hm, rfl⟩)) (by have := hI.log; omega)).mono fun e w' ⟨v, h1', kept, k1, k2, k3, k4⟩ => ⟨v, h1', kept, ?_, k2, k3, k4⟩
  rw [← k1]
  exact missP_map hl _ _ _ _
section
set_option maxHeartbeats 1000000 in
theorem isSiteP_is {n : Int} {v : Bool} (h : (decide (0 ≤ n) && decide (n < 4)) = v) (w : World) :
    Calls Tryz.prog 165 #[.int .i64 n] w fun e w' => e = .returned (.bool v) ∧ w' = w := by
  by_cases h0 : 0 ≤ n
  · by_cases h4 : n < 4
    · have e : v = true := by rw [← h]; simp [h0, h4]
      subst e
      clear h
      go_enter Tryz.func165, Tryz.ntmps165
      go_wp2_with fail
      go_ret
      exact ⟨rfl, rfl⟩
    · have e : v = false := by rw [← h]; simp [h4]
      subst e
      clear h
      go_enter Tryz.func165, Tryz.ntmps165
      go_wp2_with fail
      go_ret
      exact ⟨rfl, rfl⟩
  · have e : v = false := by rw [← h]; simp [h0]
    subst e
    clear h
    go_enter Tryz.func165, Tryz.ntmps165
    go_wp2_with fail
    go_ret
    exact ⟨rfl, rfl⟩

theorem new_ps {w : World} {id : Int} (vs : List Value) (hvs : vs = [.int .i64 id, .int .i64 0, .int .i64 0, .int .i64 0, .int .i64 0, .int .i64 0, .int .i64 0, .slice none 0 0, .map (some w.heap.size), .int .i64 0, .int .i64 0, .int .i64 0, .int .i64 0, .int .i64 0, .int .i64 0, .int .i64 0, .int .i64 0, .int .i64 0, .int .i64 0, .int .i64 0, .int .i64 0, .int .i64 0, .int .i64 0, .int .i64 0, .int .i64 0, .slice none 0 0, .slice none 0 0, .slice none 0 0, .slice none 0 0, .slice none 0 0, .slice none 0 0, .slice none 0 0, .slice none 0 0]) (T : TypeId) :
    PS ((w.alloc (.map #[] 0)).alloc (.cells vs.toArray T)) (w.heap.size + 1) (fun k => k = w.heap.size + 1 ∨ k = w.heap.size) (newS id) := by
  have hs : (w.alloc (.map #[] 0)).heap.size = w.heap.size + 1 := by simp
  have R := RowL.new (w := w.alloc (.map #[] 0)) (T := T) (n := w.heap.size + 1) vs hs
  generalize hW : (w.alloc (.map #[] 0)).alloc (.cells vs.toArray T) = W at R
  have hb := boxed (Below.refl _ (w.alloc (.map #[] 0))) (.cells vs.toArray T)
  rw [hW] at hb
  have M0 := (PMap.made w).kept (hb.block _ (PMap.made w).lt)
  subst hvs
  refine ⟨.slice none 0 0, w.heap.size, fun k => footP (w.heap.size + 1) (fun _ => .slice none 0 0) k, [], [], ⟨⟨fun j v hv => ?_, fun j hj => R.free j (by simp [psiteC] at hj ⊢; omega), R.lt⟩, ?_, World.ownsRow_nil _ _ _ _, M0, by simp [Value.ownBlock], by omega, by simp [Value.ownBlock], fun k e => by simp [Value.ownBlock] at e, ?_, by simp⟩, rfl, rfl, fun k => ?_⟩
  · refine R.cell j v ?_
    have hj : j < 25 := by
      have := (List.getElem?_eq_some_iff.1 hv).1
      simpa [psiteC] using this
    rw [← hv]
    match j, hj with
    | 0, _ => rfl
    | 1, _ => rfl
    | 2, _ => rfl
    | 3, _ => rfl
    | 4, _ => rfl
    | 5, _ => rfl
    | 6, _ => rfl
    | 7, _ => rfl
    | 8, _ => rfl
    | 9, _ => rfl
    | 10, _ => rfl
    | 11, _ => rfl
    | 12, _ => rfl
    | 13, _ => rfl
    | 14, _ => rfl
    | 15, _ => rfl
    | 16, _ => rfl
    | 17, _ => rfl
    | 18, _ => rfl
    | 19, _ => rfl
    | 20, _ => rfl
    | 21, _ => rfl
    | 22, _ => rfl
    | 23, _ => rfl
    | 24, _ => rfl
  · refine ⟨fun _ => .slice none 0 0, fun _ => [], ⟨⟨fun j v hv => ?_, fun j hj => R.free (25 + j) (by simp at hj ⊢; omega), R.lt⟩, fun k _ => World.ownsRow_nil _ _ _ _, fun k _ => ?_, fun k _ => by simp [Value.ownBlock], fun i j _ _ _ g e => by simp [Value.ownBlock] at e⟩, ?_, fun k => Iff.rfl⟩
    · refine R.cell (25 + j) v ?_
      rw [← hv]
      have hj : j < 8 := by
        have := (List.getElem?_eq_some_iff.1 hv).1
        simpa using this
      match j, hj with
      | 0, _ => rfl
      | 1, _ => rfl
      | 2, _ => rfl
      | 3, _ => rfl
      | 4, _ => rfl
      | 5, _ => rfl
      | 6, _ => rfl
      | 7, _ => rfl
    · exact List.Pairwise.nil
    · exact ⟨fun k _ => by simp [keyL, newS], fun x hx => by simp [newS] at hx⟩
  · rintro (h | ⟨i, hi, h⟩)
    · omega
    · simp [Value.ownBlock] at h
  · constructor
    · rintro (h | h)
      · exact .inl (.inl h)
      · exact .inl (.inr (.inr (.inl h)))
    · rintro ((h | h | h | h) | ⟨m, hm, h⟩)
      · exact .inl h
      · simp [Value.ownBlock] at h
      · exact .inr h
      · rcases h with h | ⟨i, hi, h⟩
        · exact .inl h
        · simp [Value.ownBlock] at h
      · simp at hm

set_option maxRecDepth 100000 in
set_option maxHeartbeats 4000000 in
theorem new_any (id : Int) (w : World) (h0 : 0 ≤ id) (h4 : id < 4) :
    Calls Tryz.prog 117 #[.int .i64 id] w fun e w' => (e = .returned (.tuple #[.pointer (some ⟨w.heap.size + 1, 0, none⟩), .nilIface])) ∧ PS w' (w.heap.size + 1) (fun k => k = w.heap.size + 1 ∨ k = w.heap.size) (newS id) ∧ Below w.heap.size w w' := by
  have IS := isSiteP_is (n := id) (v := true) (by simp [h0, h4]) w
  have hmm := @run_makeMap Tryz.prog
  go_enter Tryz.func117, Tryz.ntmps117
  go_wp2_with fail
  refine IS.mono ?_
  rintro e w2 ⟨rfl, rfl⟩
  go_wp2_with fail
  exact bodyPost_ret (v := .tuple #[.pointer (some ⟨w2.heap.size + 1, 0, none⟩), .nilIface]) (by simp [results, Tryz.results117, go_sem]) rfl ⟨rfl, new_ps _ rfl _, boxed (boxed (Below.refl _ _) _) _⟩

/-- what it knows of one is more -/
def knowsS (S : SiteS) (k : Nat) (x0 x1 x2 x3 : Int) : SiteS := { S with oth := fun j => if j = k * 4 then maxZ (S.oth j) x0 else if j = k * 4 + 1 then maxZ (S.oth j) x1 else if j = k * 4 + 2 then maxZ (S.oth j) x2 else if j = k * 4 + 3 then maxZ (S.oth j) x3 else S.oth j }
end
/-- a site of the program -/
def siteP (b : Nat) (S : SiteS) : Part := ⟨fun w G => PS w b G S, fun _ _ h => h.lt, fun _ _ _ h => h.kept⟩
section
open Go.Maps
def wrV (x : Wr) : Value := .agg #[.int .i64 x.key, .string x.data, .bool x.gone]
def wrV0 : Value := .agg #[.int .i64 0, .string ⟨#[]⟩, .bool false]
theorem wr_zero (w : World) : (zeroValue 100).run Tryz.prog w = .ok wrV0 w := by kernel_rfl
theorem intLaw : Keyed Tryz.prog 3 := int_keyed Tryz.underlying3
theorem intKey {k : Int} (h : wfI k) : keyOf Tryz.prog 3 (.int .i64 k) = some (.int .i64 k) := by
  unfold keyOf
  rw [Tryz.underlying3]
  simp [mapKey, wf_i h, Tryz.underlying3]
theorem int_key (k : Int) : WideAt.IsKeyLit (.int .i64 k) := trivial

/-- the map's datum holds the last write of each key -/
structure WMapIs (D : DataW Value) (l : List Wr) : Prop where
  size : Maps.size D = (allW l).length
  has : ∀ k x, ownW l k = some x → Maps.has D (.int .i64 k) = true ∧ ∀ z, D.atKey (.int .i64 k) z = .held (wrV x)
  no : ∀ k, ownW l k = none → Maps.has D (.int .i64 k) = false ∧ ∀ z, D.atKey (.int .i64 k) z = z
/-- the block of such a map -/
def WMap (w : World) (bm : Nat) (l : List Wr) : Prop := (∀ x ∈ l, 0 ≤ x.key ∧ x.key < 8) ∧ ∃ D, w.ownsMap Tryz.prog 3 heldR bm (allW l).length D ∧ WMapIs D l
theorem WMap.lt {w : World} {bm : Nat} {l : List Wr} (h : WMap w bm l) : bm < w.heap.size := by
  obtain ⟨_, D, h, _⟩ := h
  exact h.lt
theorem WMap.kept {w w' : World} {bm : Nat} {l : List Wr} (h : WMap w bm l) (e : w'.heap[bm]? = w.heap[bm]?) : WMap w' bm l := by
  obtain ⟨h1, D, ⟨es, clock, hb, r⟩, h4⟩ := h
  exact ⟨h1, D, ⟨es, clock, by rw [e]; exact hb, r⟩, h4⟩
theorem WMap.made (w : World) : WMap (w.alloc (.map #[] 0)) w.heap.size [] :=
  ⟨by simp, _, World.ownsMap_made w _ _ _, ⟨rfl, fun k x h => by simp [ownW] at h, fun _ _ => ⟨rfl, fun _ => rfl⟩⟩⟩
theorem allW_snoc_len (l : List Wr) (x : Wr) (h0 : 0 ≤ x.key) (h8 : x.key < 8) : (allW (l ++ [x])).length = if ownW l x.key = none then (allW l).length + 1 else (allW l).length := by
  have := allTo_snoc_len l x 8 h0
  show (allTo (l ++ [x]) 8).length = if ownW l x.key = none then (allTo l 8).length + 1 else (allTo l 8).length
  rw [this]
  by_cases h : ownW l x.key = none
  · rw [if_pos ⟨by omega, h⟩, if_pos h]
  · rw [if_neg (fun e => h e.2), if_neg h]
    omega
theorem wmapIs_put {D : DataW Value} {l : List Wr} (hD : Tidy D) (h : WMapIs D l) {x : Wr} (h0 : 0 ≤ x.key) (h8 : x.key < 8) : WMapIs (D.put (.int .i64 x.key) (.held (wrV x))) (l ++ [x]) := by
  refine ⟨?_, fun k y hy => ?_, fun k hk => ?_⟩
  · rw [size_put hD, allW_snoc_len l x h0 h8, h.size]
    cases ho : ownW l x.key with
    | none => rw [(h.no _ ho).1]; simp
    | some y => rw [(h.has _ _ ho).1]; simp
  · rw [ownW_snoc] at hy
    by_cases e : x.key = k
    · rw [if_pos e] at hy
      injection hy with hy
      subst hy
      subst e
      exact ⟨has_put_same hD.isMap (int_key _) _, fun z => atKey_put_same hD.isMap (int_key _) _ z⟩
    · rw [if_neg e] at hy
      have hne : (Lit.int .i64 k) ≠ .int .i64 x.key := fun e2 => e (by injection e2 with _ e2; exact e2.symm)
      exact ⟨by rw [has_put_other hne]; exact (h.has k y hy).1, fun z => by rw [atKey_put_other hne]; exact (h.has k y hy).2 z⟩
  · rw [ownW_snoc] at hk
    by_cases e : x.key = k
    · rw [if_pos e] at hk; cases hk
    · rw [if_neg e] at hk
      have hne : (Lit.int .i64 k) ≠ .int .i64 x.key := fun e2 => e (by injection e2 with _ e2; exact e2.symm)
      exact ⟨by rw [has_put_other hne]; exact (h.no k hk).1, fun z => by rw [atKey_put_other hne]; exact (h.no k hk).2 z⟩
theorem WMap.put {w w' : World} {bm n : Nat} {l : List Wr} {D : DataW Value} {x : Wr} (h1 : ∀ x ∈ l, 0 ≤ x.key ∧ x.key < 8) (h3 : w.ownsMap Tryz.prog 3 heldR bm (allW l).length D) (h4 : WMapIs D l) (h0 : 0 ≤ x.key) (h8 : x.key < 8)
    (h5 : w'.ownsMap Tryz.prog 3 heldR bm n (D.put (.int .i64 x.key) (.held (wrV x)))) : WMap w' bm (l ++ [x]) := by
  have hd := wmapIs_put (h3.tidy intLaw) h4 h0 h8
  refine ⟨fun y hy => ?_, _, ?_, hd⟩
  · rcases List.mem_append.1 hy with h | h
    · exact h1 y h
    · rw [List.mem_singleton.1 h]; exact ⟨h0, h8⟩
  · obtain ⟨es, clock, e1, e2, e3, e4⟩ := h5
    refine ⟨es, clock, e1, e2, ?_, e4⟩
    have := hd.size
    rw [e4] at this
    simp [Maps.size, length_sorted] at this
    omega
end
/-- that write, or none -/
def ownOr (l : List Wr) (key : Int) : Wr := (ownW l key).getD ⟨0, ⟨#[]⟩, false⟩
/-- its cells -/
def rsesC (s : SesS) (wv : Value) : List Value := [.int .i64 s.p0, .int .i64 s.p1, .int .i64 s.p2, .int .i64 s.p3, .int .i64 s.s0, .int .i64 s.s1, .int .i64 s.s2, .int .i64 s.s3, .bool s.opn, wv]
section
open Go.Maps
theorem PS.mem {w : World} {b : Nat} {G : Nat → Prop} {S : SiteS} (h : PS w b G S) : ∃ lv bm F log waits, PMem w b lv bm F S log waits ∧ log.length = S.log.length ∧ waits.length = S.waits.length := by
  obtain ⟨lv, bm, F, log, waits, h, h1, h2, _⟩ := h
  exact ⟨lv, bm, F, log, waits, h, by rw [← h1]; simp, by rw [← h2]; simp⟩
theorem InvS.many {S : SiteS} (h : InvS S) : S.l.length ≤ 1000 := by
  have := h.len
  have := h.log
  omega
set_option maxRecDepth 100000 in
set_option maxHeartbeats 4000000 in
theorem applied_any {b : Nat} {G : Nat → Prop} {S : SiteS} (w : World) (h : PS w b G S) :
    Calls Tryz.prog 143 #[.pointer (some ⟨b, 0, none⟩)] w fun e w' => e = .returned (.agg #[.int .i64 S.a0, .int .i64 S.a1, .int .i64 S.a2, .int .i64 S.a3]) ∧ Below w.heap.size w w' := by
  obtain ⟨lv, bm, F, log, waits, PM, _, _⟩ := h.mem
  have k1 := PM.box.cell 1 _ rfl
  have k2 := PM.box.cell 2 _ rfl
  have k3 := PM.box.cell 3 _ rfl
  have k4 := PM.box.cell 4 _ rfl
  have hlt := PM.box.lt
  clear PM h
  go_enter Tryz.func143, Tryz.ntmps143
  go_wp2_with fail
  exact bodyPost_ret (v := .agg #[.int .i64 S.a0, .int .i64 S.a1, .int .i64 S.a2, .int .i64 S.a3]) (by simp [results, Tryz.results143, go_sem]) rfl ⟨rfl, boxed (Below.refl _ _) _⟩
end
/-- its cells -/
def psesC (s : SesS) (mv : Value) : List Value := [.int .i64 s.p0, .int .i64 s.p1, .int .i64 s.p2, .int .i64 s.p3, .bool s.opn, .int .i64 s.s0, .int .i64 s.s1, .int .i64 s.s2, .int .i64 s.s3, mv]
/-- where its writes lie: nowhere, or in a map of their own -/
def MapAt (w : World) (b : Nat) (s : SesS) (mv : Value) (G : Nat → Prop) : Prop :=
  (s.opn = false ∧ mv = .map none ∧ s.ws = [] ∧ ∀ k, G k ↔ k = b) ∨ (s.opn = true ∧ ∃ bm, mv = .map (some bm) ∧ bm ≠ b ∧ WMap w bm s.ws ∧ ∀ k, G k ↔ (k = b ∨ k = bm))
/-- a session of the program in memory: all that it holds lies in blocks of G -/
def PSe (w : World) (b : Nat) (G : Nat → Prop) (s : SesS) : Prop := ∃ mv, RowL w b (psesC s mv) ∧ MapAt w b s mv G
theorem PSe.lt {w : World} {b : Nat} {G : Nat → Prop} {s : SesS} (h : PSe w b G s) : ∀ k, G k → k < w.heap.size := by
  obtain ⟨mv, h1, ⟨_, _, _, hG⟩ | ⟨_, bm, _, _, hM, hG⟩⟩ := h
  · intro k hk
    rw [(hG k).1 hk]
    exact h1.lt
  · intro k hk
    rcases (hG k).1 hk with e | e
    · rw [e]; exact h1.lt
    · rw [e]; exact hM.lt
theorem PSe.own {w : World} {b : Nat} {G : Nat → Prop} {s : SesS} (h : PSe w b G s) : G b := by
  obtain ⟨mv, h1, ⟨_, _, _, hG⟩ | ⟨_, bm, _, _, hM, hG⟩⟩ := h
  · exact (hG b).2 rfl
  · exact (hG b).2 (.inl rfl)
theorem PSe.kept {w w' : World} {b : Nat} {G : Nat → Prop} {s : SesS} (h : PSe w b G s) (hk : ∀ k, G k → w'.heap[k]? = w.heap[k]?) (hs : w.heap.size ≤ w'.heap.size) : PSe w' b G s := by
  have ho := h.own
  obtain ⟨mv, h1, ⟨a, b1, c, hG⟩ | ⟨a, bm, b1, c, hM, hG⟩⟩ := h
  · exact ⟨mv, h1.kept (hk b ho) hs, .inl ⟨a, b1, c, hG⟩⟩
  · exact ⟨mv, h1.kept (hk b ho) hs, .inr ⟨a, bm, b1, c, hM.kept (hk bm ((hG bm).2 (.inr rfl))), hG⟩⟩
theorem PSe.later {w w' : World} {b : Nat} {G : Nat → Prop} {s : SesS} (h : PSe w b G s) (hb : Below w.heap.size w w') : PSe w' b G s := h.kept (fun k hk => hb.block k (h.lt k hk)) hb.size
def sesP (b : Nat) (s : SesS) : Part := ⟨fun w G => PSe w b G s, fun _ _ h => h.lt, fun _ _ _ h => h.kept⟩
/-- what is left of it -/
def PSPo (w : World) (b : Nat) (G : Nat → Prop) (s' : SesS) (w' : World) : Prop := ∃ G', PSe w' b G' s' ∧ (∀ k, G' k → G k ∨ w.heap.size ≤ k) ∧ Touch G w w'
theorem PSPo.same {w w' : World} {b : Nat} {G : Nat → Prop} {s : SesS} (h : PSe w b G s) (hb : Below w.heap.size w w') : PSPo w b G s w' := ⟨G, h.later hb, fun _ hk => .inl hk, Touch.ofBelow hb⟩
theorem PSPo.trans {w w1 w2 : World} {b : Nat} {G G1 : Nat → Prop} {s' : SesS} (hG : ∀ k, G1 k → G k ∨ w.heap.size ≤ k) (ht : Touch G w w1) (h : PSPo w1 b G1 s' w2) : PSPo w b G s' w2 := by
  obtain ⟨G', h1, h2, h3⟩ := h
  refine ⟨G', h1, fun k hk => ?_, ht.more h3 hG⟩
  rcases h2 k hk with h4 | h4
  · exact hG k h4
  · exact .inr (by have := ht.size; omega)
theorem pse_new {w : World} (T : TypeId) : PSe (w.alloc (.cells (psesC newSes (.map none)).toArray T)) w.heap.size (fun k => k = w.heap.size) newSes :=
  ⟨.map none, RowL.new (w := w) (T := T) _ rfl, .inl ⟨rfl, rfl, rfl, fun _ => Iff.rfl⟩⟩
theorem end_box {w w2 : World} {b : Nat} {G : Nat → Prop} {mv : Value} {s : SesS} (hG : G b) (hb : Below w.heap.size w w2) (B : RowL w2 b (psesC s mv)) (x0 x1 x2 x3 : Int) :
    PSPo w b G ⟨x0, x1, x2, x3, false, 0, 0, 0, 0, []⟩ ((((((((((w2.setCell ⟨b, 0, none⟩ (.int .i64 x0)).setCell ⟨b, 1, none⟩ (.int .i64 x1)).setCell ⟨b, 2, none⟩ (.int .i64 x2)).setCell ⟨b, 3, none⟩ (.int .i64 x3)).setCell ⟨b, 4, none⟩ (.bool false)).setCell ⟨b, 5, none⟩ (.int .i64 0)).setCell ⟨b, 6, none⟩ (.int .i64 0)).setCell ⟨b, 7, none⟩ (.int .i64 0)).setCell ⟨b, 8, none⟩ (.int .i64 0)).setCell ⟨b, 9, none⟩ (.map none)) := by
  have R1 := B.set 0 (.int .i64 x0) (by simp [psesC])
  have R2 := R1.set 1 (.int .i64 x1) (by simp [psesC])
  have R3 := R2.set 2 (.int .i64 x2) (by simp [psesC])
  have R4 := R3.set 3 (.int .i64 x3) (by simp [psesC])
  have R5 := R4.set 4 (.bool false) (by simp [psesC])
  have R6 := R5.set 5 (.int .i64 0) (by simp [psesC])
  have R7 := R6.set 6 (.int .i64 0) (by simp [psesC])
  have R8 := R7.set 7 (.int .i64 0) (by simp [psesC])
  have R9 := R8.set 8 (.int .i64 0) (by simp [psesC])
  have R10 := R9.set 9 (.map none) (by simp [psesC])
  refine ⟨fun k => k = b, ⟨.map none, R10, .inl ⟨rfl, rfl, rfl, fun _ => Iff.rfl⟩⟩, fun k hk => .inl (by rw [hk]; exact hG), ?_⟩
  have T := Touch.ofBelow (F := G) hb
  refine T.trans ?_
  exact (((((((((Touch.setCell _ _ _ hG).trans (Touch.setCell _ _ _ hG)).trans (Touch.setCell _ _ _ hG)).trans (Touch.setCell _ _ _ hG)).trans (Touch.setCell _ _ _ hG)).trans (Touch.setCell _ _ _ hG)).trans (Touch.setCell _ _ _ hG)).trans (Touch.setCell _ _ _ hG)).trans (Touch.setCell _ _ _ hG)).trans (Touch.setCell _ _ _ hG)
theorem pbeg_box {w w2 : World} {b bm : Nat} {G : Nat → Prop} {mv : Value} {s : SesS} (hG : G b) (hb : Below w.heap.size w w2) (B : RowL w2 b (psesC s mv)) (hM : WMap w2 bm []) (hm : w.heap.size ≤ bm) (hbl : b < w.heap.size) (a0 a1 a2 a3 : Int) :
    PSPo w b G { s with opn := true, s0 := a0, s1 := a1, s2 := a2, s3 := a3, ws := [] } ((((((w2.setCell ⟨b, 4, none⟩ (.bool true)).setCell ⟨b, 5, none⟩ (.int .i64 a0)).setCell ⟨b, 6, none⟩ (.int .i64 a1)).setCell ⟨b, 7, none⟩ (.int .i64 a2)).setCell ⟨b, 8, none⟩ (.int .i64 a3)).setCell ⟨b, 9, none⟩ (.map (some bm))) := by
  have R5 := B.set 4 (.bool true) (by simp [psesC])
  have R6 := R5.set 5 (.int .i64 a0) (by simp [psesC])
  have R7 := R6.set 6 (.int .i64 a1) (by simp [psesC])
  have R8 := R7.set 7 (.int .i64 a2) (by simp [psesC])
  have R9 := R8.set 8 (.int .i64 a3) (by simp [psesC])
  have R10 := R9.set 9 (.map (some bm)) (by simp [psesC])
  have hne : bm ≠ b := by omega
  refine ⟨fun k => k = b ∨ k = bm, ⟨.map (some bm), R10, .inr ⟨rfl, bm, rfl, hne, hM.kept ?_, fun _ => Iff.rfl⟩⟩, fun k hk => ?_, ?_⟩
  · rw [Below.heap_setCell _ _ _ _ hne, Below.heap_setCell _ _ _ _ hne, Below.heap_setCell _ _ _ _ hne, Below.heap_setCell _ _ _ _ hne, Below.heap_setCell _ _ _ _ hne, Below.heap_setCell _ _ _ _ hne]
  · rcases hk with h | h
    · exact .inl (by rw [h]; exact hG)
    · exact .inr (by omega)
  · have T := Touch.ofBelow (F := G) hb
    refine T.trans ?_
    exact (((((Touch.setCell _ _ _ hG).trans (Touch.setCell _ _ _ hG)).trans (Touch.setCell _ _ _ hG)).trans (Touch.setCell _ _ _ hG)).trans (Touch.setCell _ _ _ hG)).trans (Touch.setCell _ _ _ hG)
theorem past_box {w w2 : World} {b : Nat} {G G1 : Nat → Prop} {s : SesS} (h : PSe w2 b G1 s) (hG : ∀ k, G1 k → G k ∨ w.heap.size ≤ k) (hGb : G b) (ht : Touch G w w2) (n : Nat) (hn : n < 4) (x : Int) :
    PSPo w b G { s with p0 := if n = 0 then x else s.p0, p1 := if n = 1 then x else s.p1, p2 := if n = 2 then x else s.p2, p3 := if n = 3 then x else s.p3 } (w2.setCell ⟨b, n, none⟩ (.int .i64 x)) := by
  obtain ⟨mv, B, hm⟩ := h
  have R := B.set n (.int .i64 x) (by simp [psesC]; omega)
  refine ⟨G1, ⟨mv, ?_, ?_⟩, hG, ht.trans (Touch.setCell _ _ _ hGb)⟩
  · match n, hn with
    | 0, _ => exact R
    | 1, _ => exact R
    | 2, _ => exact R
    | 3, _ => exact R
  · rcases hm with h1 | ⟨a, bm, b1, c, hM, hG2⟩
    · exact .inl h1
    · exact .inr ⟨a, bm, b1, c, hM.kept (Below.heap_setCell _ _ _ _ c), hG2⟩
section
set_option maxRecDepth 100000 in
set_option maxHeartbeats 4000000 in
theorem psnew_any (w : World) : Calls Tryz.prog 118 #[] w fun e w' => e = .returned (.pointer (some ⟨w.heap.size, 0, none⟩)) ∧ PSe w' w.heap.size (fun k => k = w.heap.size) newSes ∧ Below w.heap.size w w' := by
  go_enter Tryz.func118, Tryz.ntmps118
  go_wp2_with fail
  go_ret
  exact ⟨rfl, pse_new _, boxed (Below.refl _ w) _⟩
set_option maxRecDepth 100000 in
set_option maxHeartbeats 4000000 in
theorem popen_any {b : Nat} {G : Nat → Prop} {s : SesS} (w : World) (h : PSe w b G s) :
    Calls Tryz.prog 149 #[.pointer (some ⟨b, 0, none⟩)] w fun e w' => e = .returned (.bool s.opn) ∧ Below w.heap.size w w' := by
  obtain ⟨mv, B, _⟩ := h
  have k4 := B.cell 4 _ rfl
  clear B
  go_enter Tryz.func149, Tryz.ntmps149
  go_wp2_with fail
  go_ret
  exact ⟨rfl, Below.refl _ _⟩
theorem vec_results {f : Func} {tmps : Array Value} {w : World} {b : Nat} {x0 x1 x2 x3 : Int} (hf : f.results = #[.cell 2 77]) (h : RowL w b [.int .i64 x0, .int .i64 x1, .int .i64 x2, .int .i64 x3]) (h2 : tmps[2]? = some (.pointer (some ⟨b, 0, none⟩))) :
    (results f tmps).run Tryz.prog w = .ok (.agg #[.int .i64 x0, .int .i64 x1, .int .i64 x2, .int .i64 x3]) w := by
  have z0 := h.cell 0 _ rfl
  have z1 := h.cell 1 _ rfl
  have z2 := h.cell 2 _ rfl
  have z3 := h.cell 3 _ rfl
  simp [results, hf, go_sem, h2, z0, z1, z2, z3]
set_option maxRecDepth 100000 in
set_option maxHeartbeats 4000000 in
theorem ppast_any {b : Nat} {G : Nat → Prop} {s : SesS} (w : World) (h : PSe w b G s) :
    Calls Tryz.prog 147 #[.pointer (some ⟨b, 0, none⟩)] w fun e w' => e = .returned (.agg #[.int .i64 s.p0, .int .i64 s.p1, .int .i64 s.p2, .int .i64 s.p3]) ∧ Below w.heap.size w w' := by
  obtain ⟨mv, B, _⟩ := h
  have k0 := B.cell 0 _ rfl
  have k1 := B.cell 1 _ rfl
  have k2 := B.cell 2 _ rfl
  have k3 := B.cell 3 _ rfl
  have hlt := B.lt
  clear B
  go_enter Tryz.func147, Tryz.ntmps147
  go_wp2_with fail
  exact bodyPost_ret (vec_results Tryz.results147 (RowL.new (w := w) (T := 77) [.int .i64 s.p0, .int .i64 s.p1, .int .i64 s.p2, .int .i64 s.p3] rfl) rfl) rfl ⟨rfl, boxed (Below.refl _ w) _⟩
set_option maxRecDepth 100000 in
set_option maxHeartbeats 4000000 in
theorem psnap_any {b : Nat} {G : Nat → Prop} {s : SesS} (w : World) (h : PSe w b G s) :
    Calls Tryz.prog 148 #[.pointer (some ⟨b, 0, none⟩)] w fun e w' => e = .returned (.agg #[.int .i64 s.s0, .int .i64 s.s1, .int .i64 s.s2, .int .i64 s.s3]) ∧ Below w.heap.size w w' := by
  obtain ⟨mv, B, _⟩ := h
  have k0 := B.cell 5 _ rfl
  have k1 := B.cell 6 _ rfl
  have k2 := B.cell 7 _ rfl
  have k3 := B.cell 8 _ rfl
  have hlt := B.lt
  clear B
  go_enter Tryz.func148, Tryz.ntmps148
  go_wp2_with fail
  exact bodyPost_ret (vec_results Tryz.results148 (RowL.new (w := w) (T := 77) [.int .i64 s.s0, .int .i64 s.s1, .int .i64 s.s2, .int .i64 s.s3] rfl) rfl) rfl ⟨rfl, boxed (Below.refl _ w) _⟩
set_option maxRecDepth 100000 in
set_option maxHeartbeats 4000000 in
theorem pend_any {b : Nat} {G : Nat → Prop} {s : SesS} (w : World) (h : PSe w b G s) :
    Calls Tryz.prog 200 #[.pointer (some ⟨b, 0, none⟩)] w fun e w' => e = .returned (.tuple #[]) ∧ PSPo w b G (endS s) w' := by
  have hG := h.own
  obtain ⟨mv, B, _⟩ := h
  have HB : Hid (RowL w b (psesC s mv)) := B
  have hbD : Below w.heap.size w w.drew := (Below.refl _ w).drew
  have B1 := B.later hbD
  clear B
  go_enter Tryz.func200, Tryz.ntmps200
  go_wp2_with fail
  have y0 := B1.cell 0 _ rfl
  have y1 := B1.cell 1 _ rfl
  have y2 := B1.cell 2 _ rfl
  have y3 := B1.cell 3 _ rfl
  have y5 := B1.cell 5 _ rfl
  have y6 := B1.cell 6 _ rfl
  have y7 := B1.cell 7 _ rfl
  have y8 := B1.cell 8 _ rfl
  go_region_law (refine step_call rfl 240 #[.agg #[.int .i64 s.p0, .int .i64 s.p1, .int .i64 s.p2, .int .i64 s.p3], .agg #[.int .i64 s.s0, .int .i64 s.s1, .int .i64 s.s2, .int .i64 s.s3]] (by go_simp) (max_any s.p0 s.p1 s.p2 s.p3 s.s0 s.s1 s.s2 s.s3 _) ?_
                 rintro e wa ⟨rfl, hba⟩
                 refine ⟨_, rfl, ?_⟩
                 have hbA := behind hbD hba
                 have B2 := HB.out.later hbA
                 have z0 := B2.cell 0 _ rfl
                 have z1 := B2.cell 1 _ rfl
                 have z2 := B2.cell 2 _ rfl
                 have z3 := B2.cell 3 _ rfl
                 have z4 := B2.cell 4 _ rfl
                 have z5 := B2.cell 5 _ rfl
                 have z6 := B2.cell 6 _ rfl
                 have z7 := B2.cell 7 _ rfl
                 have z8 := B2.cell 8 _ rfl
                 have z9 := B2.cell 9 _ rfl
                 have f0 := B2.free 0 (by simp [psesC])
                 have f1 := B2.free 1 (by simp [psesC])
                 have f2 := B2.free 2 (by simp [psesC])
                 have f3 := B2.free 3 (by simp [psesC])
                 have f4 := B2.free 4 (by simp [psesC])
                 have f5 := B2.free 5 (by simp [psesC])
                 have f6 := B2.free 6 (by simp [psesC])
                 have f7 := B2.free 7 (by simp [psesC])
                 have f8 := B2.free 8 (by simp [psesC])
                 have f9 := B2.free 9 (by simp [psesC]))
  all_goals
    go_wp2_with fail
    go_end0
    exact ⟨rfl, end_box hG hbA B2 _ _ _ _⟩
set_option maxRecDepth 100000 in
set_option maxHeartbeats 4000000 in
theorem pabort_any {b : Nat} {G : Nat → Prop} {s : SesS} (w : World) (h : PSe w b G s) :
    Calls Tryz.prog 139 #[.pointer (some ⟨b, 0, none⟩)] w fun e w' => e = .returned (errV (aboE s)) ∧ PSPo w b G (aboS s) w' := by
  have HS : Hid (PSe w b G s) := h
  obtain ⟨mv, B, _⟩ := h
  have k4 := B.cell 4 _ rfl
  clear B
  cases ho : s.opn
  · rw [ho] at k4
    have HE : Hid (aboE s = 6 ∧ aboS s = s) := ⟨by unfold aboE; rw [ho]; rfl, by unfold aboS; rw [ho]; rfl⟩
    clear ho
    go_enter Tryz.func139, Tryz.ntmps139
    go_wp2_with fail
    go_ret
    refine ⟨by rw [HE.out.1]; rfl, ?_⟩
    rw [HE.out.2]
    exact PSPo.same HS.out (Below.refl _ _)
  · rw [ho] at k4
    have HE : Hid (aboE s = 0 ∧ aboS s = endS s) := ⟨by unfold aboE; rw [ho]; rfl, by unfold aboS; rw [ho]; rfl⟩
    clear ho
    have EN := pend_any w HS.out
    go_enter Tryz.func139, Tryz.ntmps139
    go_wp2_with fail
    refine EN.mono ?_
    rintro e w1 ⟨rfl, hp⟩
    go_wp2_with fail
    go_ret
    refine ⟨by rw [HE.out.1]; rfl, ?_⟩
    rw [HE.out.2]
    exact hp
set_option maxRecDepth 100000 in
set_option maxHeartbeats 4000000 in
theorem pbegin_any {b bx : Nat} {G Gx : Nat → Prop} {s : SesS} {S : SiteS} (w : World) (h : PSe w b G s) (hS : PS w bx Gx S) :
    Calls Tryz.prog 145 #[.pointer (some ⟨b, 0, none⟩), .pointer (some ⟨bx, 0, none⟩)] w fun e w' => e = .returned (errV (begE S s)) ∧ PSPo w b G (begS S s) w' := by
  have hG := h.own
  have HS : Hid (PSe w b G s ∧ PS w bx Gx S) := ⟨h, hS⟩
  have hne := Later.one
  have hmm := @run_makeMap Tryz.prog
  obtain ⟨mv, B, _⟩ := h
  have HB : Hid (RowL w b (psesC s mv)) := B
  have HL : Hid (b < w.heap.size) := B.lt
  have k4 := B.cell 4 _ rfl
  cases ho : s.opn
  · rw [ho] at k4
    have l0 := Later.cell (B.cell 0 _ rfl)
    have l1 := Later.cell (B.cell 1 _ rfl)
    have l2 := Later.cell (B.cell 2 _ rfl)
    have l3 := Later.cell (B.cell 3 _ rfl)
    have HO : Hid (s.opn = false) := ho
    cases hc : covB S.a0 S.a1 S.a2 S.a3 s.p0 s.p1 s.p2 s.p3
    · have HC : Hid (covB S.a0 S.a1 S.a2 S.a3 s.p0 s.p1 s.p2 s.p3 = false) := hc
      have HE : Hid (begE S s = 10) := by show _ = _; unfold begE; rw [HO.out, HC.out]; rfl
      clear hS B ho hc
      go_enter Tryz.func145, Tryz.ntmps145
      go_wp2_with fail
      refine wp_region_later (by kernel_rfl) (by kernel_rfl) ?_
      repeat (go_big_quiet_step (first | rfl | (go_at_call 143; with_reducible exact calls_later (applied_any _ (HS.out.2.later (Later.below _)))) | (go_at_call 205; with_reducible exact calls_later (covers_is HC.out _))))
      refine wpQuiet_nil ?_
      rintro w2 ⟨⟨_, hb2⟩, rfl⟩
      go_wp2_with fail
      go_ret
      refine ⟨by rw [HE.out]; rfl, ?_⟩
      rw [show begS S s = s by unfold begS; rw [if_neg (by rw [HE.out]; decide)]]
      exact PSPo.same HS.out.1 hb2
    · have HC : Hid (covB S.a0 S.a1 S.a2 S.a3 s.p0 s.p1 s.p2 s.p3 = true) := hc
      have HE : Hid (begE S s = 0) := by show _ = _; unfold begE; rw [HO.out, HC.out]; rfl
      clear hS B ho hc
      go_enter Tryz.func145, Tryz.ntmps145
      go_wp2_with fail
      refine wp_region_later (by kernel_rfl) (by kernel_rfl) ?_
      repeat (go_big_quiet_step (first | rfl | (go_at_call 143; with_reducible exact calls_later (applied_any _ (HS.out.2.later (Later.below _)))) | (go_at_call 205; with_reducible exact calls_later (covers_is HC.out _))))
      refine wpQuiet_nil ?_
      rintro w2 ⟨⟨_, hb2⟩, rfl⟩
      clear k4 l0 l1 l2 l3
      have AP := applied_any _ (HS.out.2.later hb2)
      go_wp2_with fail
      refine AP.mono ?_
      rintro e w3 ⟨rfl, hb3⟩
      have hb4 := boxed (behind hb2 hb3) (.map #[] 0)
      have B4 := HB.out.later hb4
      have z4 := B4.cell 4 _ rfl
      have z5 := B4.cell 5 _ rfl
      have z6 := B4.cell 6 _ rfl
      have z7 := B4.cell 7 _ rfl
      have z8 := B4.cell 8 _ rfl
      have z9 := B4.cell 9 _ rfl
      have f4 := B4.free 4 (by simp [psesC])
      have f5 := B4.free 5 (by simp [psesC])
      have f6 := B4.free 6 (by simp [psesC])
      have f7 := B4.free 7 (by simp [psesC])
      have f8 := B4.free 8 (by simp [psesC])
      have f9 := B4.free 9 (by simp [psesC])
      have hsz : w.heap.size ≤ w3.heap.size := (behind hb2 hb3).size
      clear AP
      go_wp2_with fail
      go_ret
      refine ⟨by rw [HE.out]; rfl, ?_⟩
      rw [show begS S s = { s with opn := true, s0 := S.a0, s1 := S.a1, s2 := S.a2, s3 := S.a3, ws := [] } by unfold begS; rw [if_pos HE.out]]
      exact pbeg_box hG hb4 B4 (WMap.made w3) hsz HL.out S.a0 S.a1 S.a2 S.a3
  · rw [ho] at k4
    have HE : Hid (begE S s = 6) := by show _ = _; unfold begE; rw [ho]; rfl
    clear hS B ho
    go_enter Tryz.func145, Tryz.ntmps145
    go_wp2_with fail
    go_ret
    refine ⟨by rw [HE.out]; rfl, ?_⟩
    rw [show begS S s = s by unfold begS; rw [if_neg (by rw [HE.out]; decide)]]
    exact PSPo.same HS.out.1 (Below.refl _ _)
end
theorem pread_site {b : Nat} {G : Nat → Prop} {S : SiteS} (key a0 a1 a2 a3 : Int) (w : World) (h : PS w b G S) (hI : InvS S) :
    Calls Tryz.prog 216 #[.pointer (some ⟨b, 0, none⟩), .int .i64 key, .agg #[.int .i64 a0, .int .i64 a1, .int .i64 a2, .int .i64 a3]] w fun e w' =>
      e = .returned (.tuple #[.agg (verL (readS S key a0 a1 a2 a3).1).toArray, errV (readS S key a0 a1 a2 a3).2]) ∧ Below w.heap.size w w' := by
  obtain ⟨lv, bm, F, log, waits, h, _, _, _⟩ := h
  exact pread_any key a0 a1 a2 a3 w h hI
section
theorem PMem.know {w : World} {b : Nat} {lv : Value} {bm : Nat} {F : Nat → Prop} {S : SiteS} {log waits : List TxM} (h : PMem w b lv bm F S log waits) {k : Nat} (hk : k < 4) (x0 x1 x2 x3 : Int) :
    PMem ((((w.setCell ⟨b, 9 + k * 4, none⟩ (.int .i64 (maxZ (S.oth (k * 4)) x0))).setCell ⟨b, 9 + k * 4 + 1, none⟩ (.int .i64 (maxZ (S.oth (k * 4 + 1)) x1))).setCell ⟨b, 9 + k * 4 + 2, none⟩ (.int .i64 (maxZ (S.oth (k * 4 + 2)) x2))).setCell ⟨b, 9 + k * 4 + 3, none⟩ (.int .i64 (maxZ (S.oth (k * 4 + 3)) x3))) b lv bm F (knowsS S k x0 x1 x2 x3) log waits := by
  have a1 := h.cell (S' := { S with oth := fun j => if j = k * 4 then maxZ (S.oth j) x0 else S.oth j }) (9 + k * 4) (.int .i64 (maxZ (S.oth (k * 4)) x0)) (by omega) (by match k, hk with | 0, _ => rfl | 1, _ => rfl | 2, _ => rfl | 3, _ => rfl) rfl
  have a2 := a1.cell (S' := { S with oth := fun j => if j = k * 4 then maxZ (S.oth j) x0 else if j = k * 4 + 1 then maxZ (S.oth j) x1 else S.oth j }) (9 + k * 4 + 1) (.int .i64 (maxZ (S.oth (k * 4 + 1)) x1)) (by omega) (by match k, hk with | 0, _ => rfl | 1, _ => rfl | 2, _ => rfl | 3, _ => rfl) rfl
  have a3 := a2.cell (S' := { S with oth := fun j => if j = k * 4 then maxZ (S.oth j) x0 else if j = k * 4 + 1 then maxZ (S.oth j) x1 else if j = k * 4 + 2 then maxZ (S.oth j) x2 else S.oth j }) (9 + k * 4 + 2) (.int .i64 (maxZ (S.oth (k * 4 + 2)) x2)) (by omega) (by match k, hk with | 0, _ => rfl | 1, _ => rfl | 2, _ => rfl | 3, _ => rfl) rfl
  exact a3.cell (S' := knowsS S k x0 x1 x2 x3) (9 + k * 4 + 3) (.int .i64 (maxZ (S.oth (k * 4 + 3)) x3)) (by omega) (by match k, hk with | 0, _ => rfl | 1, _ => rfl | 2, _ => rfl | 3, _ => rfl) rfl

set_option maxRecDepth 100000 in
set_option maxHeartbeats 8000000 in
theorem knows_any {b : Nat} {G : Nat → Prop} {S : SiteS} {n : Int} (h0 : 0 ≤ n) (h4 : n < 4) (x0 x1 x2 x3 : Int) (w : World) (h : PS w b G S) :
    Calls Tryz.prog 257 #[.pointer (some ⟨b, 0, none⟩), .int .i64 n, .agg #[.int .i64 x0, .int .i64 x1, .int .i64 x2, .int .i64 x3]] w fun e w' => e = .returned (errV 0) ∧ PPo w b G (knowsS S n.toNat x0 x1 x2 x3) w' := by
  have IS := isSiteP_is (n := n) (v := true) (by simp [h0, h4]) (w.alloc (.cells #[.int .i64 x0, .int .i64 x1, .int .i64 x2, .int .i64 x3] 77))
  have hb := boxed (Below.refl _ w) (.cells #[.int .i64 x0, .int .i64 x1, .int .i64 x2, .int .i64 x3] 77)
  have RA := RowL.new (w := w) (T := 77) [.int .i64 x0, .int .i64 x1, .int .i64 x2, .int .i64 x3] rfl
  obtain ⟨k, hk⟩ : ∃ k, n.toNat = k := ⟨_, rfl⟩
  have hk4 : k < 4 := by omega
  obtain ⟨lv, bm, F, log, waits, PM0, hl, hw, hG⟩ := h
  have HFI : Hid (∀ W, Below w.heap.size w W → ∀ W', W' = ((((W.setCell ⟨b, 9 + k * 4, none⟩ (.int .i64 (maxZ (S.oth (k * 4)) x0))).setCell ⟨b, 9 + k * 4 + 1, none⟩ (.int .i64 (maxZ (S.oth (k * 4 + 1)) x1))).setCell ⟨b, 9 + k * 4 + 2, none⟩ (.int .i64 (maxZ (S.oth (k * 4 + 2)) x2))).setCell ⟨b, 9 + k * 4 + 3, none⟩ (.int .i64 (maxZ (S.oth (k * 4 + 3)) x3))) → PPo w b G (knowsS S n.toNat x0 x1 x2 x3) W') := fun W hW W' e => by
    rw [hk]
    have PK := (PM0.later hW).know hk4 x0 x1 x2 x3
    have hGb : G b := (hG b).2 (.inl (.inl rfl))
    have tt : Touch G W W' := by
      rw [e]
      exact (((Touch.setCell W ⟨b, 9 + k * 4, none⟩ _ hGb).trans (Touch.setCell _ ⟨b, 9 + k * 4 + 1, none⟩ _ hGb)).trans (Touch.setCell _ ⟨b, 9 + k * 4 + 2, none⟩ _ hGb)).trans (Touch.setCell _ ⟨b, 9 + k * 4 + 3, none⟩ _ hGb)
    rw [← e] at PK
    exact ⟨G, ⟨lv, bm, F, log, waits, PK, hl, hw, hG⟩, fun j hj => .inl hj, (Touch.ofBelow hW).more tt (fun j hj => .inl hj)⟩
  obtain ⟨o0, o1, o2, o3⟩ := othQ_cells (S := S) (lv := lv) (bm := bm) hk4
  have HPM : Hid (∀ W, Below w.heap.size w W → PMem W b lv bm F S log waits) := fun W hW => PM0.later hW
  obtain ⟨p0, hp0⟩ : ∃ x, S.oth (k * 4) = x := ⟨_, rfl⟩
  obtain ⟨p1, hp1⟩ : ∃ x, S.oth (k * 4 + 1) = x := ⟨_, rfl⟩
  obtain ⟨p2, hp2⟩ : ∃ x, S.oth (k * 4 + 2) = x := ⟨_, rfl⟩
  obtain ⟨p3, hp3⟩ : ∃ x, S.oth (k * 4 + 3) = x := ⟨_, rfl⟩
  rw [hp0] at o0
  rw [hp1] at o1
  rw [hp2] at o2
  rw [hp3] at o3
  rw [hp0, hp1, hp2, hp3] at HFI
  have hbD := hb.drew
  have PU : Hid (Calls Tryz.prog 240 #[.agg #[.int .i64 p0, .int .i64 p1, .int .i64 p2, .int .i64 p3], .agg #[.int .i64 x0, .int .i64 x1, .int .i64 x2, .int .i64 x3]] (w.alloc (.cells #[.int .i64 x0, .int .i64 x1, .int .i64 x2, .int .i64 x3] 77)).drew fun e w' => e = .returned (.agg #[.int .i64 (maxZ p0 x0), .int .i64 (maxZ p1 x1), .int .i64 (maxZ p2 x2), .int .i64 (maxZ p3 x3)]) ∧ Below w.heap.size w w') := (max_any p0 p1 p2 p3 x0 x1 x2 x3 _).mono fun e w' ⟨h1, h2⟩ => ⟨h1, behind hbD h2⟩
  have BX := (HPM.out _ hb).box
  have q0 := BX.cell _ _ o0
  have q1 := BX.cell _ _ o1
  have q2 := BX.cell _ _ o2
  have q3 := BX.cell _ _ o3
  have r0 := RA.cell 0 _ rfl
  have r1 := RA.cell 1 _ rfl
  have r2 := RA.cell 2 _ rfl
  have r3 := RA.cell 3 _ rfl
  have HO : Hid ((psiteC S lv bm)[9 + k * 4]? = some (.int .i64 p0) ∧ (psiteC S lv bm)[9 + k * 4 + 1]? = some (.int .i64 p1) ∧ (psiteC S lv bm)[9 + k * 4 + 2]? = some (.int .i64 p2) ∧ (psiteC S lv bm)[9 + k * 4 + 3]? = some (.int .i64 p3)) := ⟨o0, o1, o2, o3⟩
  have HK4 : Hid (k < 4) := hk4
  clear PM0 hl hw hG hp0 hp1 hp2 hp3 BX RA o0 o1 o2 o3 hk4
  go_enter Tryz.func257, Tryz.ntmps257
  go_wp2_with fail
  refine IS.mono ?_
  rintro e w2 ⟨rfl, rfl⟩
  go_wp2_with fail
  go_region_law (first
    | (refine step_call rfl 240 #[.agg #[.int .i64 p0, .int .i64 p1, .int .i64 p2, .int .i64 p3], .agg #[.int .i64 x0, .int .i64 x1, .int .i64 x2, .int .i64 x3]] (by go_simp) PU.out ?_
       rintro e w3 ⟨rfl, hb3⟩
       refine ⟨_, rfl, ?_⟩
       have BX3 := (HPM.out _ hb3).box
       have s0 := BX3.cell _ _ HO.out.1
       have s1 := BX3.cell _ _ HO.out.2.1
       have s2 := BX3.cell _ _ HO.out.2.2.1
       have s3 := BX3.cell _ _ HO.out.2.2.2
       have f0 := BX3.free (9 + k * 4) (by have := HK4.out; simp [psiteC]; omega)
       have f1 := BX3.free (9 + k * 4 + 1) (by have := HK4.out; simp [psiteC]; omega)
       have f2 := BX3.free (9 + k * 4 + 2) (by have := HK4.out; simp [psiteC]; omega)
       have f3 := BX3.free (9 + k * 4 + 3) (by have := HK4.out; simp [psiteC]; omega)
       clear BX3))
  all_goals
    have FIN := HFI.out w3 hb3 _ rfl
    go_wp2_with fail
    go_ret
    exact ⟨rfl, FIN⟩
end
section
open Go.Maps
set_option maxRecDepth 100000 in
set_option maxHeartbeats 4000000 in
theorem waits_any {b : Nat} {G : Nat → Prop} {S : SiteS} (w : World) (h : PS w b G S) :
    Calls Tryz.prog 159 #[.pointer (some ⟨b, 0, none⟩)] w fun e w' => e = .returned (.int .i64 S.waits.length) ∧ Below w.heap.size w w' := by
  obtain ⟨lv, bm, F, log, waits, PM, _, hw⟩ := h.mem
  have k8 := PM.box.cell 8 _ rfl
  obtain ⟨_, _, DD, hown, hMI⟩ := PM.map
  have LEN : ∀ ty, (Builtin.len_ #[214] ty #[.map (some bm)]).run Tryz.prog w = .ok (.int .i64 S.waits.length) w := fun ty => by
    have := hown.len Tryz.underlying214 ty
    rw [hMI.size, hw] at this
    exact this
  clear PM h hown hMI hw
  go_enter Tryz.func159, Tryz.ntmps159
  go_wp2_with fail
  go_ret
  exact ⟨rfl, Below.refl _ _⟩
set_option maxRecDepth 100000 in
set_option maxHeartbeats 4000000 in
theorem pall_any {b : Nat} {G : Nat → Prop} {S : SiteS} (w : World) (h : PS w b G S) (hI : InvS S) :
    Calls Tryz.prog 160 #[.pointer (some ⟨b, 0, none⟩)] w fun e w' => ∃ v, e = .returned v ∧ w'.ownsRow w.heap.size 9 1 v 8 (toldC S.a0 S.a1 S.a2 S.a3 S.l 8) ∧ Below w.heap.size w w' := by
  obtain ⟨lv, bm, F, log, waits, PM, _, _⟩ := h.mem
  have k1 := PM.box.cell 1 _ rfl
  have k2 := PM.box.cell 2 _ rfl
  have k3 := PM.box.cell 3 _ rfl
  have k4 := PM.box.cell 4 _ rfl
  have MA : Hid (Calls Tryz.prog 217 #[.pointer (some ⟨b, 25, none⟩), .agg #[.int .i64 S.a0, .int .i64 S.a1, .int .i64 S.a2, .int .i64 S.a3]] w.drew fun e w' => ∃ v, e = .returned v ∧ Hid (w'.ownsRow w.heap.size 9 1 v 8 (toldC S.a0 S.a1 S.a2 S.a3 S.l 8) ∧ Below w.heap.size w w')) :=
    (qAll_any S.a0 S.a1 S.a2 S.a3 w.drew (PM.later (Below.refl _ w).drew).st hI.many hI.apart hI.ok).mono fun e w' ⟨v, h1, h2, h3⟩ => ⟨v, h1, h2, behind (Below.refl _ w).drew h3⟩
  clear PM h hI
  go_enter Tryz.func160, Tryz.ntmps160
  go_wp2_with fail
  go_region_law (refine step_call rfl 217 #[.pointer (some ⟨b, 25, none⟩), .agg #[.int .i64 S.a0, .int .i64 S.a1, .int .i64 S.a2, .int .i64 S.a3]] (by go_simp) MA.out ?_
                 rintro e w2 ⟨v, rfl, HQ⟩
                 refine ⟨_, rfl, ?_⟩)
  all_goals
    go_wp2_with fail
    go_ret
    exact ⟨_, rfl, HQ.out.1, HQ.out.2⟩
end
section
open Go.Maps
set_option maxRecDepth 100000 in
set_option maxHeartbeats 4000000 in
theorem pmany_any {b : Nat} {G : Nat → Prop} {S : SiteS} (w : World) (h : PS w b G S) (hI : InvS S) :
    Calls Tryz.prog 161 #[.pointer (some ⟨b, 0, none⟩)] w fun e w' => e = .returned (.int .i64 S.l.length) ∧ Below w.heap.size w w' := by
  obtain ⟨lv, bm, F, log, waits, PM, _, _⟩ := h.mem
  have MA := qMany_any w PM.st hI.many
  clear PM h hI
  go_enter Tryz.func161, Tryz.ntmps161
  go_wp2_with fail
  refine MA.mono ?_
  rintro e w2 ⟨rfl, hb2⟩
  go_wp2_with fail
  go_ret
  exact ⟨rfl, hb2⟩
set_option maxRecDepth 100000 in
set_option maxHeartbeats 4000000 in
theorem psweep_any {b : Nat} {G : Nat → Prop} {S : SiteS} (x0 x1 x2 x3 : Int) (w : World) (h : PS w b G S) (hI : InvS S) :
    Calls Tryz.prog 164 #[.pointer (some ⟨b, 0, none⟩), .agg #[.int .i64 x0, .int .i64 x1, .int .i64 x2, .int .i64 x3]] w fun e w' => e = .returned (.tuple #[]) ∧ PPo w b G { S with l := sweepL (minZ x0 S.a0) (minZ x1 S.a1) (minZ x2 S.a2) (minZ x3 S.a3) S.l } w' := by
  have hb := boxed (Below.refl _ w) (.cells #[.int .i64 x0, .int .i64 x1, .int .i64 x2, .int .i64 x3] 77)
  have RA := RowL.new (w := w) (T := 77) [.int .i64 x0, .int .i64 x1, .int .i64 x2, .int .i64 x3] rfl
  obtain ⟨lv, bm, F, log, waits, PM0, hl, hw, hG⟩ := h
  have PM := PM0.later hb
  have k1 := PM.box.cell 1 _ rfl
  have k2 := PM.box.cell 2 _ rfl
  have k3 := PM.box.cell 3 _ rfl
  have k4 := PM.box.cell 4 _ rfl
  have r0 := RA.cell 0 _ rfl
  have r1 := RA.cell 1 _ rfl
  have r2 := RA.cell 2 _ rfl
  have r3 := RA.cell 3 _ rfl
  have MI : Hid (∀ W, Below w.heap.size w W → Calls Tryz.prog 163 #[.agg #[.int .i64 x0, .int .i64 x1, .int .i64 x2, .int .i64 x3], .agg #[.int .i64 S.a0, .int .i64 S.a1, .int .i64 S.a2, .int .i64 S.a3]] W fun e w' => e = .returned (.agg #[.int .i64 (minZ x0 S.a0), .int .i64 (minZ x1 S.a1), .int .i64 (minZ x2 S.a2), .int .i64 (minZ x3 S.a3)]) ∧ Below w.heap.size w w') := fun W hW => (min_any x0 x1 x2 x3 S.a0 S.a1 S.a2 S.a3 W).mono fun e w' ⟨h1, h2⟩ => ⟨h1, behind hW h2⟩
  have SW : Hid (∀ W, Below w.heap.size w W → Calls Tryz.prog 221 #[.pointer (some ⟨b, 25, none⟩), .agg #[.int .i64 (minZ x0 S.a0), .int .i64 (minZ x1 S.a1), .int .i64 (minZ x2 S.a2), .int .i64 (minZ x3 S.a3)]] W fun e w' => e = .returned (.tuple #[]) ∧ Hid (PPo w b G { S with l := sweepL (minZ x0 S.a0) (minZ x1 S.a1) (minZ x2 S.a2) (minZ x3 S.a3) S.l } w')) := fun W hW =>
    (qSweep_any (minZ x0 S.a0) (minZ x1 S.a1) (minZ x2 S.a2) (minZ x3 S.a3) W (PM0.later hW).st hI.many hI.apart hI.ok).mono fun e w' ⟨h1, h2⟩ => by
      obtain ⟨F', m1, m2, m3⟩ := (PM0.later hW).store h2
      have hGb : ∀ k, (∃ m ∈ log ++ waits, m.blk k) → k < w.heap.size := fun k ⟨m, hm, e⟩ => (PM0.hold m hm).1.blk_lt k e
      refine ⟨h1, fun k => footQ b lv bm F' k ∨ ∃ m ∈ log ++ waits, m.blk k, ⟨lv, bm, F', log, waits, m1, hl, hw, fun k => Iff.rfl⟩, fun k hk => ?_, (Touch.ofBelow hW).more ⟨m3.os, m3.tape, m3.output, m3.size, fun k hk hn => m3.block k hk (fun e => hn ((hG k).2 (.inl e)))⟩ (fun k hk => .inl hk)⟩
      rcases hk with h3 | h3
      · rcases m2 k h3 with h4 | h4
        · exact .inl ((hG k).2 (.inl h4))
        · exact .inr (by have := hW.size; omega)
      · exact .inl ((hG k).2 (.inr h3))
  have hbD := hb.drew
  clear PM0 PM hI hl hw hG
  go_enter Tryz.func164, Tryz.ntmps164
  go_wp2_with fail
  go_region_law (first
    | (refine step_call rfl 163 #[.agg #[.int .i64 x0, .int .i64 x1, .int .i64 x2, .int .i64 x3], .agg #[.int .i64 S.a0, .int .i64 S.a1, .int .i64 S.a2, .int .i64 S.a3]] (by go_simp) (MI.out _ hbD) ?_
       rintro e w2 ⟨rfl, hb2⟩
       refine ⟨_, rfl, ?_⟩)
    | (refine step_call rfl 221 #[.pointer (some ⟨b, 25, none⟩), .agg #[.int .i64 (minZ x0 S.a0), .int .i64 (minZ x1 S.a1), .int .i64 (minZ x2 S.a2), .int .i64 (minZ x3 S.a3)]] (by go_simp) (SW.out _ hb2) ?_
       rintro e w3 ⟨rfl, HQ⟩
       refine ⟨_, rfl, ?_⟩))
  all_goals
    go_wp2_with fail
    go_end0
    exact ⟨rfl, HQ.out⟩
end
theorem pstable_any {b : Nat} {G : Nat → Prop} {S : SiteS} (sites : Int) (w : World) (h : PS w b G S) :
    Calls Tryz.prog 162 #[.pointer (some ⟨b, 0, none⟩), .int .i64 sites] w fun e w' =>
      e = .returned (.agg #[.int .i64 (stabS S (cutN sites)).v0, .int .i64 (stabS S (cutN sites)).v1, .int .i64 (stabS S (cutN sites)).v2, .int .i64 (stabS S (cutN sites)).v3]) ∧ Below w.heap.size w w' := by
  obtain ⟨lv, bm, F, log, waits, h, _, _, _⟩ := h
  exact stable_any sites w h
end Go.Proofs.YtoanjdndmlffdaaGreatDoor
