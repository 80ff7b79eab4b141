/-
  Towards a commit at a site of the program: its error, what comes of it, what is told.
  A session: what it has seen, and does, and what comes of each call; no Go in sight.
  The writes of a session of the program: a map by key, as a list of writes as they came.
  A session of the document in memory, and what it wrote of a key, as the model runs it (copseref.Session.own).
  What a site of the program has applied, as the model runs it.
  A session of the program in memory; what is left of it.
  All that a session of the document wrote, by their keys, as the model runs it (copseref.Session.all).
  The program's session, as the model runs it: New, Past, Snap, Open, end, Abort, Begin.
  A new site of the program, and what it knows of the others, as the model runs it (site.New, site.Site.Knows).
-/
import Derived.Test.YtpncedpfoakfkaaGreatDoorPGo
import Derived.Test.YtpncedpfoakfkaaGreatDoorSiteC
import Derived.Test.YtpncedpfoakfkaaGreatDoorSiteE
import Derived.Test.YtpncedpfoakfkaaGreatDoorPSmall
import Derived.Test.YtpncedpfoakfkaaGreatDoorSiteF
import Derived.Test.YtpncedpfoakfkaaGreatDoorSiteA
namespace Go.Proofs.YtpncedpfoakfkaaGreatDoor
open Go.RowKit

theorem nextP_is {lw lc now x y ne : Int} (h : nextP lw lc now = (x, y, ne)) (w : World) :
    Calls Tryz.prog 56 #[.agg #[.int .i64 lw, .int .i64 lc], .int .i64 now] w fun e w' => e = .returned (.tuple #[.agg #[.int .i64 x, .int .i64 y], errV ne]) ∧ Below w.heap.size w w' := by
  unfold nextP at h
  split at h
  · rename_i g
    injection h with h1 h2
    injection h2 with h2 h3
    subst h1 h2 h3
    exact next_range1 lw lc now w g
  · rename_i g
    have g' : (timeB lw && timeB lc) = true := by simpa using g
    have hb : 0 ≤ lc ∧ lc ≤ 1099511627776 := by
      have h' := g'
      simp [timeB] at h'
      omega
    split at h
    · rename_i g2
      injection h with h1 h2
      injection h2 with h2 h3
      subst h1 h2 h3
      exact next_range2 lw lc now w g' g2
    · rename_i g2
      have g2' : timeB now = true := by simpa using g2
      split at h
      · rename_i g3
        injection h with h1 h2
        injection h2 with h2 h3
        subst h1 h2 h3
        exact next_wall lw lc now w g' g2' g3
      · rename_i g3
        split at h
        · rename_i g4
          injection h with h1 h2
          injection h2 with h2 h3
          subst h1 h2 h3
          exact next_full lw lc now w g' g2' g3 (by simp; omega)
        · rename_i g4
          injection h with h1 h2
          injection h2 with h2 h3
          subst h1 h2 h3
          exact next_count lw lc now w g' g2' g3 (by simp; omega) hb.1 (by omega)

/-- the error of a Commit, and the site and the transaction behind it -/
def comE (S : SiteS) (now d0 d1 d2 d3 : Int) (ws : List Wr) : Int := commitE S S.log.length now d0 d1 d2 d3 ws
def comT (S : SiteS) (now d0 d1 d2 d3 : Int) (ws : List Wr) : TxP := if comE S now d0 d1 d2 d3 ws = 0 then commitT S now d0 d1 d2 d3 ws else ⟨0, 0, 0, 0, 0, 0, 0, 0, []⟩
def comS (S : SiteS) (now d0 d1 d2 d3 : Int) (ws : List Wr) : SiteS := if comE S now d0 d1 d2 d3 ws = 0 then applyS S (commitT S now d0 d1 d2 d3 ws) else S
def CommitIs (w : World) (b : Nat) (G : Nat → Prop) (S : SiteS) (now d0 d1 d2 d3 : Int) (ws : List Wr) (e : Ending) (w' : World) : Prop :=
  ∃ m : TxM, e = .returned (.tuple #[txV m, errV (comE S now d0 d1 d2 d3 ws)]) ∧ m.t = comT S now d0 d1 d2 d3 ws ∧ Hid (WrIn w' m.wa m.wc m.t.ws ∧ PPo w b G (comS S now d0 d1 d2 d3 ws) w')
theorem pCommit_results {tmps : Array Value} {w : World} {b : Nat} {m : TxM} {ev : Value} (h : RowL w b (txC m)) (h2 : tmps[8]? = some (.pointer (some ⟨b, 0, none⟩))) (h3 : tmps[9]? = some ev) :
    (results Tryz.f9 tmps).run Tryz.prog w = .ok (.tuple #[txV m, ev]) w := by
  have z0 := h.cell 0 _ rfl
  have z1 := h.cell 1 _ rfl
  have z2 := h.cell 2 _ rfl
  have z3 := h.cell 3 _ rfl
  have z4 := h.cell 4 _ rfl
  have z5 := h.cell 5 _ rfl
  have z6 := h.cell 6 _ rfl
  have z7 := h.cell 7 _ rfl
  have z8 := h.cell 8 _ rfl
  simp [results, Tryz.results9, go_sem, h2, h3, z0, z1, z2, z3, z4, z5, z6, z7, z8, txV]
theorem commitT_ok {S : SiteS} {now d0 d1 d2 d3 : Int} {ws : List Wr} (hI : InvS S) (h : comE S now d0 d1 d2 d3 ws = 0) : InvS (applyS S (commitT S now d0 d1 d2 d3 ws)) ∧ 1 ≤ ws.length ∧ ws.length ≤ 5 ∧ S.log.length < 200 := by
  obtain ⟨h1, h2, h3, h4, h5⟩ := commitE_zero h
  have hw : 1 ≤ ws.length ∧ ws.length ≤ 5 := by
    simp only [okWs, Bool.and_eq_true, inB_iff] at h1
    omega
  have ho := hI.own
  have hd := hI.dep S.id
  refine ⟨hI.applied ⟨hI.id0, hI.id3⟩ ⟨?_, ?_⟩ hw (fun _ => ?_) (by omega), hw.1, hw.2, by omega⟩
  · show 0 ≤ depOf S.id _ _ _ _ + 1
    have := hd.1
    omega
  · show depOf S.id _ _ _ _ + 1 ≤ _
    omega
  · show depOf S.id _ _ _ _ + 1 ≤ _
    omega

theorem touch_cell {F : Nat → Prop} {w W : World} {p : Addr} (h : Touch F w W) (hB : w.heap.size ≤ p.block) (v : Value) : Touch F w (W.setCell p v) :=
  ⟨h.os, h.tape, h.output, by simpa [World.setCell] using h.size, fun k hk hn => (Below.heap_setCell _ _ _ _ (by omega)).trans (h.block k hk hn)⟩
theorem touch_tx {F : Nat → Prop} {w W : World} {b : Nat} (h : Touch F w W) (hB : w.heap.size ≤ b) (x0 x1 x2 x3 x4 x5 x6 x7 : Int) (v : Value) : Touch F w (setTx W b x0 x1 x2 x3 x4 x5 x6 x7 v) :=
  touch_cell (touch_cell (touch_cell (touch_cell (touch_cell (touch_cell (touch_cell (touch_cell (touch_cell h hB _) hB _) hB _) hB _) hB _) hB _) hB _) hB _) hB _
/-- behind it: the site has it, and a copy is told -/
theorem commit_fin {w w7 w8 w9 : World} {b : Nat} {lv lv' : Value} {bm : Nat} {F F' G : Nat → Prop} {S : SiteS} {log waits : List TxM} {now d0 d1 d2 d3 : Int} {x0 x1 x2 x3 x4 x5 x6 x7 : Int} {ws : List Wr} {wa1 wa2 : Option Addr} {wc1 wc2 : Nat} (hP : PS w b G S) (h7 : Below w.heap.size w w7) (hs : w.heap.size + 1 < w7.heap.size)
    (PM8 : PMem w8 b lv' bm F' (applyS S ⟨x0, x1, x2, x3, x4, x5, x6, x7, ws⟩) (log ++ [⟨⟨x0, x1, x2, x3, x4, x5, x6, x7, ws⟩, wa1, wc1⟩]) waits) (nf : ∀ k, footQ b lv' bm F' k → footQ b lv bm F k ∨ w7.heap.size ≤ k) (tt : Touch (footQ b lv bm F) w7 w8)
    (hk1 : ∀ k, (⟨⟨x0, x1, x2, x3, x4, x5, x6, x7, ws⟩, wa1, wc1⟩ : TxM).blk k → w.heap.size + 1 < k) (hl : log.map (·.t) = S.log) (hw : waits.map (·.t) = S.waits) (hG : ∀ k, G k ↔ (footQ b lv bm F k ∨ ∃ m ∈ log ++ waits, m.blk k)) (h9 : Below w8.heap.size w8 w9)
    (W9 : WrIn w9 wa2 wc2 ws) (hk2 : ∀ k, (⟨⟨x0, x1, x2, x3, x4, x5, x6, x7, ws⟩, wa2, wc2⟩ : TxM).blk k → w.heap.size + 1 < k) (hct : commitT S now d0 d1 d2 d3 ws = ⟨x0, x1, x2, x3, x4, x5, x6, x7, ws⟩) (hE : comE S now d0 d1 d2 d3 ws = 0) :
    Hid (CommitIs w b G S now d0 d1 d2 d3 ws (.returned (.tuple #[txV ⟨⟨x0, x1, x2, x3, x4, x5, x6, x7, ws⟩, wa2, wc2⟩, .nilIface])) (setTx w9 (w.heap.size + 1) x0 x1 x2 x3 x4 x5 x6 x7 (.slice wa2 ws.length wc2))) := by
  have tG : Touch G w w9 := ((Touch.ofBelow h7).more ⟨tt.os, tt.tape, tt.output, tt.size, fun k hk hn => tt.block k hk (fun e => hn ((hG k).2 (.inl e)))⟩ (fun k hk => .inl hk)).trans (Touch.ofBelow h9)
  have hblk : ∀ k, k ≠ w.heap.size + 1 → (setTx w9 (w.heap.size + 1) x0 x1 x2 x3 x4 x5 x6 x7 (.slice wa2 ws.length wc2)).heap[k]? = w9.heap[k]? := fun k hk => setTx_block hk x0 x1 x2 x3 x4 x5 x6 x7 _
  have hsz : (setTx w9 (w.heap.size + 1) x0 x1 x2 x3 x4 x5 x6 x7 (.slice wa2 ws.length wc2)).heap.size = w9.heap.size := by simp only [setTx, World.setCell, Array.size_modify]
  have tF : Touch G w (setTx w9 (w.heap.size + 1) x0 x1 x2 x3 x4 x5 x6 x7 (.slice wa2 ws.length wc2)) := touch_tx tG (Nat.le_succ _) _ _ _ _ _ _ _ _ _
  generalize setTx w9 (w.heap.size + 1) x0 x1 x2 x3 x4 x5 x6 x7 (.slice wa2 ws.length wc2) = W at *
  have PM9 := PM8.later h9
  have lt8 := hP.lt
  have PSW : PS W b (fun k => footQ b lv' bm F' k ∨ ∃ m ∈ (log ++ [⟨⟨x0, x1, x2, x3, x4, x5, x6, x7, ws⟩, wa1, wc1⟩]) ++ waits, m.blk k) (applyS S ⟨x0, x1, x2, x3, x4, x5, x6, x7, ws⟩) := by
    refine ⟨lv', bm, F', _, waits, PM9.kept (fun k hk => hblk k (fun e => ?_)) (by omega), by rw [List.map_append, hl]; rfl, hw, fun k => Iff.rfl⟩
    rcases hk with h1 | ⟨m, hm, h1⟩
    · rcases nf k h1 with h2 | h2
      · have := lt8 k ((hG k).2 (.inl h2)); omega
      · omega
    · rcases List.mem_append.1 hm with h2 | h2
      · rcases List.mem_append.1 h2 with h3 | h3
        · have := lt8 k ((hG k).2 (.inr ⟨m, List.mem_append.2 (.inl h3), h1⟩)); omega
        · rw [List.mem_singleton.1 h3] at h1
          have := hk1 k h1; omega
      · have := lt8 k ((hG k).2 (.inr ⟨m, List.mem_append.2 (.inr h2), h1⟩)); omega
  refine ⟨⟨⟨x0, x1, x2, x3, x4, x5, x6, x7, ws⟩, wa2, wc2⟩, by rw [hE]; rfl, ?_, WrIn.kept (m := ⟨⟨x0, x1, x2, x3, x4, x5, x6, x7, ws⟩, wa2, wc2⟩) (w := w9) W9 (fun k e => hblk k (by have := hk2 k e; omega)), ?_⟩
  · unfold comT; rw [if_pos hE, hct]
  · unfold comS
    rw [if_pos hE, hct]
    refine ⟨_, PSW, fun k hk => ?_, tF⟩
    rcases hk with h1 | ⟨m, hm, h1⟩
    · rcases nf k h1 with h2 | h2
      · exact .inl ((hG k).2 (.inl h2))
      · exact .inr (by omega)
    · rcases List.mem_append.1 hm with h2 | h2
      · rcases List.mem_append.1 h2 with h3 | h3
        · exact .inl ((hG k).2 (.inr ⟨m, List.mem_append.2 (.inl h3), h1⟩))
        · rw [List.mem_singleton.1 h3] at h1
          have := hk1 k h1; exact .inr (by omega)
      · exact .inl ((hG k).2 (.inr ⟨m, List.mem_append.2 (.inr h2), h1⟩))


end Go.Proofs.YtpncedpfoakfkaaGreatDoor

namespace Go.Proofs.YtpncedpfoakfkaaGreatDoor
open Go.RowKit

/-- a session: Past, whether one is open, Snap, and its writes as they came -/
structure SesS where
  p0 : Int
  p1 : Int
  p2 : Int
  p3 : Int
  opn : Bool
  s0 : Int
  s1 : Int
  s2 : Int
  s3 : Int
  ws : List Wr
def newSes : SesS := ⟨0, 0, 0, 0, false, 0, 0, 0, 0, []⟩
/-- the last write of a key -/
def ownW (l : List Wr) (key : Int) : Option Wr := l.reverse.find? (fun x => decide (x.key = key))
theorem ownW_snoc (l : List Wr) (x : Wr) (key : Int) : ownW (l ++ [x]) key = if x.key = key then some x else ownW l key := by
  unfold ownW
  rw [List.reverse_append]
  by_cases h : x.key = key
  · simp [h]
  · simp [h]
theorem ownW_key {l : List Wr} {key : Int} {x : Wr} (h : ownW l key = some x) : x.key = key ∧ x ∈ l := by
  unfold ownW at h
  have h1 := List.find?_some h
  have h2 := List.mem_of_find?_eq_some h
  exact ⟨by simpa using h1, by simpa using h2⟩
/-- all of them, by their keys -/
def allW (l : List Wr) : List Wr := (List.range 8).filterMap (fun (k : Nat) => ownW l (k : Int))
/-- those of the keys below k -/
def allTo (l : List Wr) (k : Nat) : List Wr := (List.range k).filterMap (fun (k : Nat) => ownW l (k : Int))
theorem allTo_next (l : List Wr) (k : Nat) : allTo l (k + 1) = allTo l k ++ (match ownW l (k : Int) with | some x => [x] | none => []) := by
  unfold allTo
  rw [List.range_succ, List.filterMap_append]
  cases h : ownW l (k : Int) <;> simp [h]
theorem allTo_len (l : List Wr) (k : Nat) : (allTo l k).length ≤ k := by
  unfold allTo
  have := List.length_filterMap_le (fun (k : Nat) => ownW l (k : Int)) (List.range k)
  simpa using this
theorem allTo_snoc_len (l : List Wr) (x : Wr) (k : Nat) (h0 : 0 ≤ x.key) : (allTo (l ++ [x]) k).length = (allTo l k).length + if x.key < k ∧ ownW l x.key = none then 1 else 0 := by
  induction k with
  | zero => simp [allTo]; omega
  | succ k ih =>
    rw [allTo_next, allTo_next, List.length_append, List.length_append, ih, ownW_snoc]
    by_cases h : x.key = (k : Int)
    · rw [if_pos h, h]
      cases ho : ownW l (k : Int) with
      | none =>
        rw [if_neg (by omega), if_pos ⟨by omega, rfl⟩]
        simp
      | some y =>
        rw [if_neg (by omega), if_neg (by simp)]
        simp
    · rw [if_neg h]
      have e : (x.key < (k : Int) ∧ ownW l x.key = none) ↔ (x.key < ((k + 1 : Nat) : Int) ∧ ownW l x.key = none) := by
        constructor
        · rintro ⟨a, b⟩; exact ⟨by omega, b⟩
        · rintro ⟨a, b⟩; exact ⟨by omega, b⟩
      by_cases g : x.key < (k : Int) ∧ ownW l x.key = none
      · rw [if_pos g, if_pos (e.1 g)]; omega
      · rw [if_neg g, if_neg (fun h => g (e.2 h))]; omega

/-- Begin: the error, and the session behind it -/
def begE (S : SiteS) (s : SesS) : Int := if s.opn = true then 6 else if covB S.a0 S.a1 S.a2 S.a3 s.p0 s.p1 s.p2 s.p3 = false then 10 else 0
def begS (S : SiteS) (s : SesS) : SesS := if begE S s = 0 then { s with opn := true, s0 := S.a0, s1 := S.a1, s2 := S.a2, s3 := S.a3, ws := [] } else s
/-- Read: the text, and the error -/
def sreadV (S : SiteS) (s : SesS) (key : Int) : ByteArray × Int :=
  if s.opn = false then (⟨#[]⟩, 6) else match ownW s.ws key with
    | some x => if x.gone = true then (⟨#[]⟩, 8) else (x.data, 0)
    | none => ((readS S key s.s0 s.s1 s.s2 s.s3).1.data, (readS S key s.s0 s.s1 s.s2 s.s3).2)
/-- Write -/
def wriE (s : SesS) (x : Wr) : Int :=
  if s.opn = false then 6 else if x.key < 0 ∨ 8 ≤ x.key then 2 else if 12 < x.data.size then 4 else if x.gone = true ∧ x.data.size ≠ 0 then 1 else if ownW s.ws x.key = none ∧ 5 ≤ (allW s.ws).length then 12 else 0
def wriS (s : SesS) (x : Wr) : SesS := if wriE s x = 0 then { s with ws := s.ws ++ [x] } else s
/-- it ends -/
def endS (s : SesS) : SesS := ⟨maxZ s.p0 s.s0, maxZ s.p1 s.s1, maxZ s.p2 s.s2, maxZ s.p3 s.s3, false, 0, 0, 0, 0, []⟩
def aboE (s : SesS) : Int := if s.opn = false then 6 else 0
def aboS (s : SesS) : SesS := if s.opn = false then s else endS s
/-- Commit: the error, the transaction, the session and the site behind it -/
def scomE (S : SiteS) (s : SesS) (now : Int) : Int := if s.opn = false then 6 else if (allW s.ws).length = 0 then 0 else comE S now s.s0 s.s1 s.s2 s.s3 (allW s.ws)
def scomT (S : SiteS) (s : SesS) (now : Int) : TxP := if s.opn = false ∨ (allW s.ws).length = 0 then ⟨0, 0, 0, 0, 0, 0, 0, 0, []⟩ else comT S now s.s0 s.s1 s.s2 s.s3 (allW s.ws)
def atLeast (site seq : Int) (s : SesS) : SesS := { s with p0 := if site = 0 then maxZ s.p0 seq else s.p0, p1 := if site = 1 then maxZ s.p1 seq else s.p1, p2 := if site = 2 then maxZ s.p2 seq else s.p2, p3 := if site = 3 then maxZ s.p3 seq else s.p3 }
def scomSes (S : SiteS) (s : SesS) (now : Int) : SesS := if scomE S s now ≠ 0 then s else if (allW s.ws).length = 0 then endS s else atLeast (scomT S s now).site (scomT S s now).seq (endS s)
def scomS (S : SiteS) (s : SesS) (now : Int) : SiteS := if s.opn = false ∨ (allW s.ws).length = 0 then S else comS S now s.s0 s.s1 s.s2 s.s3 (allW s.ws)
theorem InvS.scom {S : SiteS} {s : SesS} {now : Int} (h : InvS S) : InvS (scomS S s now) := by
  unfold scomS comS
  split
  · exact h
  · split
    · rename_i g
      exact (commitT_ok h g).1
    · exact h

end Go.Proofs.YtpncedpfoakfkaaGreatDoor

namespace Go.Proofs.YtpncedpfoakfkaaGreatDoor
open Go.RowKit Go.Maps

def wrV (x : Wr) : Value := .agg #[.int .i64 x.key, .string x.data, .bool x.gone]
def wrV0 : Value := .agg #[.int .i64 0, .string ⟨#[]⟩, .bool false]
theorem wr_zero (w : World) : (zeroValue 83).run Tryz.prog w = .ok wrV0 w := by kernel_rfl
theorem intLaw : Keyed Tryz.prog 3 := int_keyed Tryz.underlying3
theorem intKey {k : Int} (h : wfI k) : keyOf Tryz.prog 3 (.int .i64 k) = some (.int .i64 k) := by
  unfold keyOf
  rw [Tryz.underlying3]
  simp [mapKey, wf_i h, Tryz.underlying3]
theorem int_key (k : Int) : WideAt.IsKeyLit (.int .i64 k) := trivial

/-- the map's datum holds the last write of each key -/
structure WMapIs (D : DataW Value) (l : List Wr) : Prop where
  size : Maps.size D = (allW l).length
  has : ∀ k x, ownW l k = some x → Maps.has D (.int .i64 k) = true ∧ ∀ z, D.atKey (.int .i64 k) z = .held (wrV x)
  no : ∀ k, ownW l k = none → Maps.has D (.int .i64 k) = false ∧ ∀ z, D.atKey (.int .i64 k) z = z
/-- the block of such a map -/
def WMap (w : World) (bm : Nat) (l : List Wr) : Prop := (∀ x ∈ l, 0 ≤ x.key ∧ x.key < 8) ∧ ∃ D, w.ownsMap Tryz.prog 3 heldR bm (allW l).length D ∧ WMapIs D l
theorem WMap.lt {w : World} {bm : Nat} {l : List Wr} (h : WMap w bm l) : bm < w.heap.size := by
  obtain ⟨_, D, h, _⟩ := h
  exact h.lt
theorem WMap.kept {w w' : World} {bm : Nat} {l : List Wr} (h : WMap w bm l) (e : w'.heap[bm]? = w.heap[bm]?) : WMap w' bm l := by
  obtain ⟨h1, D, ⟨es, clock, hb, r⟩, h4⟩ := h
  exact ⟨h1, D, ⟨es, clock, by rw [e]; exact hb, r⟩, h4⟩
theorem allW_nil : allW [] = [] := rfl
theorem WMap.made (w : World) : WMap (w.alloc (.map #[] 0)) w.heap.size [] :=
  ⟨by simp, _, World.ownsMap_made w _ _ _, ⟨rfl, fun k x h => by simp [ownW] at h, fun _ _ => ⟨rfl, fun _ => rfl⟩⟩⟩
theorem allW_snoc_len (l : List Wr) (x : Wr) (h0 : 0 ≤ x.key) (h8 : x.key < 8) : (allW (l ++ [x])).length = if ownW l x.key = none then (allW l).length + 1 else (allW l).length := by
  have := allTo_snoc_len l x 8 h0
  show (allTo (l ++ [x]) 8).length = if ownW l x.key = none then (allTo l 8).length + 1 else (allTo l 8).length
  rw [this]
  by_cases h : ownW l x.key = none
  · rw [if_pos ⟨by omega, h⟩, if_pos h]
  · rw [if_neg (fun e => h e.2), if_neg h]
    omega
theorem wmapIs_put {D : DataW Value} {l : List Wr} (hD : Tidy D) (h : WMapIs D l) {x : Wr} (h0 : 0 ≤ x.key) (h8 : x.key < 8) : WMapIs (D.put (.int .i64 x.key) (.held (wrV x))) (l ++ [x]) := by
  refine ⟨?_, fun k y hy => ?_, fun k hk => ?_⟩
  · rw [size_put hD, allW_snoc_len l x h0 h8, h.size]
    cases ho : ownW l x.key with
    | none => rw [(h.no _ ho).1]; simp
    | some y => rw [(h.has _ _ ho).1]; simp
  · rw [ownW_snoc] at hy
    by_cases e : x.key = k
    · rw [if_pos e] at hy
      injection hy with hy
      subst hy
      subst e
      exact ⟨has_put_same hD.isMap (int_key _) _, fun z => atKey_put_same hD.isMap (int_key _) _ z⟩
    · rw [if_neg e] at hy
      have hne : (Lit.int .i64 k) ≠ .int .i64 x.key := fun e2 => e (by injection e2 with _ e2; exact e2.symm)
      exact ⟨by rw [has_put_other hne]; exact (h.has k y hy).1, fun z => by rw [atKey_put_other hne]; exact (h.has k y hy).2 z⟩
  · rw [ownW_snoc] at hk
    by_cases e : x.key = k
    · rw [if_pos e] at hk; cases hk
    · rw [if_neg e] at hk
      have hne : (Lit.int .i64 k) ≠ .int .i64 x.key := fun e2 => e (by injection e2 with _ e2; exact e2.symm)
      exact ⟨by rw [has_put_other hne]; exact (h.no k hk).1, fun z => by rw [atKey_put_other hne]; exact (h.no k hk).2 z⟩
/-- a write is put -/
theorem WMap.put {w w' : World} {bm n : Nat} {l : List Wr} {D : DataW Value} {x : Wr} (h1 : ∀ x ∈ l, 0 ≤ x.key ∧ x.key < 8) (h3 : w.ownsMap Tryz.prog 3 heldR bm (allW l).length D) (h4 : WMapIs D l) (h0 : 0 ≤ x.key) (h8 : x.key < 8)
    (h5 : w'.ownsMap Tryz.prog 3 heldR bm n (D.put (.int .i64 x.key) (.held (wrV x)))) : WMap w' bm (l ++ [x]) := by
  have hd := wmapIs_put (h3.tidy intLaw) h4 h0 h8
  refine ⟨fun y hy => ?_, _, ?_, hd⟩
  · rcases List.mem_append.1 hy with h | h
    · exact h1 y h
    · rw [List.mem_singleton.1 h]; exact ⟨h0, h8⟩
  · obtain ⟨es, clock, e1, e2, e3, e4⟩ := h5
    refine ⟨es, clock, e1, e2, ?_, e4⟩
    have := hd.size
    rw [e4] at this
    simp [Maps.size, length_sorted] at this
    omega

end Go.Proofs.YtpncedpfoakfkaaGreatDoor

namespace Go.Proofs.YtpncedpfoakfkaaGreatDoor
open Go.RowKit

theorem ownW_at {l : List Wr} {i : Nat} {x : Wr} {key : Int} (h : l[i]? = some x) (hk : x.key = key) (hn : ∀ j y, i < j → l[j]? = some y → y.key ≠ key) : ownW l key = some x := by
  have hl : i < l.length := (List.getElem?_eq_some_iff.1 h).1
  have e : l = l.take i ++ (x :: l.drop (i + 1)) := by
    have h1 := List.take_append_drop i l
    rw [List.drop_eq_getElem_cons hl] at h1
    have h2 : l[i] = x := (List.getElem?_eq_some_iff.1 h).2
    rw [h2] at h1
    exact h1.symm
  have hd : (l.drop (i + 1)).reverse.find? (fun x => decide (x.key = key)) = none := by
    rw [List.find?_eq_none]
    intro y hy
    obtain ⟨j, hj⟩ := List.getElem?_of_mem (List.mem_reverse.1 hy)
    rw [List.getElem?_drop] at hj
    have := hn (i + 1 + j) y (by omega) hj
    simpa using this
  unfold ownW
  rw [e, List.reverse_append, List.reverse_cons, List.append_assoc, List.find?_append, hd]
  simp [hk]
theorem ownW_none {l : List Wr} {key : Int} (hn : ∀ (j : Nat) (y : Wr), l[j]? = some y → y.key ≠ key) : ownW l key = none := by
  unfold ownW
  rw [List.find?_eq_none]
  intro y hy
  obtain ⟨j, hj⟩ := List.getElem?_of_mem (List.mem_reverse.1 hy)
  have := hn j y hj
  simpa using this
/-- that write, or none -/
def ownOr (l : List Wr) (key : Int) : Wr := (ownW l key).getD ⟨0, ⟨#[]⟩, false⟩
/-- its cells -/
def rsesC (s : SesS) (wv : Value) : List Value := [.int .i64 s.p0, .int .i64 s.p1, .int .i64 s.p2, .int .i64 s.p3, .int .i64 s.s0, .int .i64 s.s1, .int .i64 s.s2, .int .i64 s.s3, .bool s.opn, wv]
structure RSes (w : World) (b : Nat) (wv : Value) (s : SesS) : Prop where
  box : RowL w b (rsesC s wv)
  row : w.ownsRow 0 83 3 wv s.ws.length (wrsC s.ws)
  nb : wv.ownBlock ≠ some b
theorem RSes.later {w w' : World} {b : Nat} {wv : Value} {s : SesS} (h : RSes w b wv s) (hb : Below w.heap.size w w') : RSes w' b wv s := ⟨h.box.later hb, own_keptN h.row (fun k e => hb.block k (h.row.lt k e).2), h.nb⟩
theorem own_results {tmps : Array Value} {w : World} {g : Nat} {x : Wr} {v : Bool} (h : RowL w g [.int .i64 x.key, .string x.data, .bool x.gone]) (h2 : tmps[4]? = some (.pointer (some ⟨g, 0, none⟩))) (h3 : tmps[5]? = some (.bool v)) :
    (results Tryz.f73 tmps).run Tryz.prog w = .ok (.tuple #[wrV x, .bool v]) w := by
  have z0 := h.cell 0 _ rfl
  have z1 := h.cell 1 _ rfl
  have z2 := h.cell 2 _ rfl
  simp [results, Tryz.results73, go_sem, h2, h3, z0, z1, z2, wrV]

set_option maxRecDepth 100000 in
set_option maxHeartbeats 4000000 in
theorem refOwn_any {b : Nat} {wv : Value} {s : SesS} (key : Int) (w : World) (h : RSes w b wv s) :
    Calls Tryz.prog 73 #[.pointer (some ⟨b, 0, none⟩), .int .i64 key] w fun e w' => e = .returned (.tuple #[wrV (ownOr s.ws key), .bool (ownW s.ws key).isSome]) ∧ Below w.heap.size w w' := by
  have hb := boxed (Below.refl _ w) (.cells #[.int .i64 0, .string ⟨#[]⟩, .bool false] 83)
  have RW := RowL.new (w := w) (T := 83) [.int .i64 0, .string ⟨#[]⟩, .bool false] rfl
  change RowL (w.alloc (.cells #[.int .i64 0, .string ⟨#[]⟩, .bool false] 83)) w.heap.size [.int .i64 0, .string ⟨#[]⟩, .bool false] at RW
  have H1 := h.later hb
  obtain ⟨a, cap, rfl, hW⟩ := wrIn_own H1.row
  have c9 := H1.box.cell 9 _ rfl
  have hl := hW.len
  have hc := hW.cap
  have HW : Hid (WrIn (w.alloc (.cells #[.int .i64 0, .string ⟨#[]⟩, .bool false] 83)) a cap s.ws) := hW
  have HR : Hid (∀ x : Wr, RowL (w.alloc (.cells #[.int .i64 x.key, .string x.data, .bool x.gone] 83)) w.heap.size [.int .i64 x.key, .string x.data, .bool x.gone]) := fun x => RowL.new (w := w) (T := 83) [.int .i64 x.key, .string x.data, .bool x.gone] rfl
  have HB : Hid (∀ x : Wr, Below w.heap.size w (w.alloc (.cells #[.int .i64 x.key, .string x.data, .bool x.gone] 83))) := fun x => boxed (Below.refl _ w) _
  have r0 := RW.cell 0 _ rfl
  have r1 := RW.cell 1 _ rfl
  have r2 := RW.cell 2 _ rfl
  have f0 := RW.free 0 (by simp)
  have f1 := RW.free 1 (by simp)
  have f2 := RW.free 2 (by simp)
  clear h H1 hW RW hb
  go_enter Tryz.func73, Tryz.ntmps73
  go_wp2_with fail
  go_loopw [6] (fun iv wr => ∃ (k : Nat) (z : Int), k ≤ s.ws.length ∧ z = k - 1 ∧ iv = .int .i64 z ∧ Hid (∀ j y, k ≤ j → s.ws[j]? = some y → y.key ≠ key) ∧ wr = w.alloc (.cells #[.int .i64 0, .string ⟨#[]⟩, .bool false] 83)) (fun i _ => (intOf i + 1).toNat)
  case atStart => exact ⟨s.ws.length, s.ws.length - 1, Nat.le_refl _, rfl, by go_num, (fun j y hj hy => by rw [List.getElem?_eq_none hj] at hy; cases hy), rfl⟩
  case round =>
    obtain ⟨k, z, hk, hz, rfl, HN, rfl⟩ := hrel
    have HZ : Hid (z = k - 1) := hz
    cases k with
    | zero =>
      have g1 : ¬ 0 ≤ z := by omega
      have HO : Hid (ownW s.ws key = none) := ownW_none (fun j y hy => HN.out j y (by omega) hy)
      clear hz
      go_wp2_with fail
      refine bodyPost_ret (own_results (HR.out ⟨0, ⟨#[]⟩, false⟩) rfl rfl) rfl ⟨?_, HB.out ⟨0, ⟨#[]⟩, false⟩⟩
      rw [HO.out, show ownOr s.ws key = ⟨0, ⟨#[]⟩, false⟩ by unfold ownOr; rw [HO.out]; rfl]
      rfl
    | succ k =>
      have g1 : 0 ≤ z := by omega
      have g2 : z.toNat = k := by omega
      have g3 : z < (s.ws.length : Int) := by omega
      have hlt : k < s.ws.length := by omega
      clear hz
      obtain ⟨ab, off, rfl, hcc⟩ : ∃ ab off, a = some ⟨ab, off, none⟩ ∧ WrCells (w.alloc (.cells #[.int .i64 0, .string ⟨#[]⟩, .bool false] 83)) ab off s.ws := by
        rcases HW.out.held with h0 | h0
        · rw [h0] at hlt; simp at hlt
        · exact h0
      obtain ⟨⟨xk, xd, xg⟩, hx⟩ : ∃ x, s.ws[k]? = some x := ⟨s.ws[k], List.getElem?_eq_getElem hlt⟩
      have hwx : wrAt s.ws k = ⟨xk, xd, xg⟩ := by unfold wrAt; rw [List.getD_eq_getElem?_getD, hx]; rfl
      have hc3 := hcc k hlt
      rw [hwx] at hc3
      obtain ⟨x0, x1, x2⟩ := hc3
      have HX : Hid (s.ws[k]? = some ⟨xk, xd, xg⟩) := hx
      clear hcc hwx hx
      by_cases hq : xk = key
      · have q1 : (xk == key) = true := by simp [hq]
        have HO : Hid (ownW s.ws key = some ⟨xk, xd, xg⟩) := ownW_at HX.out hq (fun j y hj hy => HN.out j y (by omega) hy)
        clear hq
        go_wp2_with fail
        refine bodyPost_ret (own_results (HR.out ⟨xk, xd, xg⟩) rfl rfl) rfl ⟨?_, HB.out ⟨xk, xd, xg⟩⟩
        rw [HO.out, show ownOr s.ws key = ⟨xk, xd, xg⟩ by unfold ownOr; rw [HO.out]; rfl]
        rfl
      · have q1 : (xk == key) = false := by simp [hq]
        have HQ : Hid (¬ xk = key) := hq
        clear hq
        go_wp2_with fail
        go_roundw
        case rel => exact ⟨k, z - 1, by omega, by have := HZ.out; omega, by go_num, (fun j y hj hy => by
          rcases Nat.lt_or_ge k j with h1 | h1
          · exact HN.out j y h1 hy
          · have e : j = k := by omega
            subst e
            rw [HX.out] at hy
            injection hy with hy
            rw [← hy]
            exact HQ.out), trivial⟩
        case measure => simp [intOf]; omega

end Go.Proofs.YtpncedpfoakfkaaGreatDoor

namespace Go.Proofs.YtpncedpfoakfkaaGreatDoor
open Go.RowKit Go.Maps

theorem PS.mem {w : World} {b : Nat} {G : Nat → Prop} {S : SiteS} (h : PS w b G S) : ∃ lv bm F log waits, PMem w b lv bm F S log waits ∧ log.length = S.log.length ∧ waits.length = S.waits.length := by
  obtain ⟨lv, bm, F, log, waits, h, h1, h2, _⟩ := h
  exact ⟨lv, bm, F, log, waits, h, by rw [← h1]; simp, by rw [← h2]; simp⟩
theorem InvS.many {S : SiteS} (h : InvS S) : S.l.length ≤ 1000 := by
  have := h.len
  have := h.log
  omega
set_option maxRecDepth 100000 in
set_option maxHeartbeats 4000000 in
theorem applied_any {b : Nat} {G : Nat → Prop} {S : SiteS} (w : World) (h : PS w b G S) :
    Calls Tryz.prog 20 #[.pointer (some ⟨b, 0, none⟩)] w fun e w' => e = .returned (.agg #[.int .i64 S.a0, .int .i64 S.a1, .int .i64 S.a2, .int .i64 S.a3]) ∧ Below w.heap.size w w' := by
  obtain ⟨lv, bm, F, log, waits, PM, _, _⟩ := h.mem
  have k1 := PM.box.cell 1 _ rfl
  have k2 := PM.box.cell 2 _ rfl
  have k3 := PM.box.cell 3 _ rfl
  have k4 := PM.box.cell 4 _ rfl
  have hlt := PM.box.lt
  clear PM h
  go_enter Tryz.func20, Tryz.ntmps20
  go_wp2_with fail
  exact bodyPost_ret (v := .agg #[.int .i64 S.a0, .int .i64 S.a1, .int .i64 S.a2, .int .i64 S.a3]) (by simp [results, Tryz.results20, go_sem]) rfl ⟨rfl, boxed (Below.refl _ _) _⟩

end Go.Proofs.YtpncedpfoakfkaaGreatDoor

namespace Go.Proofs.YtpncedpfoakfkaaGreatDoor
open Go.RowKit

/-- its cells -/
def psesC (s : SesS) (mv : Value) : List Value := [.int .i64 s.p0, .int .i64 s.p1, .int .i64 s.p2, .int .i64 s.p3, .bool s.opn, .int .i64 s.s0, .int .i64 s.s1, .int .i64 s.s2, .int .i64 s.s3, mv]
/-- where its writes lie: nowhere, or in a map of their own -/
def MapAt (w : World) (b : Nat) (s : SesS) (mv : Value) (G : Nat → Prop) : Prop :=
  (s.opn = false ∧ mv = .map none ∧ s.ws = [] ∧ ∀ k, G k ↔ k = b) ∨ (s.opn = true ∧ ∃ bm, mv = .map (some bm) ∧ bm ≠ b ∧ WMap w bm s.ws ∧ ∀ k, G k ↔ (k = b ∨ k = bm))
/-- a session of the program in memory: all that it holds lies in blocks of G -/
def PSe (w : World) (b : Nat) (G : Nat → Prop) (s : SesS) : Prop := ∃ mv, RowL w b (psesC s mv) ∧ MapAt w b s mv G
theorem PSe.lt {w : World} {b : Nat} {G : Nat → Prop} {s : SesS} (h : PSe w b G s) : ∀ k, G k → k < w.heap.size := by
  obtain ⟨mv, h1, ⟨_, _, _, hG⟩ | ⟨_, bm, _, _, hM, hG⟩⟩ := h
  · intro k hk
    rw [(hG k).1 hk]
    exact h1.lt
  · intro k hk
    rcases (hG k).1 hk with e | e
    · rw [e]; exact h1.lt
    · rw [e]; exact hM.lt
theorem PSe.own {w : World} {b : Nat} {G : Nat → Prop} {s : SesS} (h : PSe w b G s) : G b := by
  obtain ⟨mv, h1, ⟨_, _, _, hG⟩ | ⟨_, bm, _, _, hM, hG⟩⟩ := h
  · exact (hG b).2 rfl
  · exact (hG b).2 (.inl rfl)
theorem PSe.kept {w w' : World} {b : Nat} {G : Nat → Prop} {s : SesS} (h : PSe w b G s) (hk : ∀ k, G k → w'.heap[k]? = w.heap[k]?) (hs : w.heap.size ≤ w'.heap.size) : PSe w' b G s := by
  have ho := h.own
  obtain ⟨mv, h1, ⟨a, b1, c, hG⟩ | ⟨a, bm, b1, c, hM, hG⟩⟩ := h
  · exact ⟨mv, h1.kept (hk b ho) hs, .inl ⟨a, b1, c, hG⟩⟩
  · exact ⟨mv, h1.kept (hk b ho) hs, .inr ⟨a, bm, b1, c, hM.kept (hk bm ((hG bm).2 (.inr rfl))), hG⟩⟩
theorem PSe.later {w w' : World} {b : Nat} {G : Nat → Prop} {s : SesS} (h : PSe w b G s) (hb : Below w.heap.size w w') : PSe w' b G s := h.kept (fun k hk => hb.block k (h.lt k hk)) hb.size
def sesP (b : Nat) (s : SesS) : Part := ⟨fun w G => PSe w b G s, fun _ _ h => h.lt, fun _ _ _ h => h.kept⟩
/-- what is left of it -/
def PSPo (w : World) (b : Nat) (G : Nat → Prop) (s' : SesS) (w' : World) : Prop := ∃ G', PSe w' b G' s' ∧ (∀ k, G' k → G k ∨ w.heap.size ≤ k) ∧ Touch G w w'
theorem PSPo.same {w w' : World} {b : Nat} {G : Nat → Prop} {s : SesS} (h : PSe w b G s) (hb : Below w.heap.size w w') : PSPo w b G s w' := ⟨G, h.later hb, fun _ hk => .inl hk, Touch.ofBelow hb⟩
theorem PSPo.trans {w w1 w2 : World} {b : Nat} {G G1 : Nat → Prop} {s' : SesS} (hG : ∀ k, G1 k → G k ∨ w.heap.size ≤ k) (ht : Touch G w w1) (h : PSPo w1 b G1 s' w2) : PSPo w b G s' w2 := by
  obtain ⟨G', h1, h2, h3⟩ := h
  refine ⟨G', h1, fun k hk => ?_, ht.more h3 hG⟩
  rcases h2 k hk with h4 | h4
  · exact hG k h4
  · exact .inr (by have := ht.size; omega)
/-- a session that is new -/
theorem pse_new {w : World} (T : TypeId) : PSe (w.alloc (.cells (psesC newSes (.map none)).toArray T)) w.heap.size (fun k => k = w.heap.size) newSes :=
  ⟨.map none, RowL.new (w := w) (T := T) _ rfl, .inl ⟨rfl, rfl, rfl, fun _ => Iff.rfl⟩⟩
/-- it ends: the box alone is written -/
theorem end_box {w w2 : World} {b : Nat} {G : Nat → Prop} {mv : Value} {s : SesS} (hG : G b) (hb : Below w.heap.size w w2) (B : RowL w2 b (psesC s mv)) (x0 x1 x2 x3 : Int) :
    PSPo w b G ⟨x0, x1, x2, x3, false, 0, 0, 0, 0, []⟩ ((((((((((w2.setCell ⟨b, 0, none⟩ (.int .i64 x0)).setCell ⟨b, 1, none⟩ (.int .i64 x1)).setCell ⟨b, 2, none⟩ (.int .i64 x2)).setCell ⟨b, 3, none⟩ (.int .i64 x3)).setCell ⟨b, 4, none⟩ (.bool false)).setCell ⟨b, 5, none⟩ (.int .i64 0)).setCell ⟨b, 6, none⟩ (.int .i64 0)).setCell ⟨b, 7, none⟩ (.int .i64 0)).setCell ⟨b, 8, none⟩ (.int .i64 0)).setCell ⟨b, 9, none⟩ (.map none)) := by
  have R1 := B.set 0 (.int .i64 x0) (by simp [psesC])
  have R2 := R1.set 1 (.int .i64 x1) (by simp [psesC])
  have R3 := R2.set 2 (.int .i64 x2) (by simp [psesC])
  have R4 := R3.set 3 (.int .i64 x3) (by simp [psesC])
  have R5 := R4.set 4 (.bool false) (by simp [psesC])
  have R6 := R5.set 5 (.int .i64 0) (by simp [psesC])
  have R7 := R6.set 6 (.int .i64 0) (by simp [psesC])
  have R8 := R7.set 7 (.int .i64 0) (by simp [psesC])
  have R9 := R8.set 8 (.int .i64 0) (by simp [psesC])
  have R10 := R9.set 9 (.map none) (by simp [psesC])
  refine ⟨fun k => k = b, ⟨.map none, R10, .inl ⟨rfl, rfl, rfl, fun _ => Iff.rfl⟩⟩, fun k hk => .inl (by rw [hk]; exact hG), ?_⟩
  have T := Touch.ofBelow (F := G) hb
  refine T.trans ?_
  exact (((((((((Touch.setCell _ _ _ hG).trans (Touch.setCell _ _ _ hG)).trans (Touch.setCell _ _ _ hG)).trans (Touch.setCell _ _ _ hG)).trans (Touch.setCell _ _ _ hG)).trans (Touch.setCell _ _ _ hG)).trans (Touch.setCell _ _ _ hG)).trans (Touch.setCell _ _ _ hG)).trans (Touch.setCell _ _ _ hG)).trans (Touch.setCell _ _ _ hG)
/-- it begins -/
theorem pbeg_box {w w2 : World} {b bm : Nat} {G : Nat → Prop} {mv : Value} {s : SesS} (hG : G b) (hb : Below w.heap.size w w2) (B : RowL w2 b (psesC s mv)) (hM : WMap w2 bm []) (hm : w.heap.size ≤ bm) (hbl : b < w.heap.size) (a0 a1 a2 a3 : Int) :
    PSPo w b G { s with opn := true, s0 := a0, s1 := a1, s2 := a2, s3 := a3, ws := [] } ((((((w2.setCell ⟨b, 4, none⟩ (.bool true)).setCell ⟨b, 5, none⟩ (.int .i64 a0)).setCell ⟨b, 6, none⟩ (.int .i64 a1)).setCell ⟨b, 7, none⟩ (.int .i64 a2)).setCell ⟨b, 8, none⟩ (.int .i64 a3)).setCell ⟨b, 9, none⟩ (.map (some bm))) := by
  have R5 := B.set 4 (.bool true) (by simp [psesC])
  have R6 := R5.set 5 (.int .i64 a0) (by simp [psesC])
  have R7 := R6.set 6 (.int .i64 a1) (by simp [psesC])
  have R8 := R7.set 7 (.int .i64 a2) (by simp [psesC])
  have R9 := R8.set 8 (.int .i64 a3) (by simp [psesC])
  have R10 := R9.set 9 (.map (some bm)) (by simp [psesC])
  have hne : bm ≠ b := by omega
  refine ⟨fun k => k = b ∨ k = bm, ⟨.map (some bm), R10, .inr ⟨rfl, bm, rfl, hne, hM.kept ?_, fun _ => Iff.rfl⟩⟩, fun k hk => ?_, ?_⟩
  · rw [Below.heap_setCell _ _ _ _ hne, Below.heap_setCell _ _ _ _ hne, Below.heap_setCell _ _ _ _ hne, Below.heap_setCell _ _ _ _ hne, Below.heap_setCell _ _ _ _ hne, Below.heap_setCell _ _ _ _ hne]
  · rcases hk with h | h
    · exact .inl (by rw [h]; exact hG)
    · exact .inr (by omega)
  · have T := Touch.ofBelow (F := G) hb
    refine T.trans ?_
    exact (((((Touch.setCell _ _ _ hG).trans (Touch.setCell _ _ _ hG)).trans (Touch.setCell _ _ _ hG)).trans (Touch.setCell _ _ _ hG)).trans (Touch.setCell _ _ _ hG)).trans (Touch.setCell _ _ _ hG)
/-- one cell of what it has seen -/
theorem past_box {w w2 : World} {b : Nat} {G G1 : Nat → Prop} {s : SesS} (h : PSe w2 b G1 s) (hG : ∀ k, G1 k → G k ∨ w.heap.size ≤ k) (hGb : G b) (ht : Touch G w w2) (n : Nat) (hn : n < 4) (x : Int) :
    PSPo w b G { s with p0 := if n = 0 then x else s.p0, p1 := if n = 1 then x else s.p1, p2 := if n = 2 then x else s.p2, p3 := if n = 3 then x else s.p3 } (w2.setCell ⟨b, n, none⟩ (.int .i64 x)) := by
  obtain ⟨mv, B, hm⟩ := h
  have R := B.set n (.int .i64 x) (by simp [psesC]; omega)
  refine ⟨G1, ⟨mv, ?_, ?_⟩, hG, ht.trans (Touch.setCell _ _ _ hGb)⟩
  · match n, hn with
    | 0, _ => exact R
    | 1, _ => exact R
    | 2, _ => exact R
    | 3, _ => exact R
  · rcases hm with h1 | ⟨a, bm, b1, c, hM, hG2⟩
    · exact .inl h1
    · exact .inr ⟨a, bm, b1, c, hM.kept (Below.heap_setCell _ _ _ _ c), hG2⟩

end Go.Proofs.YtpncedpfoakfkaaGreatDoor

namespace Go.Proofs.YtpncedpfoakfkaaGreatDoor
open Go.RowKit

set_option maxRecDepth 100000 in
set_option maxHeartbeats 4000000 in
theorem refAll_any {b : Nat} {wv : Value} {s : SesS} (w : World) (h : RSes w b wv s) :
    Calls Tryz.prog 77 #[.pointer (some ⟨b, 0, none⟩)] w fun e w' => ∃ v, e = .returned v ∧ w'.ownsRow w.heap.size 83 3 v (allW s.ws).length (wrsC (allW s.ws)) ∧ Below w.heap.size w w' := by
  have HS : Hid (RSes w b wv s) := h
  clear h
  obtain ⟨i0, hi, hz0, hz1, hz2⟩ := info_parts wrInfo
  go_enter Tryz.func77, Tryz.ntmps77
  go_wp2_with fail
  go_loopw [3, 7] (fun ov iv wr => ∃ (k : Nat) (z : Int), k ≤ 8 ∧ z = k ∧ iv = .int .i64 z ∧ wr.ownsRow w.heap.size 83 3 ov (allTo s.ws k).length (wrsC (allTo s.ws k)) ∧ Below w.heap.size w wr) (fun _ i _ => 8 - (intOf i).toNat)
  case atStart => exact ⟨0, 0, by omega, rfl, rfl, World.ownsRow_nil _ _ _ _, Below.refl _ _⟩
  case round =>
    obtain ⟨k, z, hk, hz, rfl, own, hb⟩ := hrel
    have HZ : Hid (z = k) := hz
    have hal := allTo_len s.ws k
    by_cases hlt : k < 8
    · have h1 : z < 8 := by omega
      have h0 : 0 ≤ z := by omega
      have OW := refOwn_any z wr (HS.out.later hb)
      have HNX : Hid (allTo s.ws (k + 1) = allTo s.ws k ++ (match ownW s.ws (k : Int) with | some x => [x] | none => [])) := allTo_next s.ws k
      rw [hz] at OW
      cases ho : ownW s.ws (k : Int) with
      | none =>
        have e1 : ownOr s.ws (k : Int) = ⟨0, ⟨#[]⟩, false⟩ := by unfold ownOr; rw [ho]; rfl
        have HN : Hid (allTo s.ws (k + 1) = allTo s.ws k) := by show _ = _; rw [HNX.out, ho]; simp
        rw [ho, e1] at OW
        rw [← hz] at OW
        clear hz ho e1 HNX
        go_wp2_with fail
        refine OW.mono ?_
        rintro e w1 ⟨rfl, hb1⟩
        rw [show wrV ⟨0, ⟨#[]⟩, false⟩ = .agg #[.int .i64 0, .string ⟨#[]⟩, .bool false] from rfl, show (none : Option Wr).isSome = false from rfl]
        have ownX := (own_keptN own (fun k e => hb1.block k (own.lt k e).2)).alloc (.cells #[.int .i64 0, .string ⟨#[]⟩, .bool false] 83)
        have hbX := boxed (behind hb hb1) (.cells #[.int .i64 0, .string ⟨#[]⟩, .bool false] 83)
        clear OW own hb hb1
        go_wp2_with fail
        go_roundw
        case rel => exact ⟨k + 1, z + 1, by omega, by have := HZ.out; omega, by go_num, by rw [HN.out]; exact ownX, hbX⟩
        case measure => simp [intOf]; have := HZ.out; omega
      | some x =>
        obtain ⟨xk, xd, xg⟩ := x
        have e1 : ownOr s.ws (k : Int) = ⟨xk, xd, xg⟩ := by unfold ownOr; rw [ho]; rfl
        have HN : Hid (allTo s.ws (k + 1) = allTo s.ws k ++ [⟨xk, xd, xg⟩]) := by show _ = _; rw [HNX.out, ho]
        rw [ho, e1] at OW
        rw [← hz] at OW
        clear hz ho e1 HNX
        go_wp2_with fail
        refine OW.mono ?_
        rintro e w1 ⟨rfl, hb1⟩
        rw [show wrV ⟨xk, xd, xg⟩ = .agg #[.int .i64 xk, .string xd, .bool xg] from rfl, show (some (⟨xk, xd, xg⟩ : Wr)).isSome = true from rfl]
        have own1 := (own_keptN own (fun k e => hb1.block k (own.lt k e).2)).alloc (.cells #[.int .i64 xk, .string xd, .bool xg] 83)
        have RY := RowL.new (w := w1) (T := 83) [.int .i64 xk, .string xd, .bool xg] rfl
        change RowL (w1.alloc (.cells #[.int .i64 xk, .string xd, .bool xg] 83)) w1.heap.size [.int .i64 xk, .string xd, .bool xg] at RY
        have hb2 := boxed (behind hb hb1) (.cells #[.int .i64 xk, .string xd, .bool xg] 83)
        obtain ⟨W1, hW1⟩ : ∃ W1, w1.alloc (.cells #[.int .i64 xk, .string xd, .bool xg] 83) = W1 := ⟨_, rfl⟩
        rw [hW1] at own1 RY hb2
        have y0 := RY.cell 0 _ rfl
        have y1 := RY.cell 1 _ rfl
        have y2 := RY.cell 2 _ rfl
        clear OW own hb hb1
        obtain ⟨va, vc, rfl, hWv⟩ := wrIn_own own1
        have hcl := hWv.len
        have hcc := hWv.cap
        clear hWv
        go_wp2_with (first | (rw [hW1]) | (at_builtin; refine wpList_append_lies _ rfl (.tmp 17) (.tmp 19) 42 rfl w.heap.size 83 i0 (.agg #[.int .i64 0, .string ⟨#[]⟩, .bool false]) 3 32 Tryz.underlying42 hi hz0 hz1 hz2 rfl (by decide) (.slice va (allTo s.ws k).length vc) (allTo s.ws k).length (wrsC (allTo s.ws k)) rfl (own1.alloc _) ⟨W1.heap.size, 0, none⟩ 1 1 (wrC ⟨xk, xd, xg⟩) rfl rfl (World.news_of_block (heap_alloc_new W1 (.cells #[.int .i64 xk, .string xd, .bool xg] 83))) (by intro u hu; simp [wrC] at hu; rcases hu with rfl | rfl | rfl <;> rfl) (by decide) (by simp only [maxLen]; omega) (by omega) (by have := hb2.size; simp; omega) _ rfl ?_; intro g9 cap9 wE ownE grE egE ltE))
        have hbE : Below w.heap.size w wE := (boxed hb2 (.cells #[.int .i64 xk, .string xd, .bool xg] 83)).grown grE (by have := hb2.size; simp; omega) (fun j hj => by have := (own1.lt _ hj).1; omega)
        go_roundw
        case rel => exact ⟨k + 1, z + 1, by omega, by have := HZ.out; omega, by go_num, by rw [HN.out, wrsC_snoc, List.length_append]; exact ownE, hbE⟩
        case measure => simp [intOf]; have := HZ.out; omega
    · have h1 : ¬ z < 8 := by omega
      have hkk : k = 8 := by omega
      subst hkk
      go_wp2_with fail
      go_ret
      exact ⟨_, rfl, own, hb⟩

end Go.Proofs.YtpncedpfoakfkaaGreatDoor

namespace Go.Proofs.YtpncedpfoakfkaaGreatDoor
open Go.RowKit

set_option maxRecDepth 100000 in
set_option maxHeartbeats 4000000 in
theorem psnew_any (w : World) : Calls Tryz.prog 31 #[] w fun e w' => e = .returned (.pointer (some ⟨w.heap.size, 0, none⟩)) ∧ PSe w' w.heap.size (fun k => k = w.heap.size) newSes ∧ Below w.heap.size w w' := by
  go_enter Tryz.func31, Tryz.ntmps31
  go_wp2_with fail
  go_ret
  exact ⟨rfl, pse_new _, boxed (Below.refl _ w) _⟩
set_option maxRecDepth 100000 in
set_option maxHeartbeats 4000000 in
theorem popen_any {b : Nat} {G : Nat → Prop} {s : SesS} (w : World) (h : PSe w b G s) :
    Calls Tryz.prog 44 #[.pointer (some ⟨b, 0, none⟩)] w fun e w' => e = .returned (.bool s.opn) ∧ Below w.heap.size w w' := by
  obtain ⟨mv, B, _⟩ := h
  have k4 := B.cell 4 _ rfl
  clear B
  go_enter Tryz.func44, Tryz.ntmps44
  go_wp2_with fail
  go_ret
  exact ⟨rfl, Below.refl _ _⟩
theorem vec_results {f : Func} {tmps : Array Value} {w : World} {b : Nat} {x0 x1 x2 x3 : Int} (hf : f.results = #[.cell 2 32]) (h : RowL w b [.int .i64 x0, .int .i64 x1, .int .i64 x2, .int .i64 x3]) (h2 : tmps[2]? = some (.pointer (some ⟨b, 0, none⟩))) :
    (results f tmps).run Tryz.prog w = .ok (.agg #[.int .i64 x0, .int .i64 x1, .int .i64 x2, .int .i64 x3]) w := by
  have z0 := h.cell 0 _ rfl
  have z1 := h.cell 1 _ rfl
  have z2 := h.cell 2 _ rfl
  have z3 := h.cell 3 _ rfl
  simp [results, hf, go_sem, h2, z0, z1, z2, z3]
set_option maxRecDepth 100000 in
set_option maxHeartbeats 4000000 in
theorem ppast_any {b : Nat} {G : Nat → Prop} {s : SesS} (w : World) (h : PSe w b G s) :
    Calls Tryz.prog 42 #[.pointer (some ⟨b, 0, none⟩)] w fun e w' => e = .returned (.agg #[.int .i64 s.p0, .int .i64 s.p1, .int .i64 s.p2, .int .i64 s.p3]) ∧ Below w.heap.size w w' := by
  obtain ⟨mv, B, _⟩ := h
  have k0 := B.cell 0 _ rfl
  have k1 := B.cell 1 _ rfl
  have k2 := B.cell 2 _ rfl
  have k3 := B.cell 3 _ rfl
  have hlt := B.lt
  clear B
  go_enter Tryz.func42, Tryz.ntmps42
  go_wp2_with fail
  exact bodyPost_ret (vec_results Tryz.results42 (RowL.new (w := w) (T := 32) [.int .i64 s.p0, .int .i64 s.p1, .int .i64 s.p2, .int .i64 s.p3] rfl) rfl) rfl ⟨rfl, boxed (Below.refl _ w) _⟩
set_option maxRecDepth 100000 in
set_option maxHeartbeats 4000000 in
theorem psnap_any {b : Nat} {G : Nat → Prop} {s : SesS} (w : World) (h : PSe w b G s) :
    Calls Tryz.prog 43 #[.pointer (some ⟨b, 0, none⟩)] w fun e w' => e = .returned (.agg #[.int .i64 s.s0, .int .i64 s.s1, .int .i64 s.s2, .int .i64 s.s3]) ∧ Below w.heap.size w w' := by
  obtain ⟨mv, B, _⟩ := h
  have k0 := B.cell 5 _ rfl
  have k1 := B.cell 6 _ rfl
  have k2 := B.cell 7 _ rfl
  have k3 := B.cell 8 _ rfl
  have hlt := B.lt
  clear B
  go_enter Tryz.func43, Tryz.ntmps43
  go_wp2_with fail
  exact bodyPost_ret (vec_results Tryz.results43 (RowL.new (w := w) (T := 32) [.int .i64 s.s0, .int .i64 s.s1, .int .i64 s.s2, .int .i64 s.s3] rfl) rfl) rfl ⟨rfl, boxed (Below.refl _ w) _⟩
set_option maxRecDepth 100000 in
set_option maxHeartbeats 4000000 in
theorem pend_any {b : Nat} {G : Nat → Prop} {s : SesS} (w : World) (h : PSe w b G s) :
    Calls Tryz.prog 78 #[.pointer (some ⟨b, 0, none⟩)] w fun e w' => e = .returned (.tuple #[]) ∧ PSPo w b G (endS s) w' := by
  have hG := h.own
  obtain ⟨mv, B, _⟩ := h
  have HB : Hid (RowL w b (psesC s mv)) := B
  have hbD : Below w.heap.size w w.drew := (Below.refl _ w).drew
  have B1 := B.later hbD
  clear B
  go_enter Tryz.func78, Tryz.ntmps78
  go_wp2_with fail
  have y0 := B1.cell 0 _ rfl
  have y1 := B1.cell 1 _ rfl
  have y2 := B1.cell 2 _ rfl
  have y3 := B1.cell 3 _ rfl
  have y5 := B1.cell 5 _ rfl
  have y6 := B1.cell 6 _ rfl
  have y7 := B1.cell 7 _ rfl
  have y8 := B1.cell 8 _ rfl
  go_region_law (refine step_call rfl 65 #[.agg #[.int .i64 s.p0, .int .i64 s.p1, .int .i64 s.p2, .int .i64 s.p3], .agg #[.int .i64 s.s0, .int .i64 s.s1, .int .i64 s.s2, .int .i64 s.s3]] (by go_simp) (max_any s.p0 s.p1 s.p2 s.p3 s.s0 s.s1 s.s2 s.s3 _) ?_
                 rintro e wa ⟨rfl, hba⟩
                 refine ⟨_, rfl, ?_⟩
                 have hbA := behind hbD hba
                 have B2 := HB.out.later hbA
                 have z0 := B2.cell 0 _ rfl
                 have z1 := B2.cell 1 _ rfl
                 have z2 := B2.cell 2 _ rfl
                 have z3 := B2.cell 3 _ rfl
                 have z4 := B2.cell 4 _ rfl
                 have z5 := B2.cell 5 _ rfl
                 have z6 := B2.cell 6 _ rfl
                 have z7 := B2.cell 7 _ rfl
                 have z8 := B2.cell 8 _ rfl
                 have z9 := B2.cell 9 _ rfl
                 have f0 := B2.free 0 (by simp [psesC])
                 have f1 := B2.free 1 (by simp [psesC])
                 have f2 := B2.free 2 (by simp [psesC])
                 have f3 := B2.free 3 (by simp [psesC])
                 have f4 := B2.free 4 (by simp [psesC])
                 have f5 := B2.free 5 (by simp [psesC])
                 have f6 := B2.free 6 (by simp [psesC])
                 have f7 := B2.free 7 (by simp [psesC])
                 have f8 := B2.free 8 (by simp [psesC])
                 have f9 := B2.free 9 (by simp [psesC]))
  all_goals
    go_wp2_with fail
    go_end0
    exact ⟨rfl, end_box hG hbA B2 _ _ _ _⟩
set_option maxRecDepth 100000 in
set_option maxHeartbeats 4000000 in
theorem pabort_any {b : Nat} {G : Nat → Prop} {s : SesS} (w : World) (h : PSe w b G s) :
    Calls Tryz.prog 40 #[.pointer (some ⟨b, 0, none⟩)] w fun e w' => e = .returned (errV (aboE s)) ∧ PSPo w b G (aboS s) w' := by
  have HS : Hid (PSe w b G s) := h
  obtain ⟨mv, B, _⟩ := h
  have k4 := B.cell 4 _ rfl
  clear B
  cases ho : s.opn
  · rw [ho] at k4
    have HE : Hid (aboE s = 6 ∧ aboS s = s) := ⟨by unfold aboE; rw [ho]; rfl, by unfold aboS; rw [ho]; rfl⟩
    clear ho
    go_enter Tryz.func40, Tryz.ntmps40
    go_wp2_with fail
    go_ret
    refine ⟨by rw [HE.out.1]; rfl, ?_⟩
    rw [HE.out.2]
    exact PSPo.same HS.out (Below.refl _ _)
  · rw [ho] at k4
    have HE : Hid (aboE s = 0 ∧ aboS s = endS s) := ⟨by unfold aboE; rw [ho]; rfl, by unfold aboS; rw [ho]; rfl⟩
    clear ho
    have EN := pend_any w HS.out
    go_enter Tryz.func40, Tryz.ntmps40
    go_wp2_with fail
    refine EN.mono ?_
    rintro e w1 ⟨rfl, hp⟩
    go_wp2_with fail
    go_ret
    refine ⟨by rw [HE.out.1]; rfl, ?_⟩
    rw [HE.out.2]
    exact hp
set_option maxRecDepth 100000 in
set_option maxHeartbeats 4000000 in
theorem pbegin_any {b bx : Nat} {G Gx : Nat → Prop} {s : SesS} {S : SiteS} (w : World) (h : PSe w b G s) (hS : PS w bx Gx S) :
    Calls Tryz.prog 32 #[.pointer (some ⟨b, 0, none⟩), .pointer (some ⟨bx, 0, none⟩)] w fun e w' => e = .returned (errV (begE S s)) ∧ PSPo w b G (begS S s) w' := by
  have hG := h.own
  have HS : Hid (PSe w b G s ∧ PS w bx Gx S) := ⟨h, hS⟩
  have hne := Later.one
  have hmm := @run_makeMap Tryz.prog
  obtain ⟨mv, B, _⟩ := h
  have HB : Hid (RowL w b (psesC s mv)) := B
  have HL : Hid (b < w.heap.size) := B.lt
  have k4 := B.cell 4 _ rfl
  cases ho : s.opn
  · rw [ho] at k4
    have l0 := Later.cell (B.cell 0 _ rfl)
    have l1 := Later.cell (B.cell 1 _ rfl)
    have l2 := Later.cell (B.cell 2 _ rfl)
    have l3 := Later.cell (B.cell 3 _ rfl)
    have HO : Hid (s.opn = false) := ho
    cases hc : covB S.a0 S.a1 S.a2 S.a3 s.p0 s.p1 s.p2 s.p3
    · have HC : Hid (covB S.a0 S.a1 S.a2 S.a3 s.p0 s.p1 s.p2 s.p3 = false) := hc
      have HE : Hid (begE S s = 10) := by show _ = _; unfold begE; rw [HO.out, HC.out]; rfl
      clear hS B ho hc
      go_enter Tryz.func32, Tryz.ntmps32
      go_wp2_with fail
      refine wp_region_later (by kernel_rfl) (by kernel_rfl) ?_
      repeat (go_big_quiet_step (first | rfl | (go_at_call 20; with_reducible exact calls_later (applied_any _ (HS.out.2.later (Later.below _)))) | (go_at_call 54; with_reducible exact calls_later (covers_is HC.out _))))
      refine wpQuiet_nil ?_
      rintro w2 ⟨⟨_, hb2⟩, rfl⟩
      go_wp2_with fail
      go_ret
      refine ⟨by rw [HE.out]; rfl, ?_⟩
      rw [show begS S s = s by unfold begS; rw [if_neg (by rw [HE.out]; decide)]]
      exact PSPo.same HS.out.1 hb2
    · have HC : Hid (covB S.a0 S.a1 S.a2 S.a3 s.p0 s.p1 s.p2 s.p3 = true) := hc
      have HE : Hid (begE S s = 0) := by show _ = _; unfold begE; rw [HO.out, HC.out]; rfl
      clear hS B ho hc
      go_enter Tryz.func32, Tryz.ntmps32
      go_wp2_with fail
      refine wp_region_later (by kernel_rfl) (by kernel_rfl) ?_
      repeat (go_big_quiet_step (first | rfl | (go_at_call 20; with_reducible exact calls_later (applied_any _ (HS.out.2.later (Later.below _)))) | (go_at_call 54; with_reducible exact calls_later (covers_is HC.out _))))
      refine wpQuiet_nil ?_
      rintro w2 ⟨⟨_, hb2⟩, rfl⟩
      clear k4 l0 l1 l2 l3
      have AP := applied_any _ (HS.out.2.later hb2)
      go_wp2_with fail
      refine AP.mono ?_
      rintro e w3 ⟨rfl, hb3⟩
      have hb4 := boxed (behind hb2 hb3) (.map #[] 0)
      have B4 := HB.out.later hb4
      have z4 := B4.cell 4 _ rfl
      have z5 := B4.cell 5 _ rfl
      have z6 := B4.cell 6 _ rfl
      have z7 := B4.cell 7 _ rfl
      have z8 := B4.cell 8 _ rfl
      have z9 := B4.cell 9 _ rfl
      have f4 := B4.free 4 (by simp [psesC])
      have f5 := B4.free 5 (by simp [psesC])
      have f6 := B4.free 6 (by simp [psesC])
      have f7 := B4.free 7 (by simp [psesC])
      have f8 := B4.free 8 (by simp [psesC])
      have f9 := B4.free 9 (by simp [psesC])
      have hsz : w.heap.size ≤ w3.heap.size := (behind hb2 hb3).size
      clear AP
      go_wp2_with fail
      go_ret
      refine ⟨by rw [HE.out]; rfl, ?_⟩
      rw [show begS S s = { s with opn := true, s0 := S.a0, s1 := S.a1, s2 := S.a2, s3 := S.a3, ws := [] } by unfold begS; rw [if_pos HE.out]]
      exact pbeg_box hG hb4 B4 (WMap.made w3) hsz HL.out S.a0 S.a1 S.a2 S.a3
  · rw [ho] at k4
    have HE : Hid (begE S s = 6) := by show _ = _; unfold begE; rw [ho]; rfl
    clear hS B ho
    go_enter Tryz.func32, Tryz.ntmps32
    go_wp2_with fail
    go_ret
    refine ⟨by rw [HE.out]; rfl, ?_⟩
    rw [show begS S s = s by unfold begS; rw [if_neg (by rw [HE.out]; decide)]]
    exact PSPo.same HS.out.1 (Below.refl _ _)

end Go.Proofs.YtpncedpfoakfkaaGreatDoor

namespace Go.Proofs.YtpncedpfoakfkaaGreatDoor
open Go.RowKit

set_option maxHeartbeats 1000000 in
theorem isSiteP_is {n : Int} {v : Bool} (h : (decide (0 ≤ n) && decide (n < 4)) = v) (w : World) :
    Calls Tryz.prog 45 #[.int .i64 n] w fun e w' => e = .returned (.bool v) ∧ w' = w := by
  by_cases h0 : 0 ≤ n
  · by_cases h4 : n < 4
    · have e : v = true := by rw [← h]; simp [h0, h4]
      subst e
      clear h
      go_enter Tryz.func45, Tryz.ntmps45
      go_wp2_with fail
      go_ret
      exact ⟨rfl, rfl⟩
    · have e : v = false := by rw [← h]; simp [h4]
      subst e
      clear h
      go_enter Tryz.func45, Tryz.ntmps45
      go_wp2_with fail
      go_ret
      exact ⟨rfl, rfl⟩
  · have e : v = false := by rw [← h]; simp [h0]
    subst e
    clear h
    go_enter Tryz.func45, Tryz.ntmps45
    go_wp2_with fail
    go_ret
    exact ⟨rfl, rfl⟩

theorem new_ps {w : World} {id : Int} (vs : List Value) (hvs : vs = [.int .i64 id, .int .i64 0, .int .i64 0, .int .i64 0, .int .i64 0, .int .i64 0, .int .i64 0, .slice none 0 0, .map (some w.heap.size), .int .i64 0, .int .i64 0, .int .i64 0, .int .i64 0, .int .i64 0, .int .i64 0, .int .i64 0, .int .i64 0, .int .i64 0, .int .i64 0, .int .i64 0, .int .i64 0, .int .i64 0, .int .i64 0, .int .i64 0, .int .i64 0, .slice none 0 0, .slice none 0 0, .slice none 0 0, .slice none 0 0, .slice none 0 0, .slice none 0 0, .slice none 0 0, .slice none 0 0]) (T : TypeId) :
    PS ((w.alloc (.map #[] 0)).alloc (.cells vs.toArray T)) (w.heap.size + 1) (fun k => k = w.heap.size + 1 ∨ k = w.heap.size) (newS id) := by
  have hs : (w.alloc (.map #[] 0)).heap.size = w.heap.size + 1 := by simp
  have R := RowL.new (w := w.alloc (.map #[] 0)) (T := T) (n := w.heap.size + 1) vs hs
  generalize hW : (w.alloc (.map #[] 0)).alloc (.cells vs.toArray T) = W at R
  have hb := boxed (Below.refl _ (w.alloc (.map #[] 0))) (.cells vs.toArray T)
  rw [hW] at hb
  have M0 := (PMap.made w).kept (hb.block _ (PMap.made w).lt)
  subst hvs
  refine ⟨.slice none 0 0, w.heap.size, fun k => footP (w.heap.size + 1) (fun _ => .slice none 0 0) k, [], [], ⟨⟨fun j v hv => ?_, fun j hj => R.free j (by simp [psiteC] at hj ⊢; omega), R.lt⟩, ?_, World.ownsRow_nil _ _ _ _, M0, by simp [Value.ownBlock], by omega, by simp [Value.ownBlock], fun k e => by simp [Value.ownBlock] at e, ?_, by simp⟩, rfl, rfl, fun k => ?_⟩
  · refine R.cell j v ?_
    have hj : j < 25 := by
      have := (List.getElem?_eq_some_iff.1 hv).1
      simpa [psiteC] using this
    rw [← hv]
    match j, hj with
    | 0, _ => rfl
    | 1, _ => rfl
    | 2, _ => rfl
    | 3, _ => rfl
    | 4, _ => rfl
    | 5, _ => rfl
    | 6, _ => rfl
    | 7, _ => rfl
    | 8, _ => rfl
    | 9, _ => rfl
    | 10, _ => rfl
    | 11, _ => rfl
    | 12, _ => rfl
    | 13, _ => rfl
    | 14, _ => rfl
    | 15, _ => rfl
    | 16, _ => rfl
    | 17, _ => rfl
    | 18, _ => rfl
    | 19, _ => rfl
    | 20, _ => rfl
    | 21, _ => rfl
    | 22, _ => rfl
    | 23, _ => rfl
    | 24, _ => rfl
  · refine ⟨fun _ => .slice none 0 0, fun _ => [], ⟨⟨fun j v hv => ?_, fun j hj => R.free (25 + j) (by simp at hj ⊢; omega), R.lt⟩, fun k _ => World.ownsRow_nil _ _ _ _, fun k _ => ?_, fun k _ => by simp [Value.ownBlock], fun i j _ _ _ g e => by simp [Value.ownBlock] at e⟩, ?_, fun k => Iff.rfl⟩
    · refine R.cell (25 + j) v ?_
      rw [← hv]
      have hj : j < 8 := by
        have := (List.getElem?_eq_some_iff.1 hv).1
        simpa using this
      match j, hj with
      | 0, _ => rfl
      | 1, _ => rfl
      | 2, _ => rfl
      | 3, _ => rfl
      | 4, _ => rfl
      | 5, _ => rfl
      | 6, _ => rfl
      | 7, _ => rfl
    · exact List.Pairwise.nil
    · exact ⟨fun k _ => by simp [keyL, newS], fun x hx => by simp [newS] at hx⟩
  · rintro (h | ⟨i, hi, h⟩)
    · omega
    · simp [Value.ownBlock] at h
  · constructor
    · rintro (h | h)
      · exact .inl (.inl h)
      · exact .inl (.inr (.inr (.inl h)))
    · rintro ((h | h | h | h) | ⟨m, hm, h⟩)
      · exact .inl h
      · simp [Value.ownBlock] at h
      · exact .inr h
      · rcases h with h | ⟨i, hi, h⟩
        · exact .inl h
        · simp [Value.ownBlock] at h
      · simp at hm

set_option maxRecDepth 100000 in
set_option maxHeartbeats 4000000 in
theorem new_any (id : Int) (w : World) (h0 : 0 ≤ id) (h4 : id < 4) :
    Calls Tryz.prog 5 #[.int .i64 id] w fun e w' => (e = .returned (.tuple #[.pointer (some ⟨w.heap.size + 1, 0, none⟩), .nilIface])) ∧ PS w' (w.heap.size + 1) (fun k => k = w.heap.size + 1 ∨ k = w.heap.size) (newS id) ∧ Below w.heap.size w w' := by
  have IS := isSiteP_is (n := id) (v := true) (by simp [h0, h4]) w
  have hmm := @run_makeMap Tryz.prog
  go_enter Tryz.func5, Tryz.ntmps5
  go_wp2_with fail
  refine IS.mono ?_
  rintro e w2 ⟨rfl, rfl⟩
  go_wp2_with fail
  exact bodyPost_ret (v := .tuple #[.pointer (some ⟨w2.heap.size + 1, 0, none⟩), .nilIface]) (by simp [results, Tryz.results5, go_sem]) rfl ⟨rfl, new_ps _ rfl _, boxed (boxed (Below.refl _ _) _) _⟩

set_option maxRecDepth 100000 in
set_option maxHeartbeats 4000000 in
theorem new_no (id : Int) (w : World) (h : (decide (0 ≤ id) && decide (id < 4)) = false) :
    Calls Tryz.prog 5 #[.int .i64 id] w fun e w' => e = .returned (.tuple #[.pointer none, errV 2]) ∧ Below w.heap.size w w' := by
  have IS := isSiteP_is h w
  clear h
  go_enter Tryz.func5, Tryz.ntmps5
  go_wp2_with fail
  refine IS.mono ?_
  rintro e w2 ⟨rfl, rfl⟩
  go_wp2_with fail
  exact bodyPost_ret (v := .tuple #[.pointer none, errV 2]) (by simp [results, Tryz.results5, go_sem]; rfl) rfl ⟨rfl, Below.refl _ _⟩

/-- what it knows of one is more -/
def knowsS (S : SiteS) (k : Nat) (x0 x1 x2 x3 : Int) : SiteS := { S with oth := fun j => if j = k * 4 then maxZ (S.oth j) x0 else if j = k * 4 + 1 then maxZ (S.oth j) x1 else if j = k * 4 + 2 then maxZ (S.oth j) x2 else if j = k * 4 + 3 then maxZ (S.oth j) x3 else S.oth j }

end Go.Proofs.YtpncedpfoakfkaaGreatDoor
