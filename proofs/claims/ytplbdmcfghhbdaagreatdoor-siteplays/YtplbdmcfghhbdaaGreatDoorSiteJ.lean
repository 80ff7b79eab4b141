/-
  Towards a commit at a site of the program: its error, what comes of it, what is told.
  A new site of the program, and what it knows of the others, as the model runs it (site.New, site.Site.Knows).
  What a site of the program notes of another, as the model runs it (site.Site.Knows).
  What a site of the program tells, as the model runs it: Applied, Waits, Many, All, Read; and Sweep.
-/
import Derived.Test.YtplbdmcfghhbdaaGreatDoorPGo
import Derived.Test.YtplbdmcfghhbdaaGreatDoorSiteC
import Derived.Test.YtplbdmcfghhbdaaGreatDoorSiteA
import Derived.Test.YtplbdmcfghhbdaaGreatDoorPStable
import Derived.Test.YtplbdmcfghhbdaaGreatDoorQRead
import Derived.Test.YtplbdmcfghhbdaaGreatDoorSiteG
import Derived.Test.YtplbdmcfghhbdaaGreatDoorSiteI
import Derived.Test.YtplbdmcfghhbdaaGreatDoorVector
import Derived.Test.YtplbdmcfghhbdaaGreatDoorSiteF
namespace Go.Proofs.YtplbdmcfghhbdaaGreatDoor
open Go.RowKit

theorem nextP_is {lw lc now x y ne : Int} (h : nextP lw lc now = (x, y, ne)) (w : World) :
    Calls Tryz.prog 56 #[.agg #[.int .i64 lw, .int .i64 lc], .int .i64 now] w fun e w' => e = .returned (.tuple #[.agg #[.int .i64 x, .int .i64 y], errV ne]) ∧ Below w.heap.size w w' := by
  unfold nextP at h
  split at h
  · rename_i g
    injection h with h1 h2
    injection h2 with h2 h3
    subst h1 h2 h3
    exact next_range1 lw lc now w g
  · rename_i g
    have g' : (timeB lw && timeB lc) = true := by simpa using g
    have hb : 0 ≤ lc ∧ lc ≤ 1099511627776 := by
      have h' := g'
      simp [timeB] at h'
      omega
    split at h
    · rename_i g2
      injection h with h1 h2
      injection h2 with h2 h3
      subst h1 h2 h3
      exact next_range2 lw lc now w g' g2
    · rename_i g2
      have g2' : timeB now = true := by simpa using g2
      split at h
      · rename_i g3
        injection h with h1 h2
        injection h2 with h2 h3
        subst h1 h2 h3
        exact next_wall lw lc now w g' g2' g3
      · rename_i g3
        split at h
        · rename_i g4
          injection h with h1 h2
          injection h2 with h2 h3
          subst h1 h2 h3
          exact next_full lw lc now w g' g2' g3 (by simp; omega)
        · rename_i g4
          injection h with h1 h2
          injection h2 with h2 h3
          subst h1 h2 h3
          exact next_count lw lc now w g' g2' g3 (by simp; omega) hb.1 (by omega)

/-- the error of a Commit, and the site and the transaction behind it -/
def comE (S : SiteS) (now d0 d1 d2 d3 : Int) (ws : List Wr) : Int := commitE S S.log.length now d0 d1 d2 d3 ws
def comT (S : SiteS) (now d0 d1 d2 d3 : Int) (ws : List Wr) : TxP := if comE S now d0 d1 d2 d3 ws = 0 then commitT S now d0 d1 d2 d3 ws else ⟨0, 0, 0, 0, 0, 0, 0, 0, []⟩
def comS (S : SiteS) (now d0 d1 d2 d3 : Int) (ws : List Wr) : SiteS := if comE S now d0 d1 d2 d3 ws = 0 then applyS S (commitT S now d0 d1 d2 d3 ws) else S
def CommitIs (w : World) (b : Nat) (G : Nat → Prop) (S : SiteS) (now d0 d1 d2 d3 : Int) (ws : List Wr) (e : Ending) (w' : World) : Prop :=
  ∃ m : TxM, e = .returned (.tuple #[txV m, errV (comE S now d0 d1 d2 d3 ws)]) ∧ m.t = comT S now d0 d1 d2 d3 ws ∧ Hid (WrIn w' m.wa m.wc m.t.ws ∧ PPo w b G (comS S now d0 d1 d2 d3 ws) w')
theorem pCommit_results {tmps : Array Value} {w : World} {b : Nat} {m : TxM} {ev : Value} (h : RowL w b (txC m)) (h2 : tmps[8]? = some (.pointer (some ⟨b, 0, none⟩))) (h3 : tmps[9]? = some ev) :
    (results Tryz.f9 tmps).run Tryz.prog w = .ok (.tuple #[txV m, ev]) w := by
  have z0 := h.cell 0 _ rfl
  have z1 := h.cell 1 _ rfl
  have z2 := h.cell 2 _ rfl
  have z3 := h.cell 3 _ rfl
  have z4 := h.cell 4 _ rfl
  have z5 := h.cell 5 _ rfl
  have z6 := h.cell 6 _ rfl
  have z7 := h.cell 7 _ rfl
  have z8 := h.cell 8 _ rfl
  simp [results, Tryz.results9, go_sem, h2, h3, z0, z1, z2, z3, z4, z5, z6, z7, z8, txV]
theorem commitT_ok {S : SiteS} {now d0 d1 d2 d3 : Int} {ws : List Wr} (hI : InvS S) (h : comE S now d0 d1 d2 d3 ws = 0) : InvS (applyS S (commitT S now d0 d1 d2 d3 ws)) ∧ 1 ≤ ws.length ∧ ws.length ≤ 5 ∧ S.log.length < 200 := by
  obtain ⟨h1, h2, h3, h4, h5⟩ := commitE_zero h
  have hw : 1 ≤ ws.length ∧ ws.length ≤ 5 := by
    simp only [okWs, Bool.and_eq_true, inB_iff] at h1
    omega
  have ho := hI.own
  have hd := hI.dep S.id
  refine ⟨hI.applied ⟨hI.id0, hI.id3⟩ ⟨?_, ?_⟩ hw (fun _ => ?_) (by omega), hw.1, hw.2, by omega⟩
  · show 0 ≤ depOf S.id _ _ _ _ + 1
    have := hd.1
    omega
  · show depOf S.id _ _ _ _ + 1 ≤ _
    omega
  · show depOf S.id _ _ _ _ + 1 ≤ _
    omega

theorem touch_cell {F : Nat → Prop} {w W : World} {p : Addr} (h : Touch F w W) (hB : w.heap.size ≤ p.block) (v : Value) : Touch F w (W.setCell p v) :=
  ⟨h.os, h.tape, h.output, by simpa [World.setCell] using h.size, fun k hk hn => (Below.heap_setCell _ _ _ _ (by omega)).trans (h.block k hk hn)⟩
theorem touch_tx {F : Nat → Prop} {w W : World} {b : Nat} (h : Touch F w W) (hB : w.heap.size ≤ b) (x0 x1 x2 x3 x4 x5 x6 x7 : Int) (v : Value) : Touch F w (setTx W b x0 x1 x2 x3 x4 x5 x6 x7 v) :=
  touch_cell (touch_cell (touch_cell (touch_cell (touch_cell (touch_cell (touch_cell (touch_cell (touch_cell h hB _) hB _) hB _) hB _) hB _) hB _) hB _) hB _) hB _
/-- behind it: the site has it, and a copy is told -/
theorem commit_fin {w w7 w8 w9 : World} {b : Nat} {lv lv' : Value} {bm : Nat} {F F' G : Nat → Prop} {S : SiteS} {log waits : List TxM} {now d0 d1 d2 d3 : Int} {x0 x1 x2 x3 x4 x5 x6 x7 : Int} {ws : List Wr} {wa1 wa2 : Option Addr} {wc1 wc2 : Nat} (hP : PS w b G S) (h7 : Below w.heap.size w w7) (hs : w.heap.size + 1 < w7.heap.size)
    (PM8 : PMem w8 b lv' bm F' (applyS S ⟨x0, x1, x2, x3, x4, x5, x6, x7, ws⟩) (log ++ [⟨⟨x0, x1, x2, x3, x4, x5, x6, x7, ws⟩, wa1, wc1⟩]) waits) (nf : ∀ k, footQ b lv' bm F' k → footQ b lv bm F k ∨ w7.heap.size ≤ k) (tt : Touch (footQ b lv bm F) w7 w8)
    (hk1 : ∀ k, (⟨⟨x0, x1, x2, x3, x4, x5, x6, x7, ws⟩, wa1, wc1⟩ : TxM).blk k → w.heap.size + 1 < k) (hl : log.map (·.t) = S.log) (hw : waits.map (·.t) = S.waits) (hG : ∀ k, G k ↔ (footQ b lv bm F k ∨ ∃ m ∈ log ++ waits, m.blk k)) (h9 : Below w8.heap.size w8 w9)
    (W9 : WrIn w9 wa2 wc2 ws) (hk2 : ∀ k, (⟨⟨x0, x1, x2, x3, x4, x5, x6, x7, ws⟩, wa2, wc2⟩ : TxM).blk k → w.heap.size + 1 < k) (hct : commitT S now d0 d1 d2 d3 ws = ⟨x0, x1, x2, x3, x4, x5, x6, x7, ws⟩) (hE : comE S now d0 d1 d2 d3 ws = 0) :
    Hid (CommitIs w b G S now d0 d1 d2 d3 ws (.returned (.tuple #[txV ⟨⟨x0, x1, x2, x3, x4, x5, x6, x7, ws⟩, wa2, wc2⟩, .nilIface])) (setTx w9 (w.heap.size + 1) x0 x1 x2 x3 x4 x5 x6 x7 (.slice wa2 ws.length wc2))) := by
  have tG : Touch G w w9 := ((Touch.ofBelow h7).more ⟨tt.os, tt.tape, tt.output, tt.size, fun k hk hn => tt.block k hk (fun e => hn ((hG k).2 (.inl e)))⟩ (fun k hk => .inl hk)).trans (Touch.ofBelow h9)
  have hblk : ∀ k, k ≠ w.heap.size + 1 → (setTx w9 (w.heap.size + 1) x0 x1 x2 x3 x4 x5 x6 x7 (.slice wa2 ws.length wc2)).heap[k]? = w9.heap[k]? := fun k hk => setTx_block hk x0 x1 x2 x3 x4 x5 x6 x7 _
  have hsz : (setTx w9 (w.heap.size + 1) x0 x1 x2 x3 x4 x5 x6 x7 (.slice wa2 ws.length wc2)).heap.size = w9.heap.size := by simp only [setTx, World.setCell, Array.size_modify]
  have tF : Touch G w (setTx w9 (w.heap.size + 1) x0 x1 x2 x3 x4 x5 x6 x7 (.slice wa2 ws.length wc2)) := touch_tx tG (Nat.le_succ _) _ _ _ _ _ _ _ _ _
  generalize setTx w9 (w.heap.size + 1) x0 x1 x2 x3 x4 x5 x6 x7 (.slice wa2 ws.length wc2) = W at *
  have PM9 := PM8.later h9
  have lt8 := hP.lt
  have PSW : PS W b (fun k => footQ b lv' bm F' k ∨ ∃ m ∈ (log ++ [⟨⟨x0, x1, x2, x3, x4, x5, x6, x7, ws⟩, wa1, wc1⟩]) ++ waits, m.blk k) (applyS S ⟨x0, x1, x2, x3, x4, x5, x6, x7, ws⟩) := by
    refine ⟨lv', bm, F', _, waits, PM9.kept (fun k hk => hblk k (fun e => ?_)) (by omega), by rw [List.map_append, hl]; rfl, hw, fun k => Iff.rfl⟩
    rcases hk with h1 | ⟨m, hm, h1⟩
    · rcases nf k h1 with h2 | h2
      · have := lt8 k ((hG k).2 (.inl h2)); omega
      · omega
    · rcases List.mem_append.1 hm with h2 | h2
      · rcases List.mem_append.1 h2 with h3 | h3
        · have := lt8 k ((hG k).2 (.inr ⟨m, List.mem_append.2 (.inl h3), h1⟩)); omega
        · rw [List.mem_singleton.1 h3] at h1
          have := hk1 k h1; omega
      · have := lt8 k ((hG k).2 (.inr ⟨m, List.mem_append.2 (.inr h2), h1⟩)); omega
  refine ⟨⟨⟨x0, x1, x2, x3, x4, x5, x6, x7, ws⟩, wa2, wc2⟩, by rw [hE]; rfl, ?_, WrIn.kept (m := ⟨⟨x0, x1, x2, x3, x4, x5, x6, x7, ws⟩, wa2, wc2⟩) (w := w9) W9 (fun k e => hblk k (by have := hk2 k e; omega)), ?_⟩
  · unfold comT; rw [if_pos hE, hct]
  · unfold comS
    rw [if_pos hE, hct]
    refine ⟨_, PSW, fun k hk => ?_, tF⟩
    rcases hk with h1 | ⟨m, hm, h1⟩
    · rcases nf k h1 with h2 | h2
      · exact .inl ((hG k).2 (.inl h2))
      · exact .inr (by omega)
    · rcases List.mem_append.1 hm with h2 | h2
      · rcases List.mem_append.1 h2 with h3 | h3
        · exact .inl ((hG k).2 (.inr ⟨m, List.mem_append.2 (.inl h3), h1⟩))
        · rw [List.mem_singleton.1 h3] at h1
          have := hk1 k h1; exact .inr (by omega)
      · exact .inl ((hG k).2 (.inr ⟨m, List.mem_append.2 (.inr h2), h1⟩))


end Go.Proofs.YtplbdmcfghhbdaaGreatDoor

namespace Go.Proofs.YtplbdmcfghhbdaaGreatDoor
open Go.RowKit

set_option maxHeartbeats 1000000 in
theorem isSiteP_is {n : Int} {v : Bool} (h : (decide (0 ≤ n) && decide (n < 4)) = v) (w : World) :
    Calls Tryz.prog 45 #[.int .i64 n] w fun e w' => e = .returned (.bool v) ∧ w' = w := by
  by_cases h0 : 0 ≤ n
  · by_cases h4 : n < 4
    · have e : v = true := by rw [← h]; simp [h0, h4]
      subst e
      clear h
      go_enter Tryz.func45, Tryz.ntmps45
      go_wp2_with fail
      go_ret
      exact ⟨rfl, rfl⟩
    · have e : v = false := by rw [← h]; simp [h4]
      subst e
      clear h
      go_enter Tryz.func45, Tryz.ntmps45
      go_wp2_with fail
      go_ret
      exact ⟨rfl, rfl⟩
  · have e : v = false := by rw [← h]; simp [h0]
    subst e
    clear h
    go_enter Tryz.func45, Tryz.ntmps45
    go_wp2_with fail
    go_ret
    exact ⟨rfl, rfl⟩

theorem new_ps {w : World} {id : Int} (vs : List Value) (hvs : vs = [.int .i64 id, .int .i64 0, .int .i64 0, .int .i64 0, .int .i64 0, .int .i64 0, .int .i64 0, .slice none 0 0, .map (some w.heap.size), .int .i64 0, .int .i64 0, .int .i64 0, .int .i64 0, .int .i64 0, .int .i64 0, .int .i64 0, .int .i64 0, .int .i64 0, .int .i64 0, .int .i64 0, .int .i64 0, .int .i64 0, .int .i64 0, .int .i64 0, .int .i64 0, .slice none 0 0, .slice none 0 0, .slice none 0 0, .slice none 0 0, .slice none 0 0, .slice none 0 0, .slice none 0 0, .slice none 0 0]) (T : TypeId) :
    PS ((w.alloc (.map #[] 0)).alloc (.cells vs.toArray T)) (w.heap.size + 1) (fun k => k = w.heap.size + 1 ∨ k = w.heap.size) (newS id) := by
  have hs : (w.alloc (.map #[] 0)).heap.size = w.heap.size + 1 := by simp
  have R := RowL.new (w := w.alloc (.map #[] 0)) (T := T) (n := w.heap.size + 1) vs hs
  generalize hW : (w.alloc (.map #[] 0)).alloc (.cells vs.toArray T) = W at R
  have hb := boxed (Below.refl _ (w.alloc (.map #[] 0))) (.cells vs.toArray T)
  rw [hW] at hb
  have M0 := (PMap.made w).kept (hb.block _ (PMap.made w).lt)
  subst hvs
  refine ⟨.slice none 0 0, w.heap.size, fun k => footP (w.heap.size + 1) (fun _ => .slice none 0 0) k, [], [], ⟨⟨fun j v hv => ?_, fun j hj => R.free j (by simp [psiteC] at hj ⊢; omega), R.lt⟩, ?_, World.ownsRow_nil _ _ _ _, M0, by simp [Value.ownBlock], by omega, by simp [Value.ownBlock], fun k e => by simp [Value.ownBlock] at e, ?_, by simp⟩, rfl, rfl, fun k => ?_⟩
  · refine R.cell j v ?_
    have hj : j < 25 := by
      have := (List.getElem?_eq_some_iff.1 hv).1
      simpa [psiteC] using this
    rw [← hv]
    match j, hj with
    | 0, _ => rfl
    | 1, _ => rfl
    | 2, _ => rfl
    | 3, _ => rfl
    | 4, _ => rfl
    | 5, _ => rfl
    | 6, _ => rfl
    | 7, _ => rfl
    | 8, _ => rfl
    | 9, _ => rfl
    | 10, _ => rfl
    | 11, _ => rfl
    | 12, _ => rfl
    | 13, _ => rfl
    | 14, _ => rfl
    | 15, _ => rfl
    | 16, _ => rfl
    | 17, _ => rfl
    | 18, _ => rfl
    | 19, _ => rfl
    | 20, _ => rfl
    | 21, _ => rfl
    | 22, _ => rfl
    | 23, _ => rfl
    | 24, _ => rfl
  · refine ⟨fun _ => .slice none 0 0, fun _ => [], ⟨⟨fun j v hv => ?_, fun j hj => R.free (25 + j) (by simp at hj ⊢; omega), R.lt⟩, fun k _ => World.ownsRow_nil _ _ _ _, fun k _ => ?_, fun k _ => by simp [Value.ownBlock], fun i j _ _ _ g e => by simp [Value.ownBlock] at e⟩, ?_, fun k => Iff.rfl⟩
    · refine R.cell (25 + j) v ?_
      rw [← hv]
      have hj : j < 8 := by
        have := (List.getElem?_eq_some_iff.1 hv).1
        simpa using this
      match j, hj with
      | 0, _ => rfl
      | 1, _ => rfl
      | 2, _ => rfl
      | 3, _ => rfl
      | 4, _ => rfl
      | 5, _ => rfl
      | 6, _ => rfl
      | 7, _ => rfl
    · exact List.Pairwise.nil
    · exact ⟨fun k _ => by simp [keyL, newS], fun x hx => by simp [newS] at hx⟩
  · rintro (h | ⟨i, hi, h⟩)
    · omega
    · simp [Value.ownBlock] at h
  · constructor
    · rintro (h | h)
      · exact .inl (.inl h)
      · exact .inl (.inr (.inr (.inl h)))
    · rintro ((h | h | h | h) | ⟨m, hm, h⟩)
      · exact .inl h
      · simp [Value.ownBlock] at h
      · exact .inr h
      · rcases h with h | ⟨i, hi, h⟩
        · exact .inl h
        · simp [Value.ownBlock] at h
      · simp at hm

set_option maxRecDepth 100000 in
set_option maxHeartbeats 4000000 in
theorem new_any (id : Int) (w : World) (h0 : 0 ≤ id) (h4 : id < 4) :
    Calls Tryz.prog 5 #[.int .i64 id] w fun e w' => (e = .returned (.tuple #[.pointer (some ⟨w.heap.size + 1, 0, none⟩), .nilIface])) ∧ PS w' (w.heap.size + 1) (fun k => k = w.heap.size + 1 ∨ k = w.heap.size) (newS id) ∧ Below w.heap.size w w' := by
  have IS := isSiteP_is (n := id) (v := true) (by simp [h0, h4]) w
  have hmm := @run_makeMap Tryz.prog
  go_enter Tryz.func5, Tryz.ntmps5
  go_wp2_with fail
  refine IS.mono ?_
  rintro e w2 ⟨rfl, rfl⟩
  go_wp2_with fail
  exact bodyPost_ret (v := .tuple #[.pointer (some ⟨w2.heap.size + 1, 0, none⟩), .nilIface]) (by simp [results, Tryz.results5, go_sem]) rfl ⟨rfl, new_ps _ rfl _, boxed (boxed (Below.refl _ _) _) _⟩

set_option maxRecDepth 100000 in
set_option maxHeartbeats 4000000 in
theorem new_no (id : Int) (w : World) (h : (decide (0 ≤ id) && decide (id < 4)) = false) :
    Calls Tryz.prog 5 #[.int .i64 id] w fun e w' => e = .returned (.tuple #[.pointer none, errV 2]) ∧ Below w.heap.size w w' := by
  have IS := isSiteP_is h w
  clear h
  go_enter Tryz.func5, Tryz.ntmps5
  go_wp2_with fail
  refine IS.mono ?_
  rintro e w2 ⟨rfl, rfl⟩
  go_wp2_with fail
  exact bodyPost_ret (v := .tuple #[.pointer none, errV 2]) (by simp [results, Tryz.results5, go_sem]; rfl) rfl ⟨rfl, Below.refl _ _⟩

/-- what it knows of one is more -/
def knowsS (S : SiteS) (k : Nat) (x0 x1 x2 x3 : Int) : SiteS := { S with oth := fun j => if j = k * 4 then maxZ (S.oth j) x0 else if j = k * 4 + 1 then maxZ (S.oth j) x1 else if j = k * 4 + 2 then maxZ (S.oth j) x2 else if j = k * 4 + 3 then maxZ (S.oth j) x3 else S.oth j }

end Go.Proofs.YtplbdmcfghhbdaaGreatDoor

namespace Go.Proofs.YtplbdmcfghhbdaaGreatDoor
open Go.RowKit

theorem PMem.know {w : World} {b : Nat} {lv : Value} {bm : Nat} {F : Nat → Prop} {S : SiteS} {log waits : List TxM} (h : PMem w b lv bm F S log waits) {k : Nat} (hk : k < 4) (x0 x1 x2 x3 : Int) :
    PMem ((((w.setCell ⟨b, 9 + k * 4, none⟩ (.int .i64 (maxZ (S.oth (k * 4)) x0))).setCell ⟨b, 9 + k * 4 + 1, none⟩ (.int .i64 (maxZ (S.oth (k * 4 + 1)) x1))).setCell ⟨b, 9 + k * 4 + 2, none⟩ (.int .i64 (maxZ (S.oth (k * 4 + 2)) x2))).setCell ⟨b, 9 + k * 4 + 3, none⟩ (.int .i64 (maxZ (S.oth (k * 4 + 3)) x3))) b lv bm F (knowsS S k x0 x1 x2 x3) log waits := by
  have a1 := h.cell (S' := { S with oth := fun j => if j = k * 4 then maxZ (S.oth j) x0 else S.oth j }) (9 + k * 4) (.int .i64 (maxZ (S.oth (k * 4)) x0)) (by omega) (by match k, hk with | 0, _ => rfl | 1, _ => rfl | 2, _ => rfl | 3, _ => rfl) rfl
  have a2 := a1.cell (S' := { S with oth := fun j => if j = k * 4 then maxZ (S.oth j) x0 else if j = k * 4 + 1 then maxZ (S.oth j) x1 else S.oth j }) (9 + k * 4 + 1) (.int .i64 (maxZ (S.oth (k * 4 + 1)) x1)) (by omega) (by match k, hk with | 0, _ => rfl | 1, _ => rfl | 2, _ => rfl | 3, _ => rfl) rfl
  have a3 := a2.cell (S' := { S with oth := fun j => if j = k * 4 then maxZ (S.oth j) x0 else if j = k * 4 + 1 then maxZ (S.oth j) x1 else if j = k * 4 + 2 then maxZ (S.oth j) x2 else S.oth j }) (9 + k * 4 + 2) (.int .i64 (maxZ (S.oth (k * 4 + 2)) x2)) (by omega) (by match k, hk with | 0, _ => rfl | 1, _ => rfl | 2, _ => rfl | 3, _ => rfl) rfl
  exact a3.cell (S' := knowsS S k x0 x1 x2 x3) (9 + k * 4 + 3) (.int .i64 (maxZ (S.oth (k * 4 + 3)) x3)) (by omega) (by match k, hk with | 0, _ => rfl | 1, _ => rfl | 2, _ => rfl | 3, _ => rfl) rfl

set_option maxRecDepth 100000 in
set_option maxHeartbeats 8000000 in
theorem knows_no {n : Int} (hn : (decide (0 ≤ n) && decide (n < 4)) = false) {b : Nat} (x0 x1 x2 x3 : Int) (w : World) :
    Calls Tryz.prog 14 #[.pointer (some ⟨b, 0, none⟩), .int .i64 n, .agg #[.int .i64 x0, .int .i64 x1, .int .i64 x2, .int .i64 x3]] w fun e w' => e = .returned (errV 2) ∧ Below w.heap.size w w' := by
  have IS := isSiteP_is hn (w.alloc (.cells #[.int .i64 x0, .int .i64 x1, .int .i64 x2, .int .i64 x3] 32))
  have hb := boxed (Below.refl _ w) (.cells #[.int .i64 x0, .int .i64 x1, .int .i64 x2, .int .i64 x3] 32)
  clear hn
  go_enter Tryz.func14, Tryz.ntmps14
  go_wp2_with fail
  refine IS.mono ?_
  rintro e w2 ⟨rfl, rfl⟩
  go_wp2_with fail
  go_ret
  exact ⟨rfl, hb⟩

set_option maxRecDepth 100000 in
set_option maxHeartbeats 8000000 in
theorem knows_any {b : Nat} {G : Nat → Prop} {S : SiteS} {n : Int} (h0 : 0 ≤ n) (h4 : n < 4) (x0 x1 x2 x3 : Int) (w : World) (h : PS w b G S) :
    Calls Tryz.prog 14 #[.pointer (some ⟨b, 0, none⟩), .int .i64 n, .agg #[.int .i64 x0, .int .i64 x1, .int .i64 x2, .int .i64 x3]] w fun e w' => e = .returned (errV 0) ∧ PPo w b G (knowsS S n.toNat x0 x1 x2 x3) w' := by
  have IS := isSiteP_is (n := n) (v := true) (by simp [h0, h4]) (w.alloc (.cells #[.int .i64 x0, .int .i64 x1, .int .i64 x2, .int .i64 x3] 32))
  have hb := boxed (Below.refl _ w) (.cells #[.int .i64 x0, .int .i64 x1, .int .i64 x2, .int .i64 x3] 32)
  have RA := RowL.new (w := w) (T := 32) [.int .i64 x0, .int .i64 x1, .int .i64 x2, .int .i64 x3] rfl
  obtain ⟨k, hk⟩ : ∃ k, n.toNat = k := ⟨_, rfl⟩
  have hk4 : k < 4 := by omega
  obtain ⟨lv, bm, F, log, waits, PM0, hl, hw, hG⟩ := h
  have HFI : Hid (∀ W, Below w.heap.size w W → ∀ W', W' = ((((W.setCell ⟨b, 9 + k * 4, none⟩ (.int .i64 (maxZ (S.oth (k * 4)) x0))).setCell ⟨b, 9 + k * 4 + 1, none⟩ (.int .i64 (maxZ (S.oth (k * 4 + 1)) x1))).setCell ⟨b, 9 + k * 4 + 2, none⟩ (.int .i64 (maxZ (S.oth (k * 4 + 2)) x2))).setCell ⟨b, 9 + k * 4 + 3, none⟩ (.int .i64 (maxZ (S.oth (k * 4 + 3)) x3))) → PPo w b G (knowsS S n.toNat x0 x1 x2 x3) W') := fun W hW W' e => by
    rw [hk]
    have PK := (PM0.later hW).know hk4 x0 x1 x2 x3
    have hGb : G b := (hG b).2 (.inl (.inl rfl))
    have tt : Touch G W W' := by
      rw [e]
      exact (((Touch.setCell W ⟨b, 9 + k * 4, none⟩ _ hGb).trans (Touch.setCell _ ⟨b, 9 + k * 4 + 1, none⟩ _ hGb)).trans (Touch.setCell _ ⟨b, 9 + k * 4 + 2, none⟩ _ hGb)).trans (Touch.setCell _ ⟨b, 9 + k * 4 + 3, none⟩ _ hGb)
    rw [← e] at PK
    exact ⟨G, ⟨lv, bm, F, log, waits, PK, hl, hw, hG⟩, fun j hj => .inl hj, (Touch.ofBelow hW).more tt (fun j hj => .inl hj)⟩
  obtain ⟨o0, o1, o2, o3⟩ := othQ_cells (S := S) (lv := lv) (bm := bm) hk4
  have HPM : Hid (∀ W, Below w.heap.size w W → PMem W b lv bm F S log waits) := fun W hW => PM0.later hW
  obtain ⟨p0, hp0⟩ : ∃ x, S.oth (k * 4) = x := ⟨_, rfl⟩
  obtain ⟨p1, hp1⟩ : ∃ x, S.oth (k * 4 + 1) = x := ⟨_, rfl⟩
  obtain ⟨p2, hp2⟩ : ∃ x, S.oth (k * 4 + 2) = x := ⟨_, rfl⟩
  obtain ⟨p3, hp3⟩ : ∃ x, S.oth (k * 4 + 3) = x := ⟨_, rfl⟩
  rw [hp0] at o0
  rw [hp1] at o1
  rw [hp2] at o2
  rw [hp3] at o3
  rw [hp0, hp1, hp2, hp3] at HFI
  have hbD := hb.drew
  have PU : Hid (Calls Tryz.prog 65 #[.agg #[.int .i64 p0, .int .i64 p1, .int .i64 p2, .int .i64 p3], .agg #[.int .i64 x0, .int .i64 x1, .int .i64 x2, .int .i64 x3]] (w.alloc (.cells #[.int .i64 x0, .int .i64 x1, .int .i64 x2, .int .i64 x3] 32)).drew fun e w' => e = .returned (.agg #[.int .i64 (maxZ p0 x0), .int .i64 (maxZ p1 x1), .int .i64 (maxZ p2 x2), .int .i64 (maxZ p3 x3)]) ∧ Below w.heap.size w w') := (max_any p0 p1 p2 p3 x0 x1 x2 x3 _).mono fun e w' ⟨h1, h2⟩ => ⟨h1, behind hbD h2⟩
  have BX := (HPM.out _ hb).box
  have q0 := BX.cell _ _ o0
  have q1 := BX.cell _ _ o1
  have q2 := BX.cell _ _ o2
  have q3 := BX.cell _ _ o3
  have r0 := RA.cell 0 _ rfl
  have r1 := RA.cell 1 _ rfl
  have r2 := RA.cell 2 _ rfl
  have r3 := RA.cell 3 _ rfl
  have HO : Hid ((psiteC S lv bm)[9 + k * 4]? = some (.int .i64 p0) ∧ (psiteC S lv bm)[9 + k * 4 + 1]? = some (.int .i64 p1) ∧ (psiteC S lv bm)[9 + k * 4 + 2]? = some (.int .i64 p2) ∧ (psiteC S lv bm)[9 + k * 4 + 3]? = some (.int .i64 p3)) := ⟨o0, o1, o2, o3⟩
  have HK4 : Hid (k < 4) := hk4
  clear PM0 hl hw hG hp0 hp1 hp2 hp3 BX RA o0 o1 o2 o3 hk4
  go_enter Tryz.func14, Tryz.ntmps14
  go_wp2_with fail
  refine IS.mono ?_
  rintro e w2 ⟨rfl, rfl⟩
  go_wp2_with fail
  go_region_law (first
    | (refine step_call rfl 65 #[.agg #[.int .i64 p0, .int .i64 p1, .int .i64 p2, .int .i64 p3], .agg #[.int .i64 x0, .int .i64 x1, .int .i64 x2, .int .i64 x3]] (by go_simp) PU.out ?_
       rintro e w3 ⟨rfl, hb3⟩
       refine ⟨_, rfl, ?_⟩
       have BX3 := (HPM.out _ hb3).box
       have s0 := BX3.cell _ _ HO.out.1
       have s1 := BX3.cell _ _ HO.out.2.1
       have s2 := BX3.cell _ _ HO.out.2.2.1
       have s3 := BX3.cell _ _ HO.out.2.2.2
       have f0 := BX3.free (9 + k * 4) (by have := HK4.out; simp [psiteC]; omega)
       have f1 := BX3.free (9 + k * 4 + 1) (by have := HK4.out; simp [psiteC]; omega)
       have f2 := BX3.free (9 + k * 4 + 2) (by have := HK4.out; simp [psiteC]; omega)
       have f3 := BX3.free (9 + k * 4 + 3) (by have := HK4.out; simp [psiteC]; omega)
       clear BX3))
  all_goals
    have FIN := HFI.out w3 hb3 _ rfl
    go_wp2_with fail
    go_ret
    exact ⟨rfl, FIN⟩

end Go.Proofs.YtplbdmcfghhbdaaGreatDoor

namespace Go.Proofs.YtplbdmcfghhbdaaGreatDoor
open Go.RowKit Go.Maps

theorem PS.mem {w : World} {b : Nat} {G : Nat → Prop} {S : SiteS} (h : PS w b G S) : ∃ lv bm F log waits, PMem w b lv bm F S log waits ∧ log.length = S.log.length ∧ waits.length = S.waits.length := by
  obtain ⟨lv, bm, F, log, waits, h, h1, h2, _⟩ := h
  exact ⟨lv, bm, F, log, waits, h, by rw [← h1]; simp, by rw [← h2]; simp⟩
theorem InvS.many {S : SiteS} (h : InvS S) : S.l.length ≤ 1000 := by
  have := h.len
  have := h.log
  omega
set_option maxRecDepth 100000 in
set_option maxHeartbeats 4000000 in
theorem applied_any {b : Nat} {G : Nat → Prop} {S : SiteS} (w : World) (h : PS w b G S) :
    Calls Tryz.prog 20 #[.pointer (some ⟨b, 0, none⟩)] w fun e w' => e = .returned (.agg #[.int .i64 S.a0, .int .i64 S.a1, .int .i64 S.a2, .int .i64 S.a3]) ∧ Below w.heap.size w w' := by
  obtain ⟨lv, bm, F, log, waits, PM, _, _⟩ := h.mem
  have k1 := PM.box.cell 1 _ rfl
  have k2 := PM.box.cell 2 _ rfl
  have k3 := PM.box.cell 3 _ rfl
  have k4 := PM.box.cell 4 _ rfl
  have hlt := PM.box.lt
  clear PM h
  go_enter Tryz.func20, Tryz.ntmps20
  go_wp2_with fail
  exact bodyPost_ret (v := .agg #[.int .i64 S.a0, .int .i64 S.a1, .int .i64 S.a2, .int .i64 S.a3]) (by simp [results, Tryz.results20, go_sem]) rfl ⟨rfl, boxed (Below.refl _ _) _⟩
set_option maxRecDepth 100000 in
set_option maxHeartbeats 4000000 in
theorem waits_any {b : Nat} {G : Nat → Prop} {S : SiteS} (w : World) (h : PS w b G S) :
    Calls Tryz.prog 21 #[.pointer (some ⟨b, 0, none⟩)] w fun e w' => e = .returned (.int .i64 S.waits.length) ∧ Below w.heap.size w w' := by
  obtain ⟨lv, bm, F, log, waits, PM, _, hw⟩ := h.mem
  have k8 := PM.box.cell 8 _ rfl
  obtain ⟨_, _, DD, hown, hMI⟩ := PM.map
  have LEN : ∀ ty, (Builtin.len_ #[103] ty #[.map (some bm)]).run Tryz.prog w = .ok (.int .i64 S.waits.length) w := fun ty => by
    have := hown.len Tryz.underlying103 ty
    rw [hMI.size, hw] at this
    exact this
  clear PM h hown hMI hw
  go_enter Tryz.func21, Tryz.ntmps21
  go_wp2_with fail
  go_ret
  exact ⟨rfl, Below.refl _ _⟩
set_option maxRecDepth 100000 in
set_option maxHeartbeats 4000000 in
theorem pmany_any {b : Nat} {G : Nat → Prop} {S : SiteS} (w : World) (h : PS w b G S) (hI : InvS S) :
    Calls Tryz.prog 24 #[.pointer (some ⟨b, 0, none⟩)] w fun e w' => e = .returned (.int .i64 S.l.length) ∧ Below w.heap.size w w' := by
  obtain ⟨lv, bm, F, log, waits, PM, _, _⟩ := h.mem
  have MA := qMany_any w PM.st hI.many
  clear PM h hI
  go_enter Tryz.func24, Tryz.ntmps24
  go_wp2_with fail
  refine MA.mono ?_
  rintro e w2 ⟨rfl, hb2⟩
  go_wp2_with fail
  go_ret
  exact ⟨rfl, hb2⟩
set_option maxRecDepth 100000 in
set_option maxHeartbeats 4000000 in
theorem pall_any {b : Nat} {G : Nat → Prop} {S : SiteS} (w : World) (h : PS w b G S) (hI : InvS S) :
    Calls Tryz.prog 26 #[.pointer (some ⟨b, 0, none⟩)] w fun e w' => ∃ v, e = .returned v ∧ w'.ownsRow w.heap.size 9 1 v 8 (toldC S.a0 S.a1 S.a2 S.a3 S.l 8) ∧ Below w.heap.size w w' := by
  obtain ⟨lv, bm, F, log, waits, PM, _, _⟩ := h.mem
  have k1 := PM.box.cell 1 _ rfl
  have k2 := PM.box.cell 2 _ rfl
  have k3 := PM.box.cell 3 _ rfl
  have k4 := PM.box.cell 4 _ rfl
  have MA : Hid (Calls Tryz.prog 72 #[.pointer (some ⟨b, 25, none⟩), .agg #[.int .i64 S.a0, .int .i64 S.a1, .int .i64 S.a2, .int .i64 S.a3]] w.drew fun e w' => ∃ v, e = .returned v ∧ Hid (w'.ownsRow w.heap.size 9 1 v 8 (toldC S.a0 S.a1 S.a2 S.a3 S.l 8) ∧ Below w.heap.size w w')) :=
    (qAll_any S.a0 S.a1 S.a2 S.a3 w.drew (PM.later (Below.refl _ w).drew).st hI.many hI.apart hI.ok).mono fun e w' ⟨v, h1, h2, h3⟩ => ⟨v, h1, h2, behind (Below.refl _ w).drew h3⟩
  clear PM h hI
  go_enter Tryz.func26, Tryz.ntmps26
  go_wp2_with fail
  go_region_law (refine step_call rfl 72 #[.pointer (some ⟨b, 25, none⟩), .agg #[.int .i64 S.a0, .int .i64 S.a1, .int .i64 S.a2, .int .i64 S.a3]] (by go_simp) MA.out ?_
                 rintro e w2 ⟨v, rfl, HQ⟩
                 refine ⟨_, rfl, ?_⟩)
  all_goals
    go_wp2_with fail
    go_ret
    exact ⟨_, rfl, HQ.out.1, HQ.out.2⟩
set_option maxRecDepth 100000 in
set_option maxHeartbeats 4000000 in
theorem psweep_any {b : Nat} {G : Nat → Prop} {S : SiteS} (x0 x1 x2 x3 : Int) (w : World) (h : PS w b G S) (hI : InvS S) :
    Calls Tryz.prog 15 #[.pointer (some ⟨b, 0, none⟩), .agg #[.int .i64 x0, .int .i64 x1, .int .i64 x2, .int .i64 x3]] w fun e w' => e = .returned (.tuple #[]) ∧ PPo w b G { S with l := sweepL (minZ x0 S.a0) (minZ x1 S.a1) (minZ x2 S.a2) (minZ x3 S.a3) S.l } w' := by
  have hb := boxed (Below.refl _ w) (.cells #[.int .i64 x0, .int .i64 x1, .int .i64 x2, .int .i64 x3] 32)
  have RA := RowL.new (w := w) (T := 32) [.int .i64 x0, .int .i64 x1, .int .i64 x2, .int .i64 x3] rfl
  obtain ⟨lv, bm, F, log, waits, PM0, hl, hw, hG⟩ := h
  have PM := PM0.later hb
  have k1 := PM.box.cell 1 _ rfl
  have k2 := PM.box.cell 2 _ rfl
  have k3 := PM.box.cell 3 _ rfl
  have k4 := PM.box.cell 4 _ rfl
  have r0 := RA.cell 0 _ rfl
  have r1 := RA.cell 1 _ rfl
  have r2 := RA.cell 2 _ rfl
  have r3 := RA.cell 3 _ rfl
  have MI : Hid (∀ W, Below w.heap.size w W → Calls Tryz.prog 67 #[.agg #[.int .i64 x0, .int .i64 x1, .int .i64 x2, .int .i64 x3], .agg #[.int .i64 S.a0, .int .i64 S.a1, .int .i64 S.a2, .int .i64 S.a3]] W fun e w' => e = .returned (.agg #[.int .i64 (minZ x0 S.a0), .int .i64 (minZ x1 S.a1), .int .i64 (minZ x2 S.a2), .int .i64 (minZ x3 S.a3)]) ∧ Below w.heap.size w w') := fun W hW => (min_any x0 x1 x2 x3 S.a0 S.a1 S.a2 S.a3 W).mono fun e w' ⟨h1, h2⟩ => ⟨h1, behind hW h2⟩
  have SW : Hid (∀ W, Below w.heap.size w W → Calls Tryz.prog 66 #[.pointer (some ⟨b, 25, none⟩), .agg #[.int .i64 (minZ x0 S.a0), .int .i64 (minZ x1 S.a1), .int .i64 (minZ x2 S.a2), .int .i64 (minZ x3 S.a3)]] W fun e w' => e = .returned (.tuple #[]) ∧ Hid (PPo w b G { S with l := sweepL (minZ x0 S.a0) (minZ x1 S.a1) (minZ x2 S.a2) (minZ x3 S.a3) S.l } w')) := fun W hW =>
    (qSweep_any (minZ x0 S.a0) (minZ x1 S.a1) (minZ x2 S.a2) (minZ x3 S.a3) W (PM0.later hW).st hI.many hI.apart hI.ok).mono fun e w' ⟨h1, h2⟩ => by
      obtain ⟨F', m1, m2, m3⟩ := (PM0.later hW).store h2
      have hGb : ∀ k, (∃ m ∈ log ++ waits, m.blk k) → k < w.heap.size := fun k ⟨m, hm, e⟩ => (PM0.hold m hm).1.blk_lt k e
      refine ⟨h1, fun k => footQ b lv bm F' k ∨ ∃ m ∈ log ++ waits, m.blk k, ⟨lv, bm, F', log, waits, m1, hl, hw, fun k => Iff.rfl⟩, fun k hk => ?_, (Touch.ofBelow hW).more ⟨m3.os, m3.tape, m3.output, m3.size, fun k hk hn => m3.block k hk (fun e => hn ((hG k).2 (.inl e)))⟩ (fun k hk => .inl hk)⟩
      rcases hk with h3 | h3
      · rcases m2 k h3 with h4 | h4
        · exact .inl ((hG k).2 (.inl h4))
        · exact .inr (by have := hW.size; omega)
      · exact .inl ((hG k).2 (.inr h3))
  have hbD := hb.drew
  clear PM0 PM hI hl hw hG
  go_enter Tryz.func15, Tryz.ntmps15
  go_wp2_with fail
  go_region_law (first
    | (refine step_call rfl 67 #[.agg #[.int .i64 x0, .int .i64 x1, .int .i64 x2, .int .i64 x3], .agg #[.int .i64 S.a0, .int .i64 S.a1, .int .i64 S.a2, .int .i64 S.a3]] (by go_simp) (MI.out _ hbD) ?_
       rintro e w2 ⟨rfl, hb2⟩
       refine ⟨_, rfl, ?_⟩)
    | (refine step_call rfl 66 #[.pointer (some ⟨b, 25, none⟩), .agg #[.int .i64 (minZ x0 S.a0), .int .i64 (minZ x1 S.a1), .int .i64 (minZ x2 S.a2), .int .i64 (minZ x3 S.a3)]] (by go_simp) (SW.out _ hb2) ?_
       rintro e w3 ⟨rfl, HQ⟩
       refine ⟨_, rfl, ?_⟩))
  all_goals
    go_wp2_with fail
    go_end0
    exact ⟨rfl, HQ.out⟩

end Go.Proofs.YtplbdmcfghhbdaaGreatDoor
