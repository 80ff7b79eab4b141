/-
  A site of the program, as a thing in memory that lies apart; one of several changes, and what it tells is nobody's.
  Towards a commit at a site of the program: its error, what comes of it, what is told.
  A new site of the program, and what it knows of the others, as the model runs it (site.New, site.Site.Knows).
  What another one lacks, at a site of the program.
  What a site of the program has applied, as the model runs it.
  What a site of the program reads.
  What a site of the program tells, as the model runs it: Waits, All.
-/
import Derived.Test.YtknejedgddlabaaDoorSiteD
import Derived.Test.YtknejedgddlabaaDoorPGo
import Derived.Test.YtknejedgddlabaaDoorSiteB
import Derived.Test.YtknejedgddlabaaDoorSiteA
import Derived.Test.YtknejedgddlabaaDoorSiteG
import Derived.Test.YtknejedgddlabaaDoorSiteH
namespace Go.Proofs.YtknejedgddlabaaDoor
open Go.RowKit

/-- a site of the program -/
def siteP (b : Nat) (S : SiteS) : Part := ⟨fun w G => PS w b G S, fun _ _ h => h.lt, fun _ _ _ h => h.kept⟩
/-- one of them changes, and new blocks are nobody's -/
theorem AsideAt.stepX {w w' : World} {n o : Nat} {ps ps' : Nat → Part} {Gs : Nat → Nat → Prop} {X Z G' : Nat → Prop} (h : AsideAt w n ps Gs X o NoY) {i : Nat} (hi : i < n) {p : Part} (p1 : p.is w' G') (p2 : ∀ k, G' k → Gs i k ∨ w.heap.size ≤ k) (tt : Touch (Gs i) w w') (hZ : ∀ k, Z k → w.heap.size ≤ k ∧ k < w'.heap.size ∧ ¬ G' k) (e1 : ps' i = p) (e2 : ∀ j, j < n → j ≠ i → ps' j = ps j) (ho : i ≠ o) : Aside w' n ps' (fun k => X k ∨ Z k) o NoY ∧ Keeps X w w' := by
  obtain ⟨_, hK⟩ := h.step (ps' := ps') hi ⟨G', p1, p2, tt⟩ e1 e2 ho
  refine ⟨⟨fun j => if j = i then G' else Gs j, fun j hj => ?_, fun a b k ha hb hab hk hk2 => ?_, fun k hk => ?_, fun k hk => hk.elim⟩, hK.os, hK.tape, hK.output, hK.size, fun k hk => hK.block k (.inl hk)⟩
  · by_cases hji : j = i
    · rw [if_pos hji, hji, e1]; exact p1
    · rw [if_neg hji, e2 j hj hji]
      exact (ps j).kept _ _ _ (h.is j hj) (fun k hk => tt.block k ((ps j).lt _ _ (h.is j hj) k hk) (fun e => h.apart j i k hj hi hji hk e)) tt.size
  · by_cases ga : a = i
    · rw [if_pos ga] at hk
      have gb : b ≠ i := fun e => hab (ga.trans e.symm)
      rw [if_neg gb] at hk2
      rcases p2 k hk with h1 | h1
      · exact h.apart i b k hi hb (Ne.symm gb) h1 hk2
      · have := (ps b).lt _ _ (h.is b hb) k hk2; omega
    · rw [if_neg ga] at hk
      by_cases gb : b = i
      · rw [if_pos gb] at hk2
        rcases p2 k hk2 with h1 | h1
        · exact h.apart a i k ha hi ga hk h1
        · have := (ps a).lt _ _ (h.is a ha) k hk; omega
      · rw [if_neg gb] at hk2
        exact h.apart a b k ha hb hab hk hk2
  · rcases hk with hk | hk
    · refine ⟨Nat.lt_of_lt_of_le (h.free k hk).1 tt.size, fun j hj hg => ?_⟩
      by_cases hji : j = i
      · rw [if_pos hji] at hg
        rcases p2 k hg with h1 | h1
        · exact (h.free k hk).2 i hi h1
        · have := (h.free k hk).1; omega
      · rw [if_neg hji] at hg
        exact (h.free k hk).2 j hj hg
    · have z := hZ k hk
      refine ⟨z.2.1, fun j hj hg => ?_⟩
      by_cases hji : j = i
      · rw [if_pos hji] at hg
        exact z.2.2 hg
      · rw [if_neg hji] at hg
        have := (ps j).lt _ _ (h.is j hj) k hg
        omega

end Go.Proofs.YtknejedgddlabaaDoor

namespace Go.Proofs.YtknejedgddlabaaDoor
open Go.RowKit

theorem nextP_is {lw lc now x y ne : Int} (h : nextP lw lc now = (x, y, ne)) (w : World) :
    Calls Tryd.prog 10 #[.agg #[.int .i64 lw, .int .i64 lc], .int .i64 now] w fun e w' => e = .returned (.tuple #[.agg #[.int .i64 x, .int .i64 y], errV ne]) ∧ Below w.heap.size w w' := by
  unfold nextP at h
  split at h
  · rename_i g
    injection h with h1 h2
    injection h2 with h2 h3
    subst h1 h2 h3
    exact next_range1 lw lc now w g
  · rename_i g
    have g' : (timeB lw && timeB lc) = true := by simpa using g
    have hb : 0 ≤ lc ∧ lc ≤ 1099511627776 := by
      have h' := g'
      simp [timeB] at h'
      omega
    split at h
    · rename_i g2
      injection h with h1 h2
      injection h2 with h2 h3
      subst h1 h2 h3
      exact next_range2 lw lc now w g' g2
    · rename_i g2
      have g2' : timeB now = true := by simpa using g2
      split at h
      · rename_i g3
        injection h with h1 h2
        injection h2 with h2 h3
        subst h1 h2 h3
        exact next_wall lw lc now w g' g2' g3
      · rename_i g3
        split at h
        · rename_i g4
          injection h with h1 h2
          injection h2 with h2 h3
          subst h1 h2 h3
          exact next_full lw lc now w g' g2' g3 (by simp; omega)
        · rename_i g4
          injection h with h1 h2
          injection h2 with h2 h3
          subst h1 h2 h3
          exact next_count lw lc now w g' g2' g3 (by simp; omega) hb.1 (by omega)

/-- the error of a Commit, and the site and the transaction behind it -/
def comE (S : SiteS) (now d0 d1 d2 d3 : Int) (ws : List Wr) : Int := commitE S S.log.length now d0 d1 d2 d3 ws
def comT (S : SiteS) (now d0 d1 d2 d3 : Int) (ws : List Wr) : TxP := if comE S now d0 d1 d2 d3 ws = 0 then commitT S now d0 d1 d2 d3 ws else ⟨0, 0, 0, 0, 0, 0, 0, 0, []⟩
def comS (S : SiteS) (now d0 d1 d2 d3 : Int) (ws : List Wr) : SiteS := if comE S now d0 d1 d2 d3 ws = 0 then applyS S (commitT S now d0 d1 d2 d3 ws) else S
def CommitIs (w : World) (b : Nat) (G : Nat → Prop) (S : SiteS) (now d0 d1 d2 d3 : Int) (ws : List Wr) (e : Ending) (w' : World) : Prop :=
  ∃ m : TxM, e = .returned (.tuple #[txV m, errV (comE S now d0 d1 d2 d3 ws)]) ∧ m.t = comT S now d0 d1 d2 d3 ws ∧ Hid (WrIn w' m.wa m.wc m.t.ws ∧ PPo w b G (comS S now d0 d1 d2 d3 ws) w')
/-- the same, and where what is told lies: in blocks that are new, and not the site's -/
def CommitA (w : World) (b : Nat) (G : Nat → Prop) (S : SiteS) (now d0 d1 d2 d3 : Int) (ws : List Wr) (e : Ending) (w' : World) : Prop :=
  ∃ (m : TxM) (G' : Nat → Prop), e = .returned (.tuple #[txV m, errV (comE S now d0 d1 d2 d3 ws)]) ∧ m.t = comT S now d0 d1 d2 d3 ws ∧ Hid (WrIn w' m.wa m.wc m.t.ws ∧ PS w' b G' (comS S now d0 d1 d2 d3 ws) ∧ (∀ k, G' k → G k ∨ w.heap.size ≤ k) ∧ Touch G w w' ∧ ∀ k, m.blk k → w.heap.size ≤ k ∧ ¬ G' k)
theorem pCommit_results {tmps : Array Value} {w : World} {b : Nat} {m : TxM} {ev : Value} (h : RowL w b (txC m)) (h2 : tmps[8]? = some (.pointer (some ⟨b, 0, none⟩))) (h3 : tmps[9]? = some ev) :
    (results Tryd.f83 tmps).run Tryd.prog w = .ok (.tuple #[txV m, ev]) w := by
  have z0 := h.cell 0 _ rfl
  have z1 := h.cell 1 _ rfl
  have z2 := h.cell 2 _ rfl
  have z3 := h.cell 3 _ rfl
  have z4 := h.cell 4 _ rfl
  have z5 := h.cell 5 _ rfl
  have z6 := h.cell 6 _ rfl
  have z7 := h.cell 7 _ rfl
  have z8 := h.cell 8 _ rfl
  simp [results, Tryd.results83, go_sem, h2, h3, z0, z1, z2, z3, z4, z5, z6, z7, z8, txV]
theorem commitT_ok {S : SiteS} {now d0 d1 d2 d3 : Int} {ws : List Wr} (hI : InvS S) (h : comE S now d0 d1 d2 d3 ws = 0) : InvS (applyS S (commitT S now d0 d1 d2 d3 ws)) ∧ 1 ≤ ws.length ∧ ws.length ≤ 5 ∧ S.log.length < 200 := by
  obtain ⟨h1, h2, h3, h4, h5⟩ := commitE_zero h
  have hw : 1 ≤ ws.length ∧ ws.length ≤ 5 := by
    simp only [okWs, Bool.and_eq_true, inB_iff] at h1
    omega
  have ho := hI.own
  have hd := hI.dep S.id
  refine ⟨hI.applied ⟨hI.id0, hI.id3⟩ ⟨?_, ?_⟩ hw (fun _ => ?_) (by omega), hw.1, hw.2, by omega⟩
  · show 0 ≤ depOf S.id _ _ _ _ + 1
    have := hd.1
    omega
  · show depOf S.id _ _ _ _ + 1 ≤ _
    omega
  · show depOf S.id _ _ _ _ + 1 ≤ _
    omega

theorem touch_cell {F : Nat → Prop} {w W : World} {p : Addr} (h : Touch F w W) (hB : w.heap.size ≤ p.block) (v : Value) : Touch F w (W.setCell p v) :=
  ⟨h.os, h.tape, h.output, by simpa [World.setCell] using h.size, fun k hk hn => (Below.heap_setCell _ _ _ _ (by omega)).trans (h.block k hk hn)⟩
theorem touch_tx {F : Nat → Prop} {w W : World} {b : Nat} (h : Touch F w W) (hB : w.heap.size ≤ b) (x0 x1 x2 x3 x4 x5 x6 x7 : Int) (v : Value) : Touch F w (setTx W b x0 x1 x2 x3 x4 x5 x6 x7 v) :=
  touch_cell (touch_cell (touch_cell (touch_cell (touch_cell (touch_cell (touch_cell (touch_cell (touch_cell h hB _) hB _) hB _) hB _) hB _) hB _) hB _) hB _) hB _
/-- behind it: the site has it, and a copy is told -/
theorem commit_fin {w w7 w8 w9 : World} {b : Nat} {lv lv' : Value} {bm : Nat} {F F' G : Nat → Prop} {S : SiteS} {log waits : List TxM} {now d0 d1 d2 d3 : Int} {x0 x1 x2 x3 x4 x5 x6 x7 : Int} {ws : List Wr} {wa1 wa2 : Option Addr} {wc1 wc2 : Nat} (hP : PS w b G S) (h7 : Below w.heap.size w w7) (hs : w.heap.size + 1 < w7.heap.size)
    (PM8 : PMem w8 b lv' bm F' (applyS S ⟨x0, x1, x2, x3, x4, x5, x6, x7, ws⟩) (log ++ [⟨⟨x0, x1, x2, x3, x4, x5, x6, x7, ws⟩, wa1, wc1⟩]) waits) (nf : ∀ k, footQ b lv' bm F' k → footQ b lv bm F k ∨ w7.heap.size ≤ k) (tt : Touch (footQ b lv bm F) w7 w8)
    (hk1 : ∀ k, (⟨⟨x0, x1, x2, x3, x4, x5, x6, x7, ws⟩, wa1, wc1⟩ : TxM).blk k → w.heap.size + 1 < k) (hl : log.map (·.t) = S.log) (hw : waits.map (·.t) = S.waits) (hG : ∀ k, G k ↔ (footQ b lv bm F k ∨ ∃ m ∈ log ++ waits, m.blk k)) (h9 : Below w8.heap.size w8 w9)
    (W9 : WrIn w9 wa2 wc2 ws) (hk2 : ∀ k, (⟨⟨x0, x1, x2, x3, x4, x5, x6, x7, ws⟩, wa2, wc2⟩ : TxM).blk k → w.heap.size + 1 < k ∧ w8.heap.size ≤ k) (hct : commitT S now d0 d1 d2 d3 ws = ⟨x0, x1, x2, x3, x4, x5, x6, x7, ws⟩) (hE : comE S now d0 d1 d2 d3 ws = 0) :
    Hid (CommitA w b G S now d0 d1 d2 d3 ws (.returned (.tuple #[txV ⟨⟨x0, x1, x2, x3, x4, x5, x6, x7, ws⟩, wa2, wc2⟩, .nilIface])) (setTx w9 (w.heap.size + 1) x0 x1 x2 x3 x4 x5 x6 x7 (.slice wa2 ws.length wc2))) := by
  have tG : Touch G w w9 := ((Touch.ofBelow h7).more ⟨tt.os, tt.tape, tt.output, tt.size, fun k hk hn => tt.block k hk (fun e => hn ((hG k).2 (.inl e)))⟩ (fun k hk => .inl hk)).trans (Touch.ofBelow h9)
  have hblk : ∀ k, k ≠ w.heap.size + 1 → (setTx w9 (w.heap.size + 1) x0 x1 x2 x3 x4 x5 x6 x7 (.slice wa2 ws.length wc2)).heap[k]? = w9.heap[k]? := fun k hk => setTx_block hk x0 x1 x2 x3 x4 x5 x6 x7 _
  have hsz : (setTx w9 (w.heap.size + 1) x0 x1 x2 x3 x4 x5 x6 x7 (.slice wa2 ws.length wc2)).heap.size = w9.heap.size := by simp only [setTx, World.setCell, Array.size_modify]
  have tF : Touch G w (setTx w9 (w.heap.size + 1) x0 x1 x2 x3 x4 x5 x6 x7 (.slice wa2 ws.length wc2)) := touch_tx tG (Nat.le_succ _) _ _ _ _ _ _ _ _ _
  generalize setTx w9 (w.heap.size + 1) x0 x1 x2 x3 x4 x5 x6 x7 (.slice wa2 ws.length wc2) = W at *
  have PM9 := PM8.later h9
  have lt8 := hP.lt
  have PSW : PS W b (fun k => footQ b lv' bm F' k ∨ ∃ m ∈ (log ++ [⟨⟨x0, x1, x2, x3, x4, x5, x6, x7, ws⟩, wa1, wc1⟩]) ++ waits, m.blk k) (applyS S ⟨x0, x1, x2, x3, x4, x5, x6, x7, ws⟩) := by
    refine ⟨lv', bm, F', _, waits, PM9.kept (fun k hk => hblk k (fun e => ?_)) (by omega), by rw [List.map_append, hl]; rfl, hw, fun k => Iff.rfl⟩
    rcases hk with h1 | ⟨m, hm, h1⟩
    · rcases nf k h1 with h2 | h2
      · have := lt8 k ((hG k).2 (.inl h2)); omega
      · omega
    · rcases List.mem_append.1 hm with h2 | h2
      · rcases List.mem_append.1 h2 with h3 | h3
        · have := lt8 k ((hG k).2 (.inr ⟨m, List.mem_append.2 (.inl h3), h1⟩)); omega
        · rw [List.mem_singleton.1 h3] at h1
          have := hk1 k h1; omega
      · have := lt8 k ((hG k).2 (.inr ⟨m, List.mem_append.2 (.inr h2), h1⟩)); omega
  have lt9 : ∀ k, (footQ b lv' bm F' k ∨ ∃ m ∈ (log ++ [⟨⟨x0, x1, x2, x3, x4, x5, x6, x7, ws⟩, wa1, wc1⟩]) ++ waits, m.blk k) → k < w8.heap.size := PS.lt (w := w8) (b := b) (S := applyS S ⟨x0, x1, x2, x3, x4, x5, x6, x7, ws⟩) ⟨lv', bm, F', _, waits, PM8, by rw [List.map_append, hl]; rfl, hw, fun k => Iff.rfl⟩
  refine ⟨⟨⟨x0, x1, x2, x3, x4, x5, x6, x7, ws⟩, wa2, wc2⟩, _, by rw [hE]; rfl, ?_, WrIn.kept (m := ⟨⟨x0, x1, x2, x3, x4, x5, x6, x7, ws⟩, wa2, wc2⟩) (w := w9) W9 (fun k e => hblk k (by have := (hk2 k e).1; omega)), by unfold comS; rw [if_pos hE, hct]; exact PSW, fun k hk => ?_, tF, fun k e => ⟨by have := (hk2 k e).1; omega, fun q => by have := lt9 k q; have := (hk2 k e).2; omega⟩⟩
  · unfold comT; rw [if_pos hE, hct]
  · rcases hk with h1 | ⟨m, hm, h1⟩
    · rcases nf k h1 with h2 | h2
      · exact .inl ((hG k).2 (.inl h2))
      · exact .inr (by omega)
    · rcases List.mem_append.1 hm with h2 | h2
      · rcases List.mem_append.1 h2 with h3 | h3
        · exact .inl ((hG k).2 (.inr ⟨m, List.mem_append.2 (.inl h3), h1⟩))
        · rw [List.mem_singleton.1 h3] at h1
          have := hk1 k h1; exact .inr (by omega)
      · exact .inl ((hG k).2 (.inr ⟨m, List.mem_append.2 (.inr h2), h1⟩))


end Go.Proofs.YtknejedgddlabaaDoor

namespace Go.Proofs.YtknejedgddlabaaDoor
open Go.RowKit

set_option maxHeartbeats 1000000 in
theorem isSiteP_is {n : Int} {v : Bool} (h : (decide (0 ≤ n) && decide (n < 4)) = v) (w : World) :
    Calls Tryd.prog 85 #[.int .i64 n] w fun e w' => e = .returned (.bool v) ∧ w' = w := by
  by_cases h0 : 0 ≤ n
  · by_cases h4 : n < 4
    · have e : v = true := by rw [← h]; simp [h0, h4]
      subst e
      clear h
      go_enter Tryd.func85, Tryd.ntmps85
      go_wp2_with fail
      go_ret
      exact ⟨rfl, rfl⟩
    · have e : v = false := by rw [← h]; simp [h4]
      subst e
      clear h
      go_enter Tryd.func85, Tryd.ntmps85
      go_wp2_with fail
      go_ret
      exact ⟨rfl, rfl⟩
  · have e : v = false := by rw [← h]; simp [h0]
    subst e
    clear h
    go_enter Tryd.func85, Tryd.ntmps85
    go_wp2_with fail
    go_ret
    exact ⟨rfl, rfl⟩

theorem new_ps {w : World} {id : Int} (vs : List Value) (hvs : vs = [.int .i64 id, .int .i64 0, .int .i64 0, .int .i64 0, .int .i64 0, .int .i64 0, .int .i64 0, .slice none 0 0, .map (some w.heap.size), .int .i64 0, .int .i64 0, .int .i64 0, .int .i64 0, .int .i64 0, .int .i64 0, .int .i64 0, .int .i64 0, .int .i64 0, .int .i64 0, .int .i64 0, .int .i64 0, .int .i64 0, .int .i64 0, .int .i64 0, .int .i64 0, .slice none 0 0, .slice none 0 0, .slice none 0 0, .slice none 0 0, .slice none 0 0, .slice none 0 0, .slice none 0 0, .slice none 0 0]) (T : TypeId) :
    PS ((w.alloc (.map #[] 0)).alloc (.cells vs.toArray T)) (w.heap.size + 1) (fun k => k = w.heap.size + 1 ∨ k = w.heap.size) (newS id) := by
  have hs : (w.alloc (.map #[] 0)).heap.size = w.heap.size + 1 := by simp
  have R := RowL.new (w := w.alloc (.map #[] 0)) (T := T) (n := w.heap.size + 1) vs hs
  generalize hW : (w.alloc (.map #[] 0)).alloc (.cells vs.toArray T) = W at R
  have hb := boxed (Below.refl _ (w.alloc (.map #[] 0))) (.cells vs.toArray T)
  rw [hW] at hb
  have M0 := (PMap.made w).kept (hb.block _ (PMap.made w).lt)
  subst hvs
  refine ⟨.slice none 0 0, w.heap.size, fun k => footP (w.heap.size + 1) (fun _ => .slice none 0 0) k, [], [], ⟨⟨fun j v hv => ?_, fun j hj => R.free j (by simp [psiteC] at hj ⊢; omega), R.lt⟩, ?_, World.ownsRow_nil _ _ _ _, M0, by simp [Value.ownBlock], by omega, by simp [Value.ownBlock], fun k e => by simp [Value.ownBlock] at e, ?_, by simp⟩, rfl, rfl, fun k => ?_⟩
  · refine R.cell j v ?_
    have hj : j < 25 := by
      have := (List.getElem?_eq_some_iff.1 hv).1
      simpa [psiteC] using this
    rw [← hv]
    match j, hj with
    | 0, _ => rfl
    | 1, _ => rfl
    | 2, _ => rfl
    | 3, _ => rfl
    | 4, _ => rfl
    | 5, _ => rfl
    | 6, _ => rfl
    | 7, _ => rfl
    | 8, _ => rfl
    | 9, _ => rfl
    | 10, _ => rfl
    | 11, _ => rfl
    | 12, _ => rfl
    | 13, _ => rfl
    | 14, _ => rfl
    | 15, _ => rfl
    | 16, _ => rfl
    | 17, _ => rfl
    | 18, _ => rfl
    | 19, _ => rfl
    | 20, _ => rfl
    | 21, _ => rfl
    | 22, _ => rfl
    | 23, _ => rfl
    | 24, _ => rfl
  · refine ⟨fun _ => .slice none 0 0, fun _ => [], ⟨⟨fun j v hv => ?_, fun j hj => R.free (25 + j) (by simp at hj ⊢; omega), R.lt⟩, fun k _ => World.ownsRow_nil _ _ _ _, fun k _ => ?_, fun k _ => by simp [Value.ownBlock], fun i j _ _ _ g e => by simp [Value.ownBlock] at e⟩, ?_, fun k => Iff.rfl⟩
    · refine R.cell (25 + j) v ?_
      rw [← hv]
      have hj : j < 8 := by
        have := (List.getElem?_eq_some_iff.1 hv).1
        simpa using this
      match j, hj with
      | 0, _ => rfl
      | 1, _ => rfl
      | 2, _ => rfl
      | 3, _ => rfl
      | 4, _ => rfl
      | 5, _ => rfl
      | 6, _ => rfl
      | 7, _ => rfl
    · exact List.Pairwise.nil
    · exact ⟨fun k _ => by simp [keyL, newS], fun x hx => by simp [newS] at hx⟩
  · rintro (h | ⟨i, hi, h⟩)
    · omega
    · simp [Value.ownBlock] at h
  · constructor
    · rintro (h | h)
      · exact .inl (.inl h)
      · exact .inl (.inr (.inr (.inl h)))
    · rintro ((h | h | h | h) | ⟨m, hm, h⟩)
      · exact .inl h
      · simp [Value.ownBlock] at h
      · exact .inr h
      · rcases h with h | ⟨i, hi, h⟩
        · exact .inl h
        · simp [Value.ownBlock] at h
      · simp at hm

set_option maxRecDepth 100000 in
set_option maxHeartbeats 4000000 in
theorem new_any (id : Int) (w : World) (h0 : 0 ≤ id) (h4 : id < 4) :
    Calls Tryd.prog 47 #[.int .i64 id] w fun e w' => (e = .returned (.tuple #[.pointer (some ⟨w.heap.size + 1, 0, none⟩), .nilIface])) ∧ PS w' (w.heap.size + 1) (fun k => k = w.heap.size + 1 ∨ k = w.heap.size) (newS id) ∧ Below w.heap.size w w' := by
  have IS := isSiteP_is (n := id) (v := true) (by simp [h0, h4]) w
  have hmm := @run_makeMap Tryd.prog
  go_enter Tryd.func47, Tryd.ntmps47
  go_wp2_with fail
  refine IS.mono ?_
  rintro e w2 ⟨rfl, rfl⟩
  go_wp2_with fail
  exact bodyPost_ret (v := .tuple #[.pointer (some ⟨w2.heap.size + 1, 0, none⟩), .nilIface]) (by simp [results, Tryd.results47, go_sem]) rfl ⟨rfl, new_ps _ rfl _, boxed (boxed (Below.refl _ _) _) _⟩

set_option maxRecDepth 100000 in
set_option maxHeartbeats 4000000 in
theorem new_no (id : Int) (w : World) (h : (decide (0 ≤ id) && decide (id < 4)) = false) :
    Calls Tryd.prog 47 #[.int .i64 id] w fun e w' => e = .returned (.tuple #[.pointer none, errV 2]) ∧ Below w.heap.size w w' := by
  have IS := isSiteP_is h w
  clear h
  go_enter Tryd.func47, Tryd.ntmps47
  go_wp2_with fail
  refine IS.mono ?_
  rintro e w2 ⟨rfl, rfl⟩
  go_wp2_with fail
  exact bodyPost_ret (v := .tuple #[.pointer none, errV 2]) (by simp [results, Tryd.results47, go_sem]; rfl) rfl ⟨rfl, Below.refl _ _⟩

/-- what it knows of one is more -/
def knowsS (S : SiteS) (k : Nat) (x0 x1 x2 x3 : Int) : SiteS := { S with oth := fun j => if j = k * 4 then maxZ (S.oth j) x0 else if j = k * 4 + 1 then maxZ (S.oth j) x1 else if j = k * 4 + 2 then maxZ (S.oth j) x2 else if j = k * 4 + 3 then maxZ (S.oth j) x3 else S.oth j }

end Go.Proofs.YtknejedgddlabaaDoor

namespace Go.Proofs.YtknejedgddlabaaDoor
open Go.RowKit

/-- those that a vector has not -/
def missP (S : SiteS) (h0 h1 h2 h3 : Int) : List TxP := S.log.filter (fun t => decide (depOf t.site h0 h1 h2 h3 < t.seq))
theorem missP_map {S : SiteS} {log : List TxM} (h : log.map (·.t) = S.log) (h0 h1 h2 h3 : Int) : (log.filter (missB h0 h1 h2 h3)).map (·.t) = missP S h0 h1 h2 h3 := by
  unfold missP
  rw [← h, List.filter_map]
  rfl
/-- a row of them, with their writes -/
def MissTo (w : World) (L : List TxP) (v : Value) (w' : World) : Prop := ∃ kept : List TxM, kept.map (·.t) = L ∧ (∃ B, w'.ownsRow B 40 9 v kept.length (txsC kept)) ∧ (∀ m ∈ kept, WrIn w' m.wa m.wc m.t.ws) ∧ Below w.heap.size w w'

theorem pmissing_any {b : Nat} {G : Nat → Prop} {S : SiteS} (h0 h1 h2 h3 : Int) (w : World) (h : PS w b G S) (hI : InvS S) :
    Calls Tryd.prog 53 #[.pointer (some ⟨b, 0, none⟩), .agg #[.int .i64 h0, .int .i64 h1, .int .i64 h2, .int .i64 h3]] w fun e w' => ∃ v, e = .returned v ∧ MissTo w (missP S h0 h1 h2 h3) v w' := by
  obtain ⟨lv, bm, F, log, waits, h, hl, _, _⟩ := h
  have hln : log.length = S.log.length := by rw [← hl]; simp
  refine (missing_any h0 h1 h2 h3 w h (fun m hm => hI.lsite m.t (by rw [← hl]; exact List.mem_map.2 ⟨m, hm, rfl⟩)) (by have := hI.log; omega)).mono fun e w' ⟨v, h1', kept, k1, k2, k3, k4⟩ => ⟨v, h1', kept, ?_, k2, k3, k4⟩
  rw [← k1]
  exact missP_map hl _ _ _ _

end Go.Proofs.YtknejedgddlabaaDoor

namespace Go.Proofs.YtknejedgddlabaaDoor
open Go.RowKit Go.Maps

theorem PS.mem {w : World} {b : Nat} {G : Nat → Prop} {S : SiteS} (h : PS w b G S) : ∃ lv bm F log waits, PMem w b lv bm F S log waits ∧ log.length = S.log.length ∧ waits.length = S.waits.length := by
  obtain ⟨lv, bm, F, log, waits, h, h1, h2, _⟩ := h
  exact ⟨lv, bm, F, log, waits, h, by rw [← h1]; simp, by rw [← h2]; simp⟩
theorem InvS.many {S : SiteS} (h : InvS S) : S.l.length ≤ 1000 := by
  have := h.len
  have := h.log
  omega
set_option maxRecDepth 100000 in
set_option maxHeartbeats 4000000 in
theorem applied_any {b : Nat} {G : Nat → Prop} {S : SiteS} (w : World) (h : PS w b G S) :
    Calls Tryd.prog 49 #[.pointer (some ⟨b, 0, none⟩)] w fun e w' => e = .returned (.agg #[.int .i64 S.a0, .int .i64 S.a1, .int .i64 S.a2, .int .i64 S.a3]) ∧ Below w.heap.size w w' := by
  obtain ⟨lv, bm, F, log, waits, PM, _, _⟩ := h.mem
  have k1 := PM.box.cell 1 _ rfl
  have k2 := PM.box.cell 2 _ rfl
  have k3 := PM.box.cell 3 _ rfl
  have k4 := PM.box.cell 4 _ rfl
  have hlt := PM.box.lt
  clear PM h
  go_enter Tryd.func49, Tryd.ntmps49
  go_wp2_with fail
  exact bodyPost_ret (v := .agg #[.int .i64 S.a0, .int .i64 S.a1, .int .i64 S.a2, .int .i64 S.a3]) (by simp [results, Tryd.results49, go_sem]) rfl ⟨rfl, boxed (Below.refl _ _) _⟩

end Go.Proofs.YtknejedgddlabaaDoor

namespace Go.Proofs.YtknejedgddlabaaDoor
open Go.RowKit

theorem pread_site {b : Nat} {G : Nat → Prop} {S : SiteS} (key a0 a1 a2 a3 : Int) (w : World) (h : PS w b G S) (hI : InvS S) :
    Calls Tryd.prog 84 #[.pointer (some ⟨b, 0, none⟩), .int .i64 key, .agg #[.int .i64 a0, .int .i64 a1, .int .i64 a2, .int .i64 a3]] w fun e w' =>
      e = .returned (.tuple #[.agg (verL (readS S key a0 a1 a2 a3).1).toArray, errV (readS S key a0 a1 a2 a3).2]) ∧ Below w.heap.size w w' := by
  obtain ⟨lv, bm, F, log, waits, h, _, _, _⟩ := h
  exact pread_any key a0 a1 a2 a3 w h hI

end Go.Proofs.YtknejedgddlabaaDoor

namespace Go.Proofs.YtknejedgddlabaaDoor
open Go.RowKit Go.Maps

set_option maxRecDepth 100000 in
set_option maxHeartbeats 4000000 in
theorem waits_any {b : Nat} {G : Nat → Prop} {S : SiteS} (w : World) (h : PS w b G S) :
    Calls Tryd.prog 52 #[.pointer (some ⟨b, 0, none⟩)] w fun e w' => e = .returned (.int .i64 S.waits.length) ∧ Below w.heap.size w w' := by
  obtain ⟨lv, bm, F, log, waits, PM, _, hw⟩ := h.mem
  have k8 := PM.box.cell 8 _ rfl
  obtain ⟨_, _, DD, hown, hMI⟩ := PM.map
  have LEN : ∀ ty, (Builtin.len_ #[149] ty #[.map (some bm)]).run Tryd.prog w = .ok (.int .i64 S.waits.length) w := fun ty => by
    have := hown.len Tryd.underlying149 ty
    rw [hMI.size, hw] at this
    exact this
  clear PM h hown hMI hw
  go_enter Tryd.func52, Tryd.ntmps52
  go_wp2_with fail
  go_ret
  exact ⟨rfl, Below.refl _ _⟩
set_option maxRecDepth 100000 in
set_option maxHeartbeats 4000000 in
theorem pall_any {b : Nat} {G : Nat → Prop} {S : SiteS} (w : World) (h : PS w b G S) (hI : InvS S) :
    Calls Tryd.prog 51 #[.pointer (some ⟨b, 0, none⟩)] w fun e w' => ∃ v, e = .returned v ∧ w'.ownsRow w.heap.size 9 1 v 8 (toldC S.a0 S.a1 S.a2 S.a3 S.l 8) ∧ Below w.heap.size w w' := by
  obtain ⟨lv, bm, F, log, waits, PM, _, _⟩ := h.mem
  have k1 := PM.box.cell 1 _ rfl
  have k2 := PM.box.cell 2 _ rfl
  have k3 := PM.box.cell 3 _ rfl
  have k4 := PM.box.cell 4 _ rfl
  have MA : Hid (Calls Tryd.prog 39 #[.pointer (some ⟨b, 25, none⟩), .agg #[.int .i64 S.a0, .int .i64 S.a1, .int .i64 S.a2, .int .i64 S.a3]] w.drew fun e w' => ∃ v, e = .returned v ∧ Hid (w'.ownsRow w.heap.size 9 1 v 8 (toldC S.a0 S.a1 S.a2 S.a3 S.l 8) ∧ Below w.heap.size w w')) :=
    (qAll_any S.a0 S.a1 S.a2 S.a3 w.drew (PM.later (Below.refl _ w).drew).st hI.many hI.apart hI.ok).mono fun e w' ⟨v, h1, h2, h3⟩ => ⟨v, h1, h2, behind (Below.refl _ w).drew h3⟩
  clear PM h hI
  go_enter Tryd.func51, Tryd.ntmps51
  go_wp2_with fail
  go_region_law (refine step_call rfl 39 #[.pointer (some ⟨b, 25, none⟩), .agg #[.int .i64 S.a0, .int .i64 S.a1, .int .i64 S.a2, .int .i64 S.a3]] (by go_simp) MA.out ?_
                 rintro e w2 ⟨v, rfl, HQ⟩
                 refine ⟨_, rfl, ?_⟩)
  all_goals
    go_wp2_with fail
    go_ret
    exact ⟨_, rfl, HQ.out.1, HQ.out.2⟩

end Go.Proofs.YtknejedgddlabaaDoor
