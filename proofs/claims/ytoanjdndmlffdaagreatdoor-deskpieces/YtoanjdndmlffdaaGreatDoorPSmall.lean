import Derived.Test.YtoanjdndmlffdaaGreatDoorSiteD
namespace Go.Proofs.YtoanjdndmlffdaaGreatDoor
open Go.RowKit Go.Maps
/-- a copy of writes, in a block of its own -/
def CloneIs (w : World) (ws : List Wr) (e : Ending) (w' : World) : Prop := ∃ g c, e = .returned (.slice (some ⟨g, 0, none⟩) ws.length c) ∧ WrIn w' (some ⟨g, 0, none⟩) c ws ∧ w.heap.size ≤ g ∧ Below w.heap.size w w'

theorem eqNil (p : Addr) (n c : Nat) (w : World) : (binOp .eql 88 (.slice (some p) n c) (.slice none 0 0)).run Tryz.prog w = .ok (.bool false) w := by kernel_rfl
set_option maxRecDepth 100000 in
set_option maxHeartbeats 4000000 in
theorem clone_any {a : Option Addr} {cap : Nat} {ws : List Wr} (w : World) (hW : WrIn w a cap ws) (h1 : 1 ≤ ws.length) (h5 : ws.length ≤ 1000) :
    Calls Tryz.prog 274 #[.slice a ws.length cap] w (CloneIs w ws) := by
  obtain ⟨b, off, rfl, hc⟩ : ∃ b off, a = some ⟨b, off, none⟩ ∧ WrCells w b off ws := by
    rcases hW.held with e | e
    · rw [e] at h1; simp at h1
    · exact e
  have hl := hW.len
  obtain ⟨i0, hi, hz0, hz1, hz2⟩ := info_parts wrInfo
  have own0 := own_none w 100 rfl w.heap.size (Nat.le_refl _)
  have hb0 := boxed (Below.refl _ w) (.cells #[] 100)
  have HN : Hid (∀ j u, (wrsC ws)[j]? = some u → (w.alloc (.cells #[] 100)).cell? ((⟨b, off, none⟩ : Addr).add j) = some u) := news_wr (hc.later hb0)
  have HL : Hid (1 ≤ ws.length ∧ ws.length ≤ 1000) := ⟨h1, h5⟩
  clear hc hW h1 h5
  have hnil := eqNil
  go_enter Tryz.func274, Tryz.ntmps274
  go_wp2_with (at_builtin; refine wpList_append_lies _ rfl (.tmp 5) (.tmp 6) 88 rfl w.heap.size 100 i0 (.agg #[.int .i64 0, .string ⟨#[]⟩, .bool false]) 3 32 Tryz.underlying88 hi hz0 hz1 hz2 rfl (by decide) (.slice (some ⟨w.heap.size, 0, none⟩) 0 0) 0 [] rfl own0 ⟨b, off, none⟩ ws.length cap (wrsC ws) rfl (wrsC_length ws) HN.out (wrsC_one ws) (by have := HL.out; omega) (by have := HL.out; simp only [maxLen]; omega) (by have := HL.out; omega) (by simp) _ rfl ?_; intro g cap9 wE ownE grE egE ltE)
  go_ret
  rw [Nat.zero_add, List.nil_append] at ownE
  obtain ⟨a2, c2, e2, hW2⟩ := wrIn_own ownE
  injection e2 with e2 _ e3
  subst e2 e3
  have hg : w.heap.size ≤ g := by
    rcases egE with h | h
    · simp [Value.ownBlock] at h; omega
    · simp at h; omega
  refine ⟨g, cap9, rfl, hW2, hg, ?_⟩
  exact hb0.grown grE hb0.size (fun j hj => by simp [Value.ownBlock] at hj; omega)

theorem setTx_block {W : World} {b k : Nat} (h : k ≠ b) (x0 x1 x2 x3 x4 x5 x6 x7 : Int) (v : Value) : (setTx W b x0 x1 x2 x3 x4 x5 x6 x7 v).heap[k]? = W.heap[k]? :=
  (Below.heap_setCell _ _ _ _ h).trans ((Below.heap_setCell _ _ _ _ h).trans ((Below.heap_setCell _ _ _ _ h).trans ((Below.heap_setCell _ _ _ _ h).trans ((Below.heap_setCell _ _ _ _ h).trans ((Below.heap_setCell _ _ _ _ h).trans ((Below.heap_setCell _ _ _ _ h).trans ((Below.heap_setCell _ _ _ _ h).trans (Below.heap_setCell _ _ _ _ h))))))))
theorem tx_keep {W : World} {b c : Nat} {vs : List Value} (h : RowL W b vs) (hn : b ≠ c) (x0 x1 x2 x3 x4 x5 x6 x7 : Int) (v : Value) : RowL (setTx W c x0 x1 x2 x3 x4 x5 x6 x7 v) b vs :=
  h.kept (setTx_block hn _ _ _ _ _ _ _ _ _) (by simp [setTx, World.setCell])
theorem grown_cell {w W : World} {p : Addr} {r : Option Nat} (h : w.grownBy W r) (hB : w.heap.size ≤ p.block) (v : Value) : w.grownBy (W.setCell p v) r :=
  ⟨h.os, h.tape, h.output, by simpa [World.setCell] using h.size, fun k hk hr => (Below.heap_setCell _ _ _ _ (by omega)).trans (h.block k hk hr)⟩
theorem grown_tx {w W : World} {b : Nat} {r : Option Nat} (h : w.grownBy W r) (hB : w.heap.size ≤ b) (x0 x1 x2 x3 x4 x5 x6 x7 : Int) (v : Value) : w.grownBy (setTx W b x0 x1 x2 x3 x4 x5 x6 x7 v) r :=
  grown_cell (grown_cell (grown_cell (grown_cell (grown_cell (grown_cell (grown_cell (grown_cell (grown_cell h hB _) hB _) hB _) hB _) hB _) hB _) hB _) hB _) hB _
/-- a copy of a transaction, its writes in a block of their own -/
def CopyIs (w : World) (t : TxP) (e : Ending) (w' : World) : Prop := ∃ m, m.t = t ∧ e = .returned (txV m) ∧ WrIn w' m.wa m.wc m.t.ws ∧ (∀ k, m.blk k → w.heap.size ≤ k) ∧ Below w.heap.size w w'
theorem copy_fin {w w1 : World} {g c : Nat} {site seq wall count d0 d1 d2 d3 : Int} {ws : List Wr} {v : Value} (W1 : WrIn w1 (some ⟨g, 0, none⟩) c ws) (hgs : w.heap.size + 2 ≤ g) (hb : Below w.heap.size w w1) :
    CopyIs w ⟨site, seq, wall, count, d0, d1, d2, d3, ws⟩ (.returned (txV ⟨⟨site, seq, wall, count, d0, d1, d2, d3, ws⟩, some ⟨g, 0, none⟩, c⟩)) (setTx (w1.setCell ⟨w.heap.size, 8, none⟩ v) (w.heap.size + 1) site seq wall count d0 d1 d2 d3 v) := by
  have hb2 := hb.setCell (p := ⟨w.heap.size, 8, none⟩) (Nat.le_refl _) v
  have hbF := tx_far hb2 (Nat.le_succ _) site seq wall count d0 d1 d2 d3 v
  have n1 : g ≠ w.heap.size + 1 := by omega
  have n0 : g ≠ w.heap.size := by omega
  have hk : (setTx (w1.setCell ⟨w.heap.size, 8, none⟩ v) (w.heap.size + 1) site seq wall count d0 d1 d2 d3 v).heap[g]? = w1.heap[g]? := (setTx_block n1 site seq wall count d0 d1 d2 d3 v).trans (Below.heap_setCell _ _ _ _ n0)
  generalize setTx (w1.setCell ⟨w.heap.size, 8, none⟩ v) (w.heap.size + 1) site seq wall count d0 d1 d2 d3 v = W at *
  refine ⟨⟨⟨site, seq, wall, count, d0, d1, d2, d3, ws⟩, some ⟨g, 0, none⟩, c⟩, rfl, rfl, ?_, ?_, hbF⟩
  · refine WrIn.kept (m := ⟨⟨site, seq, wall, count, d0, d1, d2, d3, ws⟩, some ⟨g, 0, none⟩, c⟩) (w := w1) W1 (fun k e => ?_)
    obtain ⟨_, o, e⟩ := e
    injection e with e
    injection e with e1 e2
    rw [← e1]
    exact hk
  · rintro k ⟨_, o, e⟩
    injection e with e
    injection e with e1 e2
    omega
theorem copy_results {tmps : Array Value} {w : World} {b : Nat} {m : TxM} (h : RowL w b (txC m)) (h2 : tmps[2]? = some (.pointer (some ⟨b, 0, none⟩))) :
    (results Tryz.f245 tmps).run Tryz.prog w = .ok (txV m) w := by
  have z0 := h.cell 0 _ rfl
  have z1 := h.cell 1 _ rfl
  have z2 := h.cell 2 _ rfl
  have z3 := h.cell 3 _ rfl
  have z4 := h.cell 4 _ rfl
  have z5 := h.cell 5 _ rfl
  have z6 := h.cell 6 _ rfl
  have z7 := h.cell 7 _ rfl
  have z8 := h.cell 8 _ rfl
  simp [results, Tryz.results245, go_sem, h2, z0, z1, z2, z3, z4, z5, z6, z7, z8, txV]

set_option maxRecDepth 100000 in
set_option maxHeartbeats 4000000 in
theorem copyOf_any (m : TxM) (w : World) (hW : WrIn w m.wa m.wc m.t.ws) (h1 : 1 ≤ m.t.ws.length) (h5 : m.t.ws.length ≤ 1000) :
    Calls Tryz.prog 245 #[txV m] w (CopyIs w m.t) := by
  obtain ⟨⟨site, seq, wall, count, d0, d1, d2, d3, ws⟩, a, cap⟩ := m
  simp only at hW h1 h5
  show Calls Tryz.prog 245 #[.agg #[.int .i64 site, .int .i64 seq, .int .i64 wall, .int .i64 count, .int .i64 d0, .int .i64 d1, .int .i64 d2, .int .i64 d3, .slice a ws.length cap]] w _
  have RB := (RowL.new (w := w) (T := 102) [.int .i64 site, .int .i64 seq, .int .i64 wall, .int .i64 count, .int .i64 d0, .int .i64 d1, .int .i64 d2, .int .i64 d3, .slice a ws.length cap] rfl).boxed (.cells #[.int .i64 0, .int .i64 0, .int .i64 0, .int .i64 0, .int .i64 0, .int .i64 0, .int .i64 0, .int .i64 0, .slice none 0 0] 102)
  have RZ := RowL.new (w := w.alloc (.cells #[.int .i64 site, .int .i64 seq, .int .i64 wall, .int .i64 count, .int .i64 d0, .int .i64 d1, .int .i64 d2, .int .i64 d3, .slice a ws.length cap] 102)) (T := 102) (n := w.heap.size + 1) [.int .i64 0, .int .i64 0, .int .i64 0, .int .i64 0, .int .i64 0, .int .i64 0, .int .i64 0, .int .i64 0, .slice none 0 0] (by simp)
  have hb := boxed (boxed (Below.refl _ w) (.cells #[.int .i64 site, .int .i64 seq, .int .i64 wall, .int .i64 count, .int .i64 d0, .int .i64 d1, .int .i64 d2, .int .i64 d3, .slice a ws.length cap] 102)) (.cells #[.int .i64 0, .int .i64 0, .int .i64 0, .int .i64 0, .int .i64 0, .int .i64 0, .int .i64 0, .int .i64 0, .slice none 0 0] 102)
  have WI := hW.later hb
  have k8 := RB.cell 8 _ rfl
  go_enter Tryz.func245, Tryz.ntmps245
  go_wp2_with fail
  refine (clone_any _ WI h1 h5).mono ?_
  rintro e w1 ⟨g, c, rfl, W1, hg, hb1⟩
  replace RB := RB.later hb1
  replace RZ := RZ.later hb1
  replace hb := behind hb hb1
  have f8 := RB.free 8 (by simp)
  have RS := RB.set 8 (.slice (some ⟨g, 0, none⟩) ws.length c) (by simp)
  have RZ2 := RZ.far ⟨w.heap.size, 8, none⟩ (.slice (some ⟨g, 0, none⟩) ws.length c) (by simp)
  have hg2 : g < w1.heap.size := by
    rcases W1.held with e | ⟨b2, o2, e, hc⟩
    · rw [e] at h1; simp at h1
    · injection e with e; injection e with e1 e2; subst e1
      exact World.block_lt_of_cell? _ _ (hc 0 (by omega)).1
  have hgs : w.heap.size + 2 ≤ g := by simpa using hg
  have c0 := RB.cell 0 _ rfl
  have c1 := RB.cell 1 _ rfl
  have c2 := RB.cell 2 _ rfl
  have c3 := RB.cell 3 _ rfl
  have c4 := RB.cell 4 _ rfl
  have c5 := RB.cell 5 _ rfl
  have c6 := RB.cell 6 _ rfl
  have c7 := RB.cell 7 _ rfl
  have c8 := RB.cell 8 _ rfl
  have z0 := RZ.free 0 (by simp)
  have z1 := RZ.free 1 (by simp)
  have z2 := RZ.free 2 (by simp)
  have z3 := RZ.free 3 (by simp)
  have z4 := RZ.free 4 (by simp)
  have z5 := RZ.free 5 (by simp)
  have z6 := RZ.free 6 (by simp)
  have z7 := RZ.free 7 (by simp)
  have z8 := RZ.free 8 (by simp)
  have y0 := RZ.cell 0 _ rfl
  have y1 := RZ.cell 1 _ rfl
  have y2 := RZ.cell 2 _ rfl
  have y3 := RZ.cell 3 _ rfl
  have y4 := RZ.cell 4 _ rfl
  have y5 := RZ.cell 5 _ rfl
  have y6 := RZ.cell 6 _ rfl
  have y7 := RZ.cell 7 _ rfl
  have y8 := RZ.cell 8 _ rfl
  have RF := tx_set RZ2 rfl site seq wall count d0 d1 d2 d3 (.slice (some ⟨g, 0, none⟩) ws.length c)
  have FIN : Hid (CopyIs w ⟨site, seq, wall, count, d0, d1, d2, d3, ws⟩ (.returned (txV ⟨⟨site, seq, wall, count, d0, d1, d2, d3, ws⟩, some ⟨g, 0, none⟩, c⟩)) (setTx (w1.setCell ⟨w.heap.size, 8, none⟩ (.slice (some ⟨g, 0, none⟩) ws.length c)) (w.heap.size + 1) site seq wall count d0 d1 d2 d3 (.slice (some ⟨g, 0, none⟩) ws.length c))) := copy_fin W1 hgs hb
  clear hb1 k8 RB RZ hb WI hW W1 hg
  go_wp2_with fail
  exact bodyPost_ret (copy_results (m := ⟨⟨site, seq, wall, count, d0, d1, d2, d3, ws⟩, some ⟨g, 0, none⟩, c⟩) RF rfl) rfl FIN.out

/-! ### what waits, by its number -/
theorem PMap.put {w w' : World} {bm : Nat} {ws : List TxM} {D : DataW Value} {m : TxM} (h1 : ∀ x ∈ ws, wfN x) (h2 : Nums (ws.map (·.t))) (h3 : w.ownsMap Tryz.prog 338 heldR bm ws.length D) (h4 : MapIs D ws) (hm : wfN m) (hn : ∀ x ∈ ws, isNum x.t m.t = false)
    (h5 : w'.ownsMap Tryz.prog 338 heldR bm (ws.length + 1) (D.put (numL m.t.site m.t.seq) (.held (txV m)))) : PMap w' bm (ws ++ [m]) := by
  refine ⟨fun x hx => ?_, ?_, _, by rw [List.length_append]; exact h5, mapIs_put (h3.tidy numLaw) h4 h1 hm hn⟩
  · rcases List.mem_append.1 hx with h | h
    · exact h1 x h
    · rw [List.mem_singleton.1 h]; exact hm
  · rw [List.map_append]
    refine Nums.snoc h2 (fun x hx => ?_)
    obtain ⟨y, hy, rfl⟩ := List.mem_map.1 hx
    exact hn y hy
theorem PMap.del {w w' : World} {bm : Nat} {ws : List TxM} {D : DataW Value} {m : TxM} (h1 : ∀ x ∈ ws, wfN x) (h2 : Nums (ws.map (·.t))) (h3 : w.ownsMap Tryz.prog 338 heldR bm ws.length D) (h4 : MapIs D ws) (hm : m ∈ ws)
    (h5 : w'.ownsMap Tryz.prog 338 heldR bm ws.length (D.del (numL m.t.site m.t.seq))) : PMap w' bm (dropM ws m.t) := by
  have hd := mapIs_del (h3.tidy numLaw) h4 h1 h2 hm
  refine ⟨fun x hx => h1 x (mem_dropM.1 hx).1, by rw [dropM_map]; exact h2.drop _, _, ?_, hd⟩
  obtain ⟨es, clock, e1, e2, e3, e4⟩ := h5
  refine ⟨es, clock, e1, e2, ?_, e4⟩
  have := hd.size
  rw [e4] at this
  simp [Maps.size, length_sorted] at this
  omega
set_option maxRecDepth 100000 in
set_option maxHeartbeats 4000000 in
theorem put_any {bm : Nat} {l : List TxM} (m : TxM) (w : World) (hM : PMap w bm l) (hm : wfN m) (hn : ∀ x ∈ l, isNum x.t m.t = false) (hl : l.length ≤ 1000) :
    Calls Tryz.prog 255 #[.map (some bm), txV m] w fun e w' => e = .returned (.tuple #[]) ∧ PMap w' bm (l ++ [m]) ∧ w.grownBy w' (some bm) := by
  obtain ⟨h1, h2, D, h3, h4⟩ := hM
  have PUT : Hid (∀ w', _ → PMap w' bm (l ++ [m])) := fun w' => PMap.put (w' := w') h1 h2 h3 h4 hm hn
  have KEY : Hid (keyOf Tryz.prog 338 (numV m.t.site m.t.seq) = some (numL m.t.site m.t.seq)) := numKey hm.1 hm.2
  have HL : Hid (l.length ≤ 1000) := hl
  obtain ⟨⟨site, seq, wall, count, d0, d1, d2, d3, ws⟩, a, cap⟩ := m
  have gr0 := World.grownBy_alloc w (.cells #[.int .i64 site, .int .i64 seq, .int .i64 wall, .int .i64 count, .int .i64 d0, .int .i64 d1, .int .i64 d2, .int .i64 d3, .slice a ws.length cap] 102) (some bm)
  have own1 := h3.alloc (.cells #[.int .i64 site, .int .i64 seq, .int .i64 wall, .int .i64 count, .int .i64 d0, .int .i64 d1, .int .i64 d2, .int .i64 d3, .slice a ws.length cap] 102)
  show Calls Tryz.prog 255 #[.map (some bm), .agg #[.int .i64 site, .int .i64 seq, .int .i64 wall, .int .i64 count, .int .i64 d0, .int .i64 d1, .int .i64 d2, .int .i64 d3, .slice a ws.length cap]] w _
  clear h1 h2 h3 h4 hm hn hl
  go_enter Tryz.func255, Tryz.ntmps255
  go_wp2_with (at_mapUpdate; refine wpList_mapUpdate_in _ rfl _ _ _ 214 rfl 338 102 numLaw Tryz.underlying214 heldR bm l.length D rfl own1 (by have := HL.out; simp only [maxLen]; omega) _ _ _ rfl rfl KEY.out _ _ rfl ?_; intro w2 own2 turn2)
  go_end0
  exact ⟨rfl, PUT.out w2 own2, gr0.trans turn2.grown⟩

theorem heldR_inv {v : Value} {d : DataW Value} {ps : List MemPlace} (h : heldR v = some (d, ps)) : d = .held v := by
  unfold heldR at h
  injection h with h
  injection h with h1 h2
  exact h1.symm
theorem wpList_look {ops : Array Oper} {rest : List Oper} {o : Oper} {a : Act} {Q : Exit → Act → World → Prop} (w : World) (hg : o.guard = none) (mo xo : Operand) (hop : o.op = Op.lookup 214 mo xo true) {bm n : Nat} {D : DataW Value} {s q : Int} {u : Value} {v : Bool}
    (hm : a.eval mo = .map (some bm)) (hown : w.ownsMap Tryz.prog 338 heldR bm n D) (hx : a.eval xo = numV s q) (hkey : keyOf Tryz.prog 338 (numV s q) = some (numL s q)) (h1 : Maps.has D (numL s q) = v) (h2 : D.atKey (numL s q) (.held txV0) = .held u)
    (hK : wpList Tryz.prog ops Q rest (a.put o.dst (.tuple #[u, .bool v])) w) : wpList Tryz.prog ops Q (o :: rest) a w := by
  refine wpList_lookup_own_ok w hg mo xo 214 hop 338 102 numLaw Tryz.underlying214 heldR (tx_zero w) (.held txV0) [] rfl bm n D hm hown (numV s q) (numL s q) hx hkey ?_
  intro u' ps hu
  have e := heldR_inv hu
  rw [h2] at e
  injection e with e
  rw [← e, h1]
  exact hK
theorem wpList_look1 {ops : Array Oper} {rest : List Oper} {o : Oper} {a : Act} {Q : Exit → Act → World → Prop} (w : World) (hg : o.guard = none) (mo xo : Operand) (hop : o.op = Op.lookup 214 mo xo false) {bm n : Nat} {D : DataW Value} {s q : Int} {u : Value}
    (hm : a.eval mo = .map (some bm)) (hown : w.ownsMap Tryz.prog 338 heldR bm n D) (hx : a.eval xo = numV s q) (hkey : keyOf Tryz.prog 338 (numV s q) = some (numL s q)) (h2 : D.atKey (numL s q) (.held txV0) = .held u)
    (hK : wpList Tryz.prog ops Q rest (a.put o.dst u) w) : wpList Tryz.prog ops Q (o :: rest) a w := by
  refine wpList_plain hg fun K' hK' => ?_
  obtain ⟨u', ps, hrun, hu⟩ := hown.lookup numLaw Tryz.underlying214 (tx_zero w) (zd := .held txV0) (zp := []) rfl hkey
  have e := heldR_inv hu
  rw [h2] at e
  injection e with e
  subst e
  unfold Oper.wp
  simp [execOp, hop, hm, hx, hrun, Result.andThen]
  exact hK' _ _ hK
theorem find_results {tmps : Array Value} {w : World} {b : Nat} {m : TxM} {v : Bool} (h : RowL w b (txC m)) (h2 : tmps[6]? = some (.pointer (some ⟨b, 0, none⟩))) (h3 : tmps[7]? = some (.bool v)) :
    (results Tryz.f276 tmps).run Tryz.prog w = .ok (.tuple #[txV m, .bool v]) w := by
  have z0 := h.cell 0 _ rfl
  have z1 := h.cell 1 _ rfl
  have z2 := h.cell 2 _ rfl
  have z3 := h.cell 3 _ rfl
  have z4 := h.cell 4 _ rfl
  have z5 := h.cell 5 _ rfl
  have z6 := h.cell 6 _ rfl
  have z7 := h.cell 7 _ rfl
  have z8 := h.cell 8 _ rfl
  simp [results, Tryz.results276, go_sem, h2, h3, z0, z1, z2, z3, z4, z5, z6, z7, z8, txV]
/-- the zero transaction, as one in memory -/
def tx0 : TxM := ⟨⟨0, 0, 0, 0, 0, 0, 0, 0, []⟩, none, 0⟩
/-- what is found at a number -/
structure LookIs (l : List TxM) (s q : Int) (m : TxM) (v : Bool) : Prop where
  yes : v = true → m ∈ l ∧ m.t.site = s ∧ m.t.seq = q
  no : v = false → m = tx0 ∧ ∀ x ∈ l, ¬ (x.t.site = s ∧ x.t.seq = q)
theorem look_ex (l : List TxM) (s q : Int) : ∃ m v, LookIs l s q m v := by
  by_cases h : ∃ m ∈ l, m.t.site = s ∧ m.t.seq = q
  · obtain ⟨m, hm, h1, h2⟩ := h
    exact ⟨m, true, fun _ => ⟨hm, h1, h2⟩, fun e => by cases e⟩
  · exact ⟨tx0, false, fun e => (by cases e), fun _ => ⟨rfl, fun x hx e => h ⟨x, hx, e⟩⟩⟩
set_option maxRecDepth 100000 in
set_option maxHeartbeats 4000000 in
theorem find_any {bm : Nat} {l : List TxM} {s q : Int} {m : TxM} {v : Bool} (hL : LookIs l s q m v) (hs : wfI s) (hq : wfI q) (w : World) (hM : PMap w bm l) :
    Calls Tryz.prog 276 #[.map (some bm), .int .i64 s, .int .i64 q] w fun e w' => e = .returned (.tuple #[txV m, .bool v]) ∧ Below w.heap.size w w' := by
  obtain ⟨h1, h2, D, h3, h4⟩ := hM
  have KEY : Hid (keyOf Tryz.prog 338 (numV s q) = some (numL s q)) := numKey hs hq
  have HAS : Maps.has D (numL s q) = v ∧ D.atKey (numL s q) (.held txV0) = .held (txV m) := by
    cases v with
    | true =>
      obtain ⟨p1, p2, p3⟩ := hL.yes rfl
      have := h4.has m p1
      rw [p2, p3] at this
      exact ⟨this.1, this.2 _⟩
    | false =>
      obtain ⟨p1, p2⟩ := hL.no rfl
      have e := h4.no s q hs hq p2
      exact ⟨e, by rw [atKey_of_not_has e, p1]; rfl⟩
  obtain ⟨HAS1, HAS2⟩ := HAS
  have own1 := h3.alloc (.cells #[.int .i64 0, .int .i64 0, .int .i64 0, .int .i64 0, .int .i64 0, .int .i64 0, .int .i64 0, .int .i64 0, .slice none 0 0] 102)
  have hb := boxed (boxed (Below.refl _ w) (.cells #[.int .i64 0, .int .i64 0, .int .i64 0, .int .i64 0, .int .i64 0, .int .i64 0, .int .i64 0, .int .i64 0, .slice none 0 0] 102)) (.cells #[.int .i64 0, .int .i64 0, .int .i64 0, .int .i64 0, .int .i64 0, .int .i64 0, .int .i64 0, .int .i64 0, .slice none 0 0] 102)
  have H2 : Hid (D.atKey (numL s q) (.held txV0) = .held (txV m)) := HAS2
  have H1 : Hid (Maps.has D (numL s q) = v) := HAS1
  obtain ⟨⟨site, seq, wall, count, d0, d1, d2, d3, ws⟩, a, cap⟩ := m
  have RF := (RowL.new (w := w) (T := 102) [.int .i64 site, .int .i64 seq, .int .i64 wall, .int .i64 count, .int .i64 d0, .int .i64 d1, .int .i64 d2, .int .i64 d3, .slice a ws.length cap] rfl).boxed (.cells #[.int .i64 site, .int .i64 seq, .int .i64 wall, .int .i64 count, .int .i64 d0, .int .i64 d1, .int .i64 d2, .int .i64 d3, .slice a ws.length cap] 102)
  have hbF := boxed (boxed (Below.refl _ w) (.cells #[.int .i64 site, .int .i64 seq, .int .i64 wall, .int .i64 count, .int .i64 d0, .int .i64 d1, .int .i64 d2, .int .i64 d3, .slice a ws.length cap] 102)) (.cells #[.int .i64 site, .int .i64 seq, .int .i64 wall, .int .i64 count, .int .i64 d0, .int .i64 d1, .int .i64 d2, .int .i64 d3, .slice a ws.length cap] 102)
  clear hL h1 h2 h3 h4 HAS1 HAS2 hs hq hb
  go_enter Tryz.func276, Tryz.ntmps276
  go_wp2_with (at_lookup; refine wpList_look _ rfl _ _ rfl (u := .agg #[.int .i64 site, .int .i64 seq, .int .i64 wall, .int .i64 count, .int .i64 d0, .int .i64 d1, .int .i64 d2, .int .i64 d3, .slice a ws.length cap]) rfl own1 rfl KEY.out H1.out H2.out ?_)
  exact bodyPost_ret (find_results (m := ⟨⟨site, seq, wall, count, d0, d1, d2, d3, ws⟩, a, cap⟩) RF rfl rfl) rfl ⟨rfl, hbF⟩

set_option maxRecDepth 100000 in
set_option maxHeartbeats 4000000 in
theorem has_any {bm : Nat} {l : List TxM} {s q : Int} {m : TxM} {v : Bool} (hL : LookIs l s q m v) (hs : wfI s) (hq : wfI q) (w : World) (hM : PMap w bm l) :
    Calls Tryz.prog 253 #[.map (some bm), .int .i64 s, .int .i64 q] w fun e w' => e = .returned (.bool v) ∧ Below w.heap.size w w' := by
  have F := find_any hL hs hq w hM
  obtain ⟨⟨site, seq, wall, count, d0, d1, d2, d3, ws⟩, a, cap⟩ := m
  clear hL
  go_enter Tryz.func253, Tryz.ntmps253
  go_wp2_with fail
  refine F.mono ?_
  rintro e w1 ⟨rfl, hb1⟩
  simp only [txV]
  go_wp2_with fail
  go_ret
  exact ⟨rfl, boxed hb1 _⟩

theorem take_results {tmps : Array Value} {w : World} {b : Nat} {m : TxM} (h : RowL w b (txC m)) (h2 : tmps[6]? = some (.pointer (some ⟨b, 0, none⟩))) :
    (results Tryz.f279 tmps).run Tryz.prog w = .ok (txV m) w := by
  have z0 := h.cell 0 _ rfl
  have z1 := h.cell 1 _ rfl
  have z2 := h.cell 2 _ rfl
  have z3 := h.cell 3 _ rfl
  have z4 := h.cell 4 _ rfl
  have z5 := h.cell 5 _ rfl
  have z6 := h.cell 6 _ rfl
  have z7 := h.cell 7 _ rfl
  have z8 := h.cell 8 _ rfl
  simp [results, Tryz.results279, go_sem, h2, z0, z1, z2, z3, z4, z5, z6, z7, z8, txV]
set_option maxRecDepth 100000 in
set_option maxHeartbeats 4000000 in
theorem take_any {bm : Nat} {l : List TxM} {m : TxM} (hm : m ∈ l) (w : World) (hM : PMap w bm l) :
    Calls Tryz.prog 279 #[.map (some bm), .int .i64 m.t.site, .int .i64 m.t.seq] w fun e w' => e = .returned (txV m) ∧ PMap w' bm (dropM l m.t) ∧ w.grownBy w' (some bm) := by
  have hbl := hM.lt
  obtain ⟨h1, h2, D, h3, h4⟩ := hM
  have KEY : Hid (keyOf Tryz.prog 338 (numV m.t.site m.t.seq) = some (numL m.t.site m.t.seq)) := numKey (h1 m hm).1 (h1 m hm).2
  have H2 : Hid (D.atKey (numL m.t.site m.t.seq) (.held txV0) = .held (txV m)) := (h4.has m hm).2 _
  have DEL : Hid (∀ w', w'.ownsMap Tryz.prog 338 heldR bm l.length (D.del (numL m.t.site m.t.seq)) → PMap w' bm (dropM l m.t)) := fun w' => PMap.del (w' := w') h1 h2 h3 h4 hm
  have own1 := h3.alloc (.cells #[.int .i64 0, .int .i64 0, .int .i64 0, .int .i64 0, .int .i64 0, .int .i64 0, .int .i64 0, .int .i64 0, .slice none 0 0] 102)
  obtain ⟨⟨site, seq, wall, count, d0, d1, d2, d3, ws⟩, a, cap⟩ := m
  have own2 := own1.alloc (.cells #[.int .i64 site, .int .i64 seq, .int .i64 wall, .int .i64 count, .int .i64 d0, .int .i64 d1, .int .i64 d2, .int .i64 d3, .slice a ws.length cap] 102)
  have R7 := RowL.new (w := w.alloc (.cells #[.int .i64 0, .int .i64 0, .int .i64 0, .int .i64 0, .int .i64 0, .int .i64 0, .int .i64 0, .int .i64 0, .slice none 0 0] 102)) (T := 102) (n := w.heap.size + 1) [.int .i64 site, .int .i64 seq, .int .i64 wall, .int .i64 count, .int .i64 d0, .int .i64 d1, .int .i64 d2, .int .i64 d3, .slice a ws.length cap] (by simp)
  have R6 := (RowL.new (w := w) (T := 102) [.int .i64 0, .int .i64 0, .int .i64 0, .int .i64 0, .int .i64 0, .int .i64 0, .int .i64 0, .int .i64 0, .slice none 0 0] rfl).boxed (.cells #[.int .i64 site, .int .i64 seq, .int .i64 wall, .int .i64 count, .int .i64 d0, .int .i64 d1, .int .i64 d2, .int .i64 d3, .slice a ws.length cap] 102)
  have gr0 := (World.grownBy_alloc w (.cells #[.int .i64 0, .int .i64 0, .int .i64 0, .int .i64 0, .int .i64 0, .int .i64 0, .int .i64 0, .int .i64 0, .slice none 0 0] 102) (some bm)).trans (World.grownBy_alloc _ (.cells #[.int .i64 site, .int .i64 seq, .int .i64 wall, .int .i64 count, .int .i64 d0, .int .i64 d1, .int .i64 d2, .int .i64 d3, .slice a ws.length cap] 102) (some bm))
  clear h1 h2 h3 h4 hm
  go_enter Tryz.func279, Tryz.ntmps279
  go_wp2_with (first | (at_lookup; refine wpList_look1 _ rfl _ _ rfl (u := .agg #[.int .i64 site, .int .i64 seq, .int .i64 wall, .int .i64 count, .int .i64 d0, .int .i64 d1, .int .i64 d2, .int .i64 d3, .slice a ws.length cap]) rfl own1 rfl KEY.out H2.out ?_) | (at_delete; refine wpList_delete_own _ rfl _ _ 214 338 rfl 102 numLaw Tryz.underlying214 heldR bm l.length D rfl own2 _ _ rfl KEY.out ?_; intro w3 own3 turn3; have R7' := R7.grown turn3.grown (fun e => by injection e with e; omega); have R6' := R6.grown turn3.grown (fun e => by injection e with e; omega); have c0 := R7'.cell 0 _ rfl; have y0 := R6'.cell 0 _ rfl; have z0 := R6'.free 0 (by simp); have c1 := R7'.cell 1 _ rfl; have y1 := R6'.cell 1 _ rfl; have z1 := R6'.free 1 (by simp); have c2 := R7'.cell 2 _ rfl; have y2 := R6'.cell 2 _ rfl; have z2 := R6'.free 2 (by simp); have c3 := R7'.cell 3 _ rfl; have y3 := R6'.cell 3 _ rfl; have z3 := R6'.free 3 (by simp); have c4 := R7'.cell 4 _ rfl; have y4 := R6'.cell 4 _ rfl; have z4 := R6'.free 4 (by simp); have c5 := R7'.cell 5 _ rfl; have y5 := R6'.cell 5 _ rfl; have z5 := R6'.free 5 (by simp); have c6 := R7'.cell 6 _ rfl; have y6 := R6'.cell 6 _ rfl; have z6 := R6'.free 6 (by simp); have c7 := R7'.cell 7 _ rfl; have y7 := R6'.cell 7 _ rfl; have z7 := R6'.free 7 (by simp); have c8 := R7'.cell 8 _ rfl; have y8 := R6'.cell 8 _ rfl; have z8 := R6'.free 8 (by simp)))
  exact bodyPost_ret (take_results (m := ⟨⟨site, seq, wall, count, d0, d1, d2, d3, ws⟩, a, cap⟩) (tx_set R6' rfl site seq wall count d0 d1 d2 d3 (.slice a ws.length cap)) rfl) rfl ⟨rfl, (DEL.out w3 own3).kept (setTx_block (Nat.ne_of_lt hbl) _ _ _ _ _ _ _ _ _), grown_tx (gr0.trans turn3.grown) (Nat.le_refl _) _ _ _ _ _ _ _ _ _⟩

set_option maxHeartbeats 4000000 in
theorem isFull_any {b : Nat} {lv : Value} {bm : Nat} {F : Nat → Prop} {S : SiteS} {log waits : List TxM} {v : Bool} (hv : decide (200 ≤ log.length) = v) (w : World) (h : PMem w b lv bm F S log waits) :
    Calls Tryz.prog 242 #[.pointer (some ⟨b, 0, none⟩)] w fun e w' => e = .returned (.bool v) ∧ Below w.heap.size w w' := by
  obtain ⟨la, lc, rfl, hT⟩ := txsIn_own h.rlog
  have s7 := h.box.cell 7 _ rfl
  have e : decide ((200 : Int) ≤ (log.length : Int)) = v := by rw [← hv]; exact decide_eq_decide.2 (by omega)
  clear h hT hv
  go_enter Tryz.func242, Tryz.ntmps242
  go_wp2_with fail
  go_ret
  refine ⟨?_, Below.refl _ _⟩
  first | rfl | (simp [e])

theorem app_at {S : SiteS} {lv : Value} {bm : Nat} {s : Int} (h0 : 0 ≤ s) (h3 : s ≤ 3) : (psiteC S lv bm)[1 + s.toNat]? = some (.int .i64 (depOf s S.a0 S.a1 S.a2 S.a3)) := by
  have hc : s = 0 ∨ s = 1 ∨ s = 2 ∨ s = 3 := by omega
  rcases hc with rfl | rfl | rfl | rfl <;> rfl
end Go.Proofs.YtoanjdndmlffdaaGreatDoor
