import Derived.Test.YtoanjdndmlffdaaGreatDoorSiteM
namespace Go.Proofs.YtoanjdndmlffdaaGreatDoor
open Go.RowKit
set_option maxRecDepth 100000
set_option maxHeartbeats 8000000
/-- what a line's answer has to hand -/
structure AnPre (w : World) (cb mb b : Nat) (Gw G : Nat → Prop) (W : WoS) (j : Nat) : Prop where
  ck : CkAt w cb mb b Gw W
  g : ∀ k, G k ↔ (k = cb ∨ k = mb ∨ Gw k)
  gl : Gl w
  gn : ∀ k, k < 10 → ¬ G k
  wi : PlI j W
  di : DkI W
def AnPost (W : WoS) (line : ByteArray) (w : World) (cb mb : Nat) (G : Nat → Prop) (e : Ending) (w' : World) : Prop :=
  ∃ told, e = .returned (.string (bya told)) ∧ ∃ W', AnsTo W line W' told ∧ Left (ckP cb mb W') w G w'
theorem an_results {tmps : Array Value} {w : World} {B : Nat} {v : Value} (hc : w.cell? ⟨B, 0, none⟩ = some v) (h4 : tmps[4]? = some (.pointer (some ⟨B, 0, none⟩))) : (results Tryz.f11 tmps).run Tryz.prog w = .ok v w := by
  simp [results, Tryz.results11, go_sem, hc, h4]
theorem left_box {w w1 wt wt2 : World} {cb mb B : Nat} {G : Nat → Prop} {W' : WoS} {v : Value} (hb : Below w.heap.size w w1) (h : Left (ckP cb mb W') w1 G wt) (hB : w.heap.size ≤ B) (hB1 : B < w1.heap.size) (hG : ∀ k, G k → k < w.heap.size) (hb2 : Below wt.heap.size wt wt2) : Left (ckP cb mb W') w G (wt2.setCell ⟨B, 0, none⟩ v) := by
  obtain ⟨G', p1, p2, tt⟩ := CkAt.after h hb2
  have n : ∀ k, G' k → k ≠ B := fun k hk e => by
    subst e
    rcases p2 k hk with q | q
    · have := hG k q; omega
    · omega
  refine ⟨G', p1.kept (fun k e => Below.heap_setCell _ _ _ _ (n k e)) (by simp [World.setCell]), fun k e => ?_, touch_cell ((Touch.ofBelow hb).trans tt) hB v⟩
  rcases p2 k e with q | q
  · exact .inl q
  · exact .inr (Nat.le_trans hb.size q)
theorem box_left {w1 wt : World} {cb mb B n : Nat} {G : Nat → Prop} {W' : WoS} {v : Value} (R : RowL w1 B [v]) (h : Left (ckP cb mb W') w1 G wt) (hG : ∀ k, G k → k < n) (hB : n ≤ B) : RowL wt B [v] := by
  obtain ⟨G', p1, p2, tt⟩ := h
  exact R.kept (tt.block B R.lt (fun q => by have := hG B q; omega)) tt.size
theorem gl_left {w1 wt : World} {cb mb : Nat} {G : Nat → Prop} {W' : WoS} (g : Gl w1) (h : Left (ckP cb mb W') w1 G wt) (gn : ∀ k, k < 10 → ¬ G k) : Gl wt := by
  obtain ⟨G', p1, p2, tt⟩ := h
  have := g.sz
  exact g.kept (fun k hk => tt.block k (by omega) (gn k hk)) tt.size
theorem AnPre.ltG {w : World} {cb mb b j : Nat} {Gw G : Nat → Prop} {W : WoS} (h : AnPre w cb mb b Gw G W j) : ∀ k, G k → k < w.heap.size := fun k hk => by
  rcases (h.g k).1 hk with rfl | rfl | e
  · exact h.ck.ltc
  · exact h.ck.map.lt
  · exact h.ck.pw.lt k e
theorem an_throw {w w1 wt : World} {cb mb b j : Nat} {Gw G : Nat → Prop} {W W' : WoS} {line : ByteArray} {n : Int} {v : Value} {tmps : Array Value} (h : AnPre w cb mb b Gw G W j) (hb : Below w.heap.size w w1) (R : RowL w1 w.heap.size [v]) (hL : Left (ckP cb mb W') w1 G wt) (hn : wfI n) (ha : AnsTo W line W' (errT n)) (h4 : tmps[4]? = some (.pointer (some ⟨w.heap.size, 0, none⟩))) :
    Leaves Tryz.prog Tryz.f11 tmps (AnPost W line w cb mb G) [{ target := .fn (.func 25) #[.pointer (some ⟨w.heap.size, 0, none⟩)], args := #[] }] (.panicking [{ v := .iface 26 (.int .i64 n), recovered := false }]) wt := by
  have Rt := box_left R hL h.ltG (Nat.le_refl _)
  refine leaves_cons (f := 25) (args := #[.pointer (some ⟨w.heap.size, 0, none⟩)]) (by simp) (by simp [go_sem]) ?_
  refine (catch_panicking ⟨w.heap.size, 0, none⟩ v n hn [] wt (gl_left (h.gl.later hb) hL h.gn) (Rt.cell 0 _ rfl) (Rt.free 0 (by simp))).mono ?_
  rintro e u' w3 ⟨rfl, rfl, w2, hb2, rfl⟩
  exact ⟨_, an_results (((Rt.later hb2).set 0 (.string (bya (errT n))) (by simp)).cell 0 _ rfl) h4, errT n, rfl, W', ha, left_box hb hL (Nat.le_refl _) R.lt h.ltG hb2⟩
theorem an_told {w w1 wt : World} {cb mb b j : Nat} {Gw G : Nat → Prop} {W W' : WoS} {line : ByteArray} {v : Value} {told : List UInt8} {tmps : Array Value} (h : AnPre w cb mb b Gw G W j) (hb : Below w.heap.size w w1) (R : RowL w1 w.heap.size [v]) (hL : Left (ckP cb mb W') w1 G wt) (ha : AnsTo W line W' told) (h4 : tmps[4]? = some (.pointer (some ⟨w.heap.size, 0, none⟩))) :
    Leaves Tryz.prog Tryz.f11 tmps (AnPost W line w cb mb G) [{ target := .fn (.func 25) #[.pointer (some ⟨w.heap.size, 0, none⟩)], args := #[] }] .returning (wt.setCell ⟨w.heap.size, 0, none⟩ (.string (bya told))) := by
  have Rt := box_left R hL h.ltG (Nat.le_refl _)
  refine leaves_cons (f := 25) (args := #[.pointer (some ⟨w.heap.size, 0, none⟩)]) (by simp) (by simp [go_sem]) ?_
  refine (catch_idle ⟨w.heap.size, 0, none⟩ _).mono ?_
  rintro e u' w2 ⟨rfl, rfl, rfl⟩
  exact ⟨_, an_results ((Rt.set 0 (.string (bya told)) (by simp)).cell 0 _ rfl) h4, told, rfl, W', ha, left_box hb hL (Nat.le_refl _) R.lt h.ltG (Below.refl _ _)⟩
theorem answer_empty {w : World} {cb mb b j : Nat} {Gw G : Nat → Prop} {W : WoS} (h : AnPre w cb mb b Gw G W j) {line : ByteArray} (hl : line.size ≤ 20000) (hw : wordsB line = []) :
    Calls Tryz.prog 11 #[.pointer (some ⟨cb, 0, none⟩), .string line] w (AnPost W line w cb mb G) := by
  have hmf : ∀ (fn : Fn) (first cap : Array Value) (w : World), (Instr.makeFunc fn first cap).run Tryz.prog w = .ok (.func fn first cap) w := fun _ _ _ _ => rfl
  have WD := words_any line (by omega) (w.alloc (.cells #[.string ⟨#[]⟩] 9))
  rw [hw] at WD
  have HH : Hid (AnPre w cb mb b Gw G W j ∧ wordsB line = []) := ⟨h, hw⟩
  have hb0 := boxed (Below.refl w.heap.size w) (.cells #[.string ⟨#[]⟩] 9)
  clear h hw
  go_enter_defers Tryz.func11, Tryz.ntmps11
  go_wp2_with fail
  refine WD.mono ?_
  rintro e w1 ⟨A, rfl, hA, hS, hb1⟩
  have R1 := (RowL.new (w := w) (T := 9) [.string ⟨#[]⟩] rfl).later hb1
  have c1 := R1.cell 0 _ rfl
  have f1 := R1.free 0 (by simp)
  have FIN : Hid (AnPost W line w cb mb G (.returned (.string ⟨#[111, 107]⟩)) (w1.setCell ⟨w.heap.size, 0, none⟩ (.string ⟨#[111, 107]⟩))) := by
    refine ⟨[111, 107], rfl, W, ?_, HH.out.1.ck.same HH.out.1.g (Below.setCell (behind hb0 hb1) (Nat.le_refl _) _)⟩
    unfold AnsTo
    rw [HH.out.2]
    exact ⟨rfl, rfl⟩
  have c2 := (R1.set 0 (.string ⟨#[111, 107]⟩) (by simp)).cell 0 _ rfl
  clear hb1 hb0 hS WD
  go_wp2
  refine leaves_cons (f := 25) (args := #[.pointer (some ⟨w.heap.size, 0, none⟩)]) (by simp) (by simp [go_sem]) ?_
  refine (catch_idle ⟨w.heap.size, 0, none⟩ _).mono ?_
  rintro e u' w2 ⟨rfl, rfl, rfl⟩
  exact ⟨_, an_results c2 rfl, FIN.out⟩
theorem answer_form {w : World} {cb mb b j : Nat} {Gw G : Nat → Prop} {W : WoS} (h : AnPre w cb mb b Gw G W j) {line x : ByteArray} {l : List ByteArray} (hl : line.size ≤ 20000) (hw : wordsB line = x :: l) (hx : x.size ≤ maxLen) (hn : cmdN.idxOf? x.data.toList = none) :
    Calls Tryz.prog 11 #[.pointer (some ⟨cb, 0, none⟩), .string line] w (AnPost W line w cb mb G) := by
  have hmf : ∀ (fn : Fn) (first cap : Array Value) (w : World), (Instr.makeFunc fn first cap).run Tryz.prog w = .ok (.func fn first cap) w := fun _ _ _ _ => rfl
  have WD := words_any line (by omega) (w.alloc (.cells #[.string ⟨#[]⟩] 9))
  rw [hw] at WD
  have HH : Hid (AnPre w cb mb b Gw G W j ∧ wordsB line = x :: l ∧ cmdN.idxOf? x.data.toList = none) := ⟨h, hw, hn⟩
  have hb0 := boxed (Below.refl w.heap.size w) (.cells #[.string ⟨#[]⟩] 9)
  clear h hw
  go_enter_defers Tryz.func11, Tryz.ntmps11
  go_wp2_with fail
  refine WD.mono ?_
  rintro e w1 ⟨A, rfl, hA, hS, hb1⟩
  have R1 := (RowL.new (w := w) (T := 9) [.string ⟨#[]⟩] rfl).later hb1
  have c1 := R1.cell 0 _ rfl
  have f1 := R1.free 0 (by simp)
  have hbw : Below w.heap.size w w1 := behind hb0 hb1
  have K1 := HH.out.1.ck.later hbw
  have cm := K1.cell1
  obtain ⟨A', o', ee, hlt, cx⟩ := hS.cell 0 x rfl
  injection ee with ee
  injection ee with e1 e2
  subst e1; subst e2
  have LK := DMap.lacks (w := w1.drew) (K1.map.kept rfl) hx (cmd_none hn)
  have HW : Hid (Below w.heap.size w w1 ∧ RowL w1 w.heap.size [.string ⟨#[]⟩] ∧ Left (ckP cb mb W) w1 G w1.drew) := ⟨hbw, R1, K1.same HH.out.1.g (Below.refl _ _).drew⟩
  have ANS : Hid (AnsTo W line W (errT 3)) := by
    show AnsTo W line W (errT 3)
    unfold AnsTo
    rw [HH.out.2.1]
    dsimp only
    rw [HH.out.2.2]
    exact ⟨rfl, rfl⟩
  clear hb1 hb0 hS WD K1 hbw R1
  dsimp only [List.length_cons] at *
  have eqn : ∀ w : World, (binOp .eql 65 .nilFunc .nilFunc).run Tryz.prog w = .ok (.bool true) w := fun _ => by kernel_rfl
  go_wp2
  go_region
  all_goals
    go_wp2
    exact an_throw HH.out.1 HW.out.1 HW.out.2.1 HW.out.2.2 ⟨by decide, by decide⟩ ANS.out rfl
theorem fn_enters : ∀ i, i < 19 → ∀ (args : Array Value) (w : World), (callFunc (fnOf i) args).run Tryz.prog w = .ok (.enter (fnOf i) args) w
  | 0, _ => fun _ _ => by kernel_rfl
  | 1, _ => fun _ _ => by kernel_rfl
  | 2, _ => fun _ _ => by kernel_rfl
  | 3, _ => fun _ _ => by kernel_rfl
  | 4, _ => fun _ _ => by kernel_rfl
  | 5, _ => fun _ _ => by kernel_rfl
  | 6, _ => fun _ _ => by kernel_rfl
  | 7, _ => fun _ _ => by kernel_rfl
  | 8, _ => fun _ _ => by kernel_rfl
  | 9, _ => fun _ _ => by kernel_rfl
  | 10, _ => fun _ _ => by kernel_rfl
  | 11, _ => fun _ _ => by kernel_rfl
  | 12, _ => fun _ _ => by kernel_rfl
  | 13, _ => fun _ _ => by kernel_rfl
  | 14, _ => fun _ _ => by kernel_rfl
  | 15, _ => fun _ _ => by kernel_rfl
  | 16, _ => fun _ _ => by kernel_rfl
  | 17, _ => fun _ _ => by kernel_rfl
  | 18, _ => fun _ _ => by kernel_rfl
  | n + 19, h => absurd h (by omega)
theorem answer_do0 (hh : DoesIt 9) {w : World} {cb mb b j i : Nat} {Gw G : Nat → Prop} {W : WoS} (h : AnPre w cb mb b Gw G W j) {line x : ByteArray} (hl : line.size ≤ 20000) (hw : wordsB line = [x]) (hx : x.size ≤ maxLen) (hn : cmdN.idxOf? x.data.toList = some i) :
    Calls Tryz.prog 11 #[.pointer (some ⟨cb, 0, none⟩), .string line] w (AnPost W line w cb mb G) := by
  have hmf : ∀ (fn : Fn) (first cap : Array Value) (w : World), (Instr.makeFunc fn first cap).run Tryz.prog w = .ok (.func fn first cap) w := fun _ _ _ _ => rfl
  obtain ⟨hi, hxn⟩ := cmd_there hn
  have WD := words_any line (by omega) (w.alloc (.cells #[.string ⟨#[]⟩] 9))
  rw [hw] at WD
  have HH : Hid (AnPre w cb mb b Gw G W j ∧ wordsB line = [x] ∧ cmdN.idxOf? x.data.toList = some i) := ⟨h, hw, hn⟩
  have hb0 := boxed (Below.refl w.heap.size w) (.cells #[.string ⟨#[]⟩] 9)
  clear h hw
  go_enter_defers Tryz.func11, Tryz.ntmps11
  go_wp2_with fail
  refine WD.mono ?_
  rintro e w1 ⟨A, rfl, hA, hS, hb1⟩
  have R1 := (RowL.new (w := w) (T := 9) [.string ⟨#[]⟩] rfl).later hb1
  have c1 := R1.cell 0 _ rfl
  have f1 := R1.free 0 (by simp)
  have hbw : Below w.heap.size w w1 := behind hb0 hb1
  have K1 := HH.out.1.ck.later hbw
  have cm := K1.cell1
  have hbd : Below w1.heap.size w1 w1.drew := (Below.refl _ _).drew
  have hbwd : Below w.heap.size w w1.drew := behind hbw hbd
  have DO := does_all hh i hi (w := w1.drew) (cb := cb) (mb := mb) (b := b) (j := j) (cap := 0) (Gw := Gw) (G := G) (W := W) (a := some ⟨A, 0, none⟩) (l := []) ⟨K1.later hbd, HH.out.1.g, HH.out.1.gl.later hbwd, HH.out.1.gn, HH.out.1.wi, HH.out.1.di, ⟨by simp, fun j y hy => by simp at hy⟩, by simp⟩
  obtain ⟨A', o', ee, hlt, cx⟩ := hS.cell 0 x rfl
  injection ee with ee
  injection ee with e1 e2
  subst e1; subst e2
  have LK : (Instr.lookup 55 (.map (some mb)) (.string x) false).run Tryz.prog w1.drew = .ok (.func (.func (fnOf i)) #[.pointer (some ⟨cb, 0, none⟩)] #[]) w1.drew := DMap.held (w := w1.drew) (K1.map.kept rfl) hx hi hxn
  have FE := fn_enters i hi
  have HW : Hid (Below w.heap.size w w1.drew ∧ RowL w1.drew w.heap.size [.string ⟨#[]⟩]) := ⟨hbwd, R1.later hbd⟩
  have eqn : ∀ (w : World) (f : Fn) (c d : Array Value), (binOp .eql 65 (.func f c d) .nilFunc).run Tryz.prog w = .ok (.bool false) w := fun _ _ _ _ => by kernel_rfl
  clear hb1 hb0 hS WD K1 hbw R1 hbd hbwd hn hxn
  dsimp only [List.length_cons, List.length_nil, Nat.reduceAdd] at *
  go_wp2
  go_region
  all_goals
    go_wp2_with fail
    refine DO.mono ?_
    rintro e w2 ⟨W', er, told, hdo, hend, hL⟩
    have HL : Hid (Left (ckP cb mb W') w1.drew G w2) := hL
    have hwe := hdo.few.wf
    have ANS : Hid (AnsTo W line W' (if er = 0 then told else errT er)) := by
      show AnsTo W line W' (if er = 0 then told else errT er)
      unfold AnsTo
      rw [HH.out.2.1]
      dsimp only
      rw [HH.out.2.2]
      exact ⟨er, told, hdo, rfl⟩
    have Rt := box_left HW.out.2 hL HH.out.1.ltG (Nat.le_refl _)
    have c2 := Rt.cell 0 _ rfl
    have f2 := Rt.free 0 (by simp)
    clear hL hdo DO Rt LK
    rcases hend with ⟨h0, rfl⟩ | ⟨h0, rfl⟩
    · have A2 := ANS.out
      rw [if_pos h0] at A2
      have HA : Hid (AnsTo W line W' told) := A2
      clear A2 ANS
      go_wp2
      exact an_told HH.out.1 HW.out.1 HW.out.2 HL.out HA.out rfl
    · have A2 := ANS.out
      rw [if_neg h0] at A2
      exact an_throw HH.out.1 HW.out.1 HW.out.2 HL.out hwe A2 rfl
theorem answer_do1 (hh : DoesIt 9) {w : World} {cb mb b j i : Nat} {Gw G : Nat → Prop} {W : WoS} (h : AnPre w cb mb b Gw G W j) {line x y : ByteArray} {l : List ByteArray} (hl : line.size ≤ 20000) (hw : wordsB line = x :: y :: l) (hx : x.size ≤ maxLen) (hsm : ∀ z ∈ y :: l, z.size ≤ 1000000) (hn : cmdN.idxOf? x.data.toList = some i) :
    Calls Tryz.prog 11 #[.pointer (some ⟨cb, 0, none⟩), .string line] w (AnPost W line w cb mb G) := by
  have hmf : ∀ (fn : Fn) (first cap : Array Value) (w : World), (Instr.makeFunc fn first cap).run Tryz.prog w = .ok (.func fn first cap) w := fun _ _ _ _ => rfl
  obtain ⟨hi, hxn⟩ := cmd_there hn
  have WD := words_any line (by omega) (w.alloc (.cells #[.string ⟨#[]⟩] 9))
  rw [hw] at WD
  have HH : Hid (AnPre w cb mb b Gw G W j ∧ wordsB line = x :: y :: l ∧ cmdN.idxOf? x.data.toList = some i) := ⟨h, hw, hn⟩
  have hb0 := boxed (Below.refl w.heap.size w) (.cells #[.string ⟨#[]⟩] 9)
  clear h hw
  go_enter_defers Tryz.func11, Tryz.ntmps11
  go_wp2_with fail
  refine WD.mono ?_
  rintro e w1 ⟨A, rfl, hA, hS, hb1⟩
  have R1 := (RowL.new (w := w) (T := 9) [.string ⟨#[]⟩] rfl).later hb1
  have c1 := R1.cell 0 _ rfl
  have f1 := R1.free 0 (by simp)
  have hbw : Below w.heap.size w w1 := behind hb0 hb1
  have K1 := HH.out.1.ck.later hbw
  have cm := K1.cell1
  have hbd : Below w1.heap.size w1 w1.drew := (Below.refl _ _).drew
  have hbwd : Below w.heap.size w w1.drew := behind hbw hbd
  have DO := does_all hh i hi (w := w1.drew) (cb := cb) (mb := mb) (b := b) (j := j) (cap := l.length + 1) (Gw := Gw) (G := G) (W := W) (a := some ⟨A, 1, none⟩) (l := y :: l) ⟨K1.later hbd, HH.out.1.g, HH.out.1.gl.later hbwd, HH.out.1.gn, HH.out.1.wi, HH.out.1.di, by
    have := (hS.later hbd).tail
    simpa using this, hsm⟩
  obtain ⟨A', o', ee, hlt, cx⟩ := hS.cell 0 x rfl
  injection ee with ee
  injection ee with e1 e2
  subst e1; subst e2
  have LK : (Instr.lookup 55 (.map (some mb)) (.string x) false).run Tryz.prog w1.drew = .ok (.func (.func (fnOf i)) #[.pointer (some ⟨cb, 0, none⟩)] #[]) w1.drew := DMap.held (w := w1.drew) (K1.map.kept rfl) hx hi hxn
  have FE := fn_enters i hi
  have HW : Hid (Below w.heap.size w w1.drew ∧ RowL w1.drew w.heap.size [.string ⟨#[]⟩]) := ⟨hbwd, R1.later hbd⟩
  have eqn : ∀ (w : World) (f : Fn) (c d : Array Value), (binOp .eql 65 (.func f c d) .nilFunc).run Tryz.prog w = .ok (.bool false) w := fun _ _ _ _ => by kernel_rfl
  clear hb1 hb0 hS WD K1 hbw R1 hbd hbwd hn hxn
  dsimp only [List.length_cons] at *
  go_wp2
  go_region
  all_goals
    go_wp2_with fail
    refine DO.mono ?_
    rintro e w2 ⟨W', er, told, hdo, hend, hL⟩
    have HL : Hid (Left (ckP cb mb W') w1.drew G w2) := hL
    have hwe := hdo.few.wf
    have ANS : Hid (AnsTo W line W' (if er = 0 then told else errT er)) := by
      show AnsTo W line W' (if er = 0 then told else errT er)
      unfold AnsTo
      rw [HH.out.2.1]
      dsimp only
      rw [HH.out.2.2]
      exact ⟨er, told, hdo, rfl⟩
    have Rt := box_left HW.out.2 hL HH.out.1.ltG (Nat.le_refl _)
    have c2 := Rt.cell 0 _ rfl
    have f2 := Rt.free 0 (by simp)
    clear hL hdo DO Rt LK
    rcases hend with ⟨h0, rfl⟩ | ⟨h0, rfl⟩
    · have A2 := ANS.out
      rw [if_pos h0] at A2
      have HA : Hid (AnsTo W line W' told) := A2
      clear A2 ANS
      go_wp2
      exact an_told HH.out.1 HW.out.1 HW.out.2 HL.out HA.out rfl
    · have A2 := ANS.out
      rw [if_neg h0] at A2
      exact an_throw HH.out.1 HW.out.1 HW.out.2 HL.out hwe A2 rfl
end Go.Proofs.YtoanjdndmlffdaaGreatDoor
