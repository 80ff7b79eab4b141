/-
  'copselaw.SitePlays': what its walk stands on: the program's site and the document's, apart; what each does to the two.
-/
import Derived.Test.YtplbdmcfghhbdaaGreatDoorRTakeY
import Derived.Test.YtplbdmcfghhbdaaGreatDoorSiteK
import Derived.Test.YtplbdmcfghhbdaaGreatDoorSiteJ
import Derived.Test.YtplbdmcfghhbdaaGreatDoorSiteF
import Derived.Test.YtplbdmcfghhbdaaGreatDoorSiteA
import Derived.Test.YtplbdmcfghhbdaaGreatDoorSiteE
import Derived.Test.YtplbdmcfghhbdaaGreatDoorSiteC
import Derived.Deep.RegionHeld3
namespace Go.Proofs.YtplbdmcfghhbdaaGreatDoor
open Go.RowKit

theorem sameErr_errV' (n : Int) : SameErr (errV n) n := by
  unfold errV
  split
  · rename_i h
    rw [h]
    exact sameErr_nil
  · exact sameErr_no n
theorem neVer' (v : Ver) (w : World) : (binOp .neq 59 (.agg #[.int .i64 v.wall, .int .i64 v.count, .int .i64 v.site, .int .i64 v.seq, .string v.data, .bool v.gone]) (.agg #[.int .i64 v.wall, .int .i64 v.count, .int .i64 v.site, .int .i64 v.seq, .string v.data, .bool v.gone])).run Tryz.prog w = .ok (.bool false) w := by
  have h := eqVerB v v w
  have e : eqV v v = true := by simp [eqV]
  rw [run_eql_struct, e] at h
  rw [run_neq_struct]
  generalize (Op.equalIn 10000 59 _ _).run Tryz.prog w = r at *
  cases r with
  | ok b w1 =>
    simp only [Result.andThen] at h ⊢
    injection h with h1 h2
    injection h1 with h1
    rw [h1, h2]
    rfl
  | halt x w1 => simp [Result.andThen] at h
/-- what is told, as texts -/
def toldT' (a0 a1 a2 a3 : Int) (l : List Hd) : List ByteArray := (List.range 8).map fun (i : Nat) => toldV a0 a1 a2 a3 l i
theorem told_txt' {w : World} {B : Nat} {v : Value} {a0 a1 a2 a3 : Int} {l : List Hd} (h : w.ownsRow B 9 1 v 8 (toldC a0 a1 a2 a3 l 8)) : ∃ a cap, v = .slice a (toldT' a0 a1 a2 a3 l).length cap ∧ TxtIn w a cap (toldT' a0 a1 a2 a3 l) :=
  txtIn_own (T := 9) (B := B) (by
    have e : toldC a0 a1 a2 a3 l 8 = (toldT' a0 a1 a2 a3 l).map Value.string := by
      unfold toldC toldT'
      rw [List.map_map]
      rfl
    rw [← e]
    exact h)

/-- the two sites, apart; X: blocks that are nobody's; Y: blocks that are not the program's -/
def TwoS (w : World) (bp br : Nat) (Sp Sr : SiteS) (X Y : Nat → Prop) : Prop :=
  ∃ Gp Gr, PS w bp Gp Sp ∧ RS w br Gr Sr ∧ (∀ k, Gp k → ¬ Gr k) ∧ (∀ k, X k → k < w.heap.size ∧ ¬ Gp k ∧ ¬ Gr k) ∧ ∀ k, Y k → k < w.heap.size ∧ ¬ Gp k
def NoB : Nat → Prop := fun _ => False
theorem TwoS.later {w w' : World} {bp br : Nat} {Sp Sr : SiteS} {X Y : Nat → Prop} (h : TwoS w bp br Sp Sr X Y) (hb : Below w.heap.size w w') : TwoS w' bp br Sp Sr X Y := by
  obtain ⟨Gp, Gr, p, r, d, hX, hY⟩ := h
  exact ⟨Gp, Gr, p.later hb, r.later hb, d, fun k hk => ⟨Nat.lt_of_lt_of_le (hX k hk).1 hb.size, (hX k hk).2⟩, fun k hk => ⟨Nat.lt_of_lt_of_le (hY k hk).1 hb.size, (hY k hk).2⟩⟩
theorem TwoS.new {w : World} {bp br : Nat} {Sp Sr : SiteS} {X Y : Nat → Prop} (h : TwoS w bp br Sp Sr X Y) (o : Obj) : TwoS (w.alloc o) bp br Sp Sr (fun k => X k ∨ k = w.heap.size) Y := by
  have hb := boxed (Below.refl _ w) o
  obtain ⟨Gp, Gr, p, r, d, hX, hY⟩ := h
  refine ⟨Gp, Gr, p.later hb, r.later hb, d, fun k hk => ?_, fun k hk => ⟨Nat.lt_of_lt_of_le (hY k hk).1 hb.size, (hY k hk).2⟩⟩
  rcases hk with h1 | rfl
  · exact ⟨Nat.lt_of_lt_of_le (hX k h1).1 hb.size, (hX k h1).2⟩
  · exact ⟨by simp, fun e => Nat.lt_irrefl _ (p.lt _ e), fun e => Nat.lt_irrefl _ (r.lt _ e)⟩
theorem TwoS.less {w : World} {bp br : Nat} {Sp Sr : SiteS} {X Y X' : Nat → Prop} (h : TwoS w bp br Sp Sr X Y) (hX' : ∀ k, X' k → X k) : TwoS w bp br Sp Sr X' NoB := by
  obtain ⟨Gp, Gr, p, r, d, hX, hY⟩ := h
  exact ⟨Gp, Gr, p, r, d, fun k hk => hX k (hX' k hk), fun k hk => hk.elim⟩
theorem TwoS.prog {w w' : World} {bp br : Nat} {Sp' Sr : SiteS} {X Y Gp Gr : Nat → Prop} (r : RS w br Gr Sr) (d : ∀ k, Gp k → ¬ Gr k) (hX : ∀ k, X k → k < w.heap.size ∧ ¬ Gp k ∧ ¬ Gr k) (hY : ∀ k, Y k → k < w.heap.size ∧ ¬ Gp k) (h : PPo w bp Gp Sp' w') : TwoS w' bp br Sp' Sr X Y ∧ Keeps (fun k => X k ∨ Y k) w w' := by
  obtain ⟨G', p', sub, tt⟩ := h
  refine ⟨⟨G', Gr, p', r.kept (fun k hk => tt.block k (r.lt k hk) (fun e => d k e hk)) tt.size, fun k hk hr => ?_, fun k hk => ⟨Nat.lt_of_lt_of_le (hX k hk).1 tt.size, fun e => ?_, (hX k hk).2.2⟩, fun k hk => ⟨Nat.lt_of_lt_of_le (hY k hk).1 tt.size, fun e => ?_⟩⟩, ⟨tt.os, tt.tape, tt.output, tt.size, fun k hk => ?_⟩⟩
  · rcases sub k hk with h1 | h1
    · exact d k h1 hr
    · have := r.lt k hr; omega
  · rcases sub k e with h1 | h1
    · exact (hX k hk).2.1 h1
    · have := (hX k hk).1; omega
  · rcases sub k e with h1 | h1
    · exact (hY k hk).2 h1
    · have := (hY k hk).1; omega
  · rcases hk with h1 | h1
    · exact tt.block k (hX k h1).1 (hX k h1).2.1
    · exact tt.block k (hY k h1).1 (hY k h1).2
theorem TwoS.ref {w w' : World} {bp br : Nat} {Sp Sr' : SiteS} {X Y' Gp Gr : Nat → Prop} (p : PS w bp Gp Sp) (d : ∀ k, Gp k → ¬ Gr k) (hX : ∀ k, X k → k < w.heap.size ∧ ¬ Gp k ∧ ¬ Gr k) (h : RPo w br Gr Sr' w') (hY : ∀ k, Y' k → w.heap.size ≤ k ∧ k < w'.heap.size) : TwoS w' bp br Sp Sr' X Y' ∧ Keeps X w w' := by
  obtain ⟨G', r', sub, tt⟩ := h
  refine ⟨⟨Gp, G', p.kept (fun k hk => tt.block k (p.lt k hk) (d k hk)) tt.size, r', fun k hk hr => ?_, fun k hk => ⟨Nat.lt_of_lt_of_le (hX k hk).1 tt.size, (hX k hk).2.1, fun e => ?_⟩, fun k hk => ⟨(hY k hk).2, fun e => ?_⟩⟩, ⟨tt.os, tt.tape, tt.output, tt.size, fun k hk => tt.block k (hX k hk).1 (hX k hk).2.2⟩⟩
  · rcases sub k hr with h1 | h1
    · exact d k hk h1
    · have := p.lt k hk; omega
  · rcases sub k e with h1 | h1
    · exact (hX k hk).2.2 h1
    · have := (hX k hk).1; omega
  · have := p.lt k e
    have := (hY k hk).1
    omega
theorem noB_lt {w w' : World} : ∀ k, NoB k → w.heap.size ≤ k ∧ k < w'.heap.size := fun _ h => h.elim

section
variable {w : World} {bp br : Nat} {Sp Sr : SiteS} {X Y : Nat → Prop}

theorem two_take (m : TxM) (h : TwoS w bp br Sp Sr X NoB) (hI : InvS Sp) (hn : Sp.waits.length ≤ 900) (hW : WrIn w m.wa m.wc m.t.ws) :
    Calls Tryz.prog 11 #[.pointer (some ⟨bp, 0, none⟩), txV m] w fun e w' => e = .returned (errV (takeE Sp m.t)) ∧ ∃ S', Hid (TakesTo Sp m.t S') ∧ TwoS w' bp br S' Sr X NoB ∧ Keeps X w w' := by
  obtain ⟨Gp, Gr, p, r, d, hX, hY⟩ := h
  refine (take_site m w p hI (by omega) hW).mono fun e w' ⟨he, S', hT, hp⟩ => ?_
  obtain ⟨h1, h2⟩ := TwoS.prog r d hX hY hp
  exact ⟨he, S', hT, h1, ⟨h2.os, h2.tape, h2.output, h2.size, fun k hk => h2.block k (.inl hk)⟩⟩
theorem two_rtake (m : TxM) (h : TwoS w bp br Sp Sr X NoB) (hI : InvS Sr) (hn : Sr.waits.length ≤ 900) (hW : WrIn w m.wa m.wc m.t.ws) :
    Calls Tryz.prog 12 #[.pointer (some ⟨br, 0, none⟩), txV m] w fun e w' => e = .returned (.int .i64 (takeE Sr m.t)) ∧ ∃ S', Hid (TakesTo Sr m.t S') ∧ TwoS w' bp br Sp S' X NoB ∧ Keeps X w w' := by
  obtain ⟨Gp, Gr, p, r, d, hX, hY⟩ := h
  refine (refTake_any m w r hI hn hW).mono fun e w' ⟨he, S', hT, hp⟩ => ?_
  obtain ⟨h1, h2⟩ := TwoS.ref p d hX hp noB_lt
  exact ⟨he, S', hT, h1, h2⟩
theorem two_sweep' (x0 x1 x2 x3 : Int) (h : TwoS w bp br Sp Sr X NoB) (hI : InvS Sp) :
    Calls Tryz.prog 15 #[.pointer (some ⟨bp, 0, none⟩), .agg #[.int .i64 x0, .int .i64 x1, .int .i64 x2, .int .i64 x3]] w fun e w' => e = .returned (.tuple #[]) ∧ TwoS w' bp br { Sp with l := sweepL (minZ x0 Sp.a0) (minZ x1 Sp.a1) (minZ x2 Sp.a2) (minZ x3 Sp.a3) Sp.l } Sr X NoB ∧ Keeps X w w' := by
  obtain ⟨Gp, Gr, p, r, d, hX, hY⟩ := h
  refine (psweep_any x0 x1 x2 x3 w p hI).mono fun e w' ⟨he, hp⟩ => ?_
  obtain ⟨h1, h2⟩ := TwoS.prog r d hX hY hp
  exact ⟨he, h1, ⟨h2.os, h2.tape, h2.output, h2.size, fun k hk => h2.block k (.inl hk)⟩⟩
theorem two_rsweep (x0 x1 x2 x3 : Int) (h : TwoS w bp br Sp Sr X NoB) (hI : InvS Sr) :
    Calls Tryz.prog 16 #[.pointer (some ⟨br, 9, none⟩), .agg #[.int .i64 x0, .int .i64 x1, .int .i64 x2, .int .i64 x3]] w fun e w' => e = .returned (.tuple #[]) ∧ TwoS w' bp br Sp { Sr with l := sweepL x0 x1 x2 x3 Sr.l } X NoB ∧ Keeps X w w' := by
  obtain ⟨Gp, Gr, p, r, d, hX, hY⟩ := h
  refine (rsweep_any x0 x1 x2 x3 w r hI).mono fun e w' ⟨he, hp⟩ => ?_
  obtain ⟨h1, h2⟩ := TwoS.ref p d hX hp noB_lt
  exact ⟨he, h1, h2⟩
theorem two_knows {n : Int} (h0 : 0 ≤ n) (h4 : n < 4) (x0 x1 x2 x3 : Int) (h : TwoS w bp br Sp Sr X NoB) :
    Calls Tryz.prog 14 #[.pointer (some ⟨bp, 0, none⟩), .int .i64 n, .agg #[.int .i64 x0, .int .i64 x1, .int .i64 x2, .int .i64 x3]] w fun e w' => e = .returned (errV 0) ∧ TwoS w' bp br (knowsS Sp n.toNat x0 x1 x2 x3) Sr X NoB ∧ Keeps X w w' := by
  obtain ⟨Gp, Gr, p, r, d, hX, hY⟩ := h
  refine (knows_any h0 h4 x0 x1 x2 x3 w p).mono fun e w' ⟨he, hp⟩ => ?_
  obtain ⟨h1, h2⟩ := TwoS.prog r d hX hY hp
  exact ⟨he, h1, ⟨h2.os, h2.tape, h2.output, h2.size, fun k hk => h2.block k (.inl hk)⟩⟩
/-- what comes of the program's commit -/
def TwoCommit (w : World) (bp br : Nat) (Sp Sr : SiteS) (X Y : Nat → Prop) (now d0 d1 d2 d3 : Int) (ws : List Wr) (e : Ending) (w' : World) : Prop :=
  ∃ m : TxM, e = .returned (.tuple #[txV m, errV (comE Sp now d0 d1 d2 d3 ws)]) ∧ m.t = comT Sp now d0 d1 d2 d3 ws ∧ Hid (WrIn w' m.wa m.wc m.t.ws ∧ TwoS w' bp br (comS Sp now d0 d1 d2 d3 ws) Sr X Y ∧ Keeps (fun k => X k ∨ Y k) w w')
theorem two_commit (now d0 d1 d2 d3 : Int) {a : Option Addr} {cap : Nat} {ws : List Wr} (h : TwoS w bp br Sp Sr X Y) (hI : InvS Sp) (hW : WrIn w a cap ws) (hA : ∀ k off, ws ≠ [] → a = some ⟨k, off, none⟩ → X k) :
    Calls Tryz.prog 9 #[.pointer (some ⟨bp, 0, none⟩), .int .i64 now, .agg #[.int .i64 d0, .int .i64 d1, .int .i64 d2, .int .i64 d3], .slice a ws.length cap] w (TwoCommit w bp br Sp Sr X Y now d0 d1 d2 d3 ws) := by
  obtain ⟨Gp, Gr, p, r, d, hX, hY⟩ := h
  refine (commit_site now d0 d1 d2 d3 w p hI hW (fun k off e1 e2 => (hX k (hA k off e1 e2)).2.1)).mono fun e w' ⟨m, he, hm, hh⟩ => ?_
  obtain ⟨h1, h2⟩ := TwoS.prog r d hX hY hh.out.2
  exact ⟨m, he, hm, hh.out.1, h1, h2⟩
/-- what comes of the document's -/
def TwoRCommit (w : World) (bp br : Nat) (Sp Sr : SiteS) (X : Nat → Prop) (now d0 d1 d2 d3 : Int) (ws : List Wr) (e : Ending) (w' : World) : Prop :=
  ∃ m : TxM, e = .returned (.tuple #[txV m, .int .i64 (comE Sr now d0 d1 d2 d3 ws)]) ∧ m.t = comT Sr now d0 d1 d2 d3 ws ∧ Hid (WrIn w' m.wa m.wc m.t.ws ∧ TwoS w' bp br Sp (comS Sr now d0 d1 d2 d3 ws) X m.blk ∧ Keeps X w w')
theorem two_rcommit (now d0 d1 d2 d3 : Int) {a : Option Addr} {cap : Nat} {ws : List Wr} (h : TwoS w bp br Sp Sr X NoB) (hI : InvS Sr) (hW : WrIn w a cap ws) (hA : ∀ k off, ws ≠ [] → a = some ⟨k, off, none⟩ → X k) :
    Calls Tryz.prog 8 #[.pointer (some ⟨br, 0, none⟩), .int .i64 now, .agg #[.int .i64 d0, .int .i64 d1, .int .i64 d2, .int .i64 d3], .slice a ws.length cap] w (TwoRCommit w bp br Sp Sr X now d0 d1 d2 d3 ws) := by
  obtain ⟨Gp, Gr, p, r, d, hX, hY⟩ := h
  refine (rcommit_any now d0 d1 d2 d3 w r hI hW (fun k off e1 e2 => (hX k (hA k off e1 e2)).2.2)).mono fun e w' ⟨m, he, hm, hh, hnew⟩ => ?_
  obtain ⟨h1, h2⟩ := TwoS.ref (Y' := m.blk) p d hX hh.out.2 (fun k hk => ⟨hnew k hk, hh.out.1.blk_lt k hk⟩)
  exact ⟨m, he, hm, hh.out.1, h1, h2⟩
end

/-- what another site has is known, at a site of the document -/
theorem SMem.know {w : World} {b : Nat} {lv wv sv : Value} {S : SiteS} {log waits : List TxM} (h : SMem w b lv wv sv S log waits) {k : Nat} (hk : k < 4) (x0 x1 x2 x3 : Int) :
    SMem ((((w.setCell ⟨b, 10 + k * 4, none⟩ (.int .i64 (maxZ (S.oth (k * 4)) x0))).setCell ⟨b, 10 + k * 4 + 1, none⟩ (.int .i64 (maxZ (S.oth (k * 4 + 1)) x1))).setCell ⟨b, 10 + k * 4 + 2, none⟩ (.int .i64 (maxZ (S.oth (k * 4 + 2)) x2))).setCell ⟨b, 10 + k * 4 + 3, none⟩ (.int .i64 (maxZ (S.oth (k * 4 + 3)) x3))) b lv wv sv (knowsS S k x0 x1 x2 x3) log waits := by
  have hl : (siteC S lv wv sv).length = 26 := rfl
  have a1 := h.box.set (10 + k * 4) (.int .i64 (maxZ (S.oth (k * 4)) x0)) (by rw [hl]; omega)
  have a2 := a1.set (10 + k * 4 + 1) (.int .i64 (maxZ (S.oth (k * 4 + 1)) x1)) (by rw [List.length_set, hl]; omega)
  have a3 := a2.set (10 + k * 4 + 2) (.int .i64 (maxZ (S.oth (k * 4 + 2)) x2)) (by rw [List.length_set, List.length_set, hl]; omega)
  have a4 := a3.set (10 + k * 4 + 3) (.int .i64 (maxZ (S.oth (k * 4 + 3)) x3)) (by rw [List.length_set, List.length_set, List.length_set, hl]; omega)
  refine h.cells (fun j hj => ?_) ?_ rfl
  · rw [Below.heap_setCell _ _ _ _ hj, Below.heap_setCell _ _ _ _ hj, Below.heap_setCell _ _ _ _ hj, Below.heap_setCell _ _ _ _ hj]
  · match k, hk with
    | 0, _ => exact a4
    | 1, _ => exact a4
    | 2, _ => exact a4
    | 3, _ => exact a4
theorem TwoS.rknow {w : World} {bp br : Nat} {Sp Sr : SiteS} {X : Nat → Prop} (h : TwoS w bp br Sp Sr X NoB) {k : Nat} (hk : k < 4) (x0 x1 x2 x3 : Int) :
    TwoS ((((w.setCell ⟨br, 10 + k * 4, none⟩ (.int .i64 (maxZ (Sr.oth (k * 4)) x0))).setCell ⟨br, 10 + k * 4 + 1, none⟩ (.int .i64 (maxZ (Sr.oth (k * 4 + 1)) x1))).setCell ⟨br, 10 + k * 4 + 2, none⟩ (.int .i64 (maxZ (Sr.oth (k * 4 + 2)) x2))).setCell ⟨br, 10 + k * 4 + 3, none⟩ (.int .i64 (maxZ (Sr.oth (k * 4 + 3)) x3))) bp br Sp (knowsS Sr k x0 x1 x2 x3) X NoB ∧
      Keeps X w ((((w.setCell ⟨br, 10 + k * 4, none⟩ (.int .i64 (maxZ (Sr.oth (k * 4)) x0))).setCell ⟨br, 10 + k * 4 + 1, none⟩ (.int .i64 (maxZ (Sr.oth (k * 4 + 1)) x1))).setCell ⟨br, 10 + k * 4 + 2, none⟩ (.int .i64 (maxZ (Sr.oth (k * 4 + 2)) x2))).setCell ⟨br, 10 + k * 4 + 3, none⟩ (.int .i64 (maxZ (Sr.oth (k * 4 + 3)) x3))) := by
  obtain ⟨Gp, Gr, p, r, d, hX, hY⟩ := h
  refine TwoS.ref p d hX ?_ noB_lt
  obtain ⟨lv, wv, sv, log, waits, M, hl, hw, hG⟩ := r
  refine ⟨Gr, ⟨lv, wv, sv, log, waits, M.know hk x0 x1 x2 x3, hl, hw, hG⟩, fun k hk => .inl hk, ⟨rfl, rfl, rfl, by simp [World.setCell], fun j hj hn => ?_⟩⟩
  have hjb : j ≠ br := fun e => hn ((hG j).2 (.inl (.inl e)))
  rw [Below.heap_setCell _ _ _ _ hjb, Below.heap_setCell _ _ _ _ hjb, Below.heap_setCell _ _ _ _ hjb, Below.heap_setCell _ _ _ _ hjb]
/-- the document's box -/
theorem TwoS.box {w : World} {bp br : Nat} {Sp Sr : SiteS} {X Y : Nat → Prop} (h : TwoS w bp br Sp Sr X Y) : ∃ lv va vc sa sc, RowL w br (siteC Sr lv (.slice va Sr.waits.length vc) (.slice sa Sr.l.length sc)) ∧ Sr.waits.length ≤ vc ∧ Sr.l.length ≤ sc := by
  obtain ⟨Gp, Gr, p, ⟨lv, wv, sv, log, waits, M, hl, hw, hG⟩, d, hX, hY⟩ := h
  obtain ⟨va, vc, rfl, hT⟩ := txsIn_own M.rwait
  have hwl : waits.length = Sr.waits.length := by rw [← hw]; simp
  rcases M.own.2 with ⟨rfl, h0⟩ | ⟨g, cap, cur, rfl, _, _, hc, _⟩
  · exact ⟨lv, va, vc, none, 0, by rw [← hwl, h0]; exact M.box, by rw [← hwl]; exact hT.len, by omega⟩
  · exact ⟨lv, va, vc, some ⟨g, 0, none⟩, cap, by rw [← hwl]; exact M.box, by rw [← hwl]; exact hT.len, hc⟩

end Go.Proofs.YtplbdmcfghhbdaaGreatDoor
