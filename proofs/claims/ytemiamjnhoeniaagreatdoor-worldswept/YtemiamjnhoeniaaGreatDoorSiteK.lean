/-
  What comes of a step of a tale (copsekeep's tale.does); what its arms share.
  Tales in a law: in new blocks; acts in a row.
  The arguments' shapes, opened: a slice of acts of a tale (copsekeep.Act).
  Two tales apart, of which one sweeps; what they tell.
  A step of a tale: none such.
-/
import Derived.Test.YtemiamjnhoeniaaGreatDoorTaReads
import Derived.Test.YtemiamjnhoeniaaGreatDoorTaTells
import Derived.Test.YtemiamjnhoeniaaGreatDoorSiteA
import Derived.Test.YtemiamjnhoeniaaGreatDoorSiteC
import Derived.Deep.Cut
import Derived.Deep.CutRange
import Derived.Deep.CutBlock
import Derived.Deep.RegionHeld3
import Derived.Test.YtemiamjnhoeniaaGreatDoorSiteJ
import Derived.Test.YtemiamjnhoeniaaGreatDoorTellB
namespace Go.Proofs.YtemiamjnhoeniaaGreatDoor
open Go.RowKit

def DoesIs (w : World) (b : Nat) (G : Nat → Prop) (T : TaleS) (a : ActS) (sw : Bool) (e : Ending) (w' : World) : Prop := e = .returned (.bool true) ∧ ∃ T', DoesTo T a sw T' ∧ TAPo w b G T' w'
def DoneTo (w : World) (G : Nat → Prop) (b : Nat) (M : TaM) (T : TaleS) (a : ActS) (sw : Bool) (w4 wc : World) : Prop := Hid (∃ M' T', DoesTo T a sw T' ∧ TaAt w G b M' T' (fun k => w.heap.size ≤ k ∧ k < w4.heap.size) wc ∧ M'.wb = M.wb ∧ Keeps (fun k => w.heap.size ≤ k ∧ k < w4.heap.size) w4 wc)
theorem Keeps.sub {X X' : Nat → Prop} {w w' : World} (h : Keeps X w w') (hX : ∀ k, X' k → X k) : Keeps X' w w' := ⟨h.os, h.tape, h.output, h.size, fun k hk => h.block k (hX k hk)⟩
theorem Keeps.ofBelow {X : Nat → Prop} {w w' : World} (h : Below w.heap.size w w') (hX : ∀ k, X k → k < w.heap.size) : Keeps X w w' := ⟨h.os, h.tape, h.output, h.size, fun k hk => h.block k (hX k hk)⟩
theorem drop_none {T : TaleS} {i : Nat} (h : T.W.net = []) : setW T (dropW' T.W i) = T := by
  obtain ⟨⟨n, c, S, wl, ses, at_, net, lost⟩, H, own⟩ := T
  have h : net = [] := h
  subst h
  rfl
theorem move_n (W : WoS) (k j : Nat) : (moveW W k j).n = W.n ∧ (moveW W k j).c = W.c := by
  unfold moveW
  split <;> exact ⟨rfl, rfl⟩
theorem TI.wall0 {base : Nat → V4} {Tg T : TaleS} {m i : Nat} (h : TI base Tg T m) (hi : i < T.W.n) : 0 ≤ T.W.wall i ∧ T.W.wall i ≤ 1099511627776 := by
  rw [h.sim.wall]
  exact h.wall i (by rw [← h.sim.n]; exact hi)
theorem beg_cov {S : SiteS} {s : SesS} (h : begE S s = 0) : covB (begS S s).s0 (begS S s).s1 (begS S s).s2 (begS S s).s3 s.p0 s.p1 s.p2 s.p3 = true := by
  have e : begS S s = { s with opn := true, s0 := S.a0, s1 := S.a1, s2 := S.a2, s3 := S.a3, ws := [] } := by unfold begS; rw [if_pos h]
  rw [e]
  unfold begE at h
  cases o : s.opn with
  | true => rw [if_pos o] at h; cases h
  | false =>
    rw [if_neg (by rw [o]; decide)] at h
    cases c : covB S.a0 S.a1 S.a2 S.a3 s.p0 s.p1 s.p2 s.p3 with
    | true => rfl
    | false => rw [if_pos c] at h; cases h
theorem TaAt.row {w0 w : World} {G X : Nat → Prop} {b : Nat} {M : TaM} {T : TaleS} (h : TaAt w0 G b M T X w) : w.ownsRow 0 80 9 M.tv M.all.length (txsC M.all) ∧ M.all.length = T.H.length ∧ M.tv.ownBlock ≠ some b := by
  obtain ⟨Gs, h, _⟩ := h
  exact ⟨h.tr, by rw [← h.al]; simp, h.sb.1⟩
theorem vec_cell {w : World} {b : Nat} {s a0 a1 a2 a3 : Int} (h : RowL w b [.int .i64 a0, .int .i64 a1, .int .i64 a2, .int .i64 a3]) (h0 : 0 ≤ s) (h3 : s ≤ 3) : w.cell? ⟨b, s.toNat, none⟩ = some (.int .i64 (depOf s a0 a1 a2 a3)) := by
  refine h.cell _ _ ?_
  have h : s = 0 ∨ s = 1 ∨ s = 2 ∨ s = 3 := by omega
  rcases h with rfl | rfl | rfl | rfl <;> rfl
theorem errV_no {n : Int} (h : n ≠ 0) : errV n = .iface 29 (.int .i64 n) := by unfold errV; rw [if_neg h]
theorem errV_yes {n : Int} (h : n = 0) : errV n = .nilIface := by unfold errV; rw [if_pos h]

end Go.Proofs.YtemiamjnhoeniaaGreatDoor


namespace Go.Proofs.YtemiamjnhoeniaaGreatDoor
open Go.RowKit

def actC (a : ActS) : List Value := [.int .i64 a.what, .int .i64 a.k, .int .i64 a.n, .string a.data, .bool a.gone]
structure ActIn (w : World) (a : Option Addr) (cap : Nat) (l : List ActS) : Prop where
  len : l.length ≤ cap
  cap : cap ≤ 9223372036854775807
  held : l = [] ∨ ∃ b off, a = some ⟨b, off, none⟩ ∧ ∀ i x r u, l[i]? = some x → (actC x)[r]? = some u → w.cell? ⟨b, off + (i * 5 + r), none⟩ = some u
theorem ActIn.later {w w' : World} {a : Option Addr} {cap : Nat} {l : List ActS} (hb : Below w.heap.size w w') (h : ActIn w a cap l) : ActIn w' a cap l :=
  ⟨h.len, h.cap, h.held.elim .inl fun ⟨b, off, e, c⟩ => .inr ⟨b, off, e, fun i m r u hi hu => cell_later hb (c i m r u hi hu)⟩⟩
theorem ActIn.at {w : World} {a : Option Addr} {cap : Nat} {l : List ActS} (h : ActIn w a cap l) {i : Nat} (hi : i < l.length) : ∃ ab ao what ak an ad ag, a = some ⟨ab, ao, none⟩ ∧ l[i]? = some ⟨what, ak, an, ad, ag⟩ ∧ w.cell? ⟨ab, ao + i * 5, none⟩ = some (.int .i64 what) ∧ w.cell? ⟨ab, ao + i * 5 + 1, none⟩ = some (.int .i64 ak) ∧ w.cell? ⟨ab, ao + i * 5 + 2, none⟩ = some (.int .i64 an) ∧ w.cell? ⟨ab, ao + i * 5 + 3, none⟩ = some (.string ad) ∧ w.cell? ⟨ab, ao + i * 5 + 4, none⟩ = some (.bool ag) := by
  rcases h.held with h0 | ⟨b, off, e, c⟩
  · rw [h0] at hi; simp at hi
  · obtain ⟨⟨what, ak, an, ad, ag⟩, hx⟩ : ∃ x, l[i]? = some x := ⟨_, List.getElem?_eq_getElem hi⟩
    exact ⟨b, off, what, ak, an, ad, ag, e, hx, c i _ 0 _ hx rfl, c i _ 1 _ hx rfl, c i _ 2 _ hx rfl, c i _ 3 _ hx rfl, c i _ 4 _ hx rfl⟩

end Go.Proofs.YtemiamjnhoeniaaGreatDoor


namespace Go.Proofs.YtemiamjnhoeniaaGreatDoor
open Go.ChangeShapes Go.WideShapes Go.ChangeAt Go.RowKit Go.Joins Go.Deep
set_option maxRecDepth 100000

theorem cellsAct : Tryz.prog.cellsOf 74 = 5 := by kernel_rfl

section
variable {H : Type} {enc : TypeId × Value → H} {W : World}

theorem open_act {fuel : Nat} {cs : List Value} {x : DataW H × List MemPlace} (h : DataW.trod enc Tryz.prog W 0 (fun _ => true) true fuel 74 cs = some x) : ∃ a : ActS, cs = actC a := by
  obtain ⟨xs, n, _, _, hl, hlen, hfl⟩ := DataW.trod_struct Tryz.underlying74 h
  rw [cellsAct] at hl
  obtain ⟨c0, c1, c2, c3, c4, rfl⟩ := list5 hl
  obtain ⟨y0, y1, y2, y3, y4, rfl⟩ := list5 hlen
  have f0 := hfl 0 _ rfl
  have f1 := hfl 1 _ rfl
  have f2 := hfl 2 _ rfl
  have f3 := hfl 3 _ rfl
  have f4 := hfl 4 _ rfl
  simp [cellsInt, cellsStr, cellsBool] at f0 f1 f2 f3 f4
  obtain ⟨what, e0, _, _⟩ := DataW.trod_int Tryz.underlying3 f0
  obtain ⟨ak, e1, _, _⟩ := DataW.trod_int Tryz.underlying3 f1
  obtain ⟨an, e2, _, _⟩ := DataW.trod_int Tryz.underlying3 f2
  obtain ⟨ad, e3, _, _⟩ := DataW.trod_string Tryz.underlying9 f3
  obtain ⟨ag, e4, _⟩ := DataW.trod_bool Tryz.underlying4 f4
  simp at e0 e1 e2 e3 e4
  subst e0 e1 e2 e3 e4
  exact ⟨⟨what, ak, an, ad, ag⟩, rfl⟩

theorem open_acts {r : Reach} {b0 : Nat} {v : Value} {d : DataW H} {p : List MemPlace}
    (hv : Value.okWide Tryz.prog W r b0 69 v) (h : DataW.Trod enc Tryz.prog W 0 (fun _ => true) true 69 v d p) :
    ∃ (a : Option Addr) (cap : Nat) (l : List ActS), v = .slice a l.length cap ∧ ActIn W a cap l := by
  obtain ⟨a0, len0, cap0, rfl⟩ := okWide_slice Tryz.underlying69 hv
  obtain ⟨fuel, hf⟩ := h
  rcases open_slice Tryz.underlying69 hf with ⟨hc, _⟩ | ⟨a, len, cap, m, n, D, Pl, hc, _, hl, hm, hmm, _, hx⟩
  · have e : Value.slice a0 len0 cap0 = .slice none 0 0 := by simpa [Value.cells] using hc
    rw [e]
    exact ⟨none, 0, [], rfl, ⟨by simp, by omega, .inl rfl⟩⟩
  · have e : Value.slice a0 len0 cap0 = .slice (some a) len cap := by simpa [Value.cells] using hc
    rw [e]
    simp at hmm
    have hcap : cap ≤ 9223372036854775807 := by unfold maxLen at hm; omega
    rcases Nat.eq_zero_or_pos len with rfl | hpos
    · exact ⟨some a, cap, [], rfl, ⟨by simp, hcap, .inl rfl⟩⟩
    · have inh : Inhabited ActS := ⟨⟨0, 0, 0, ⟨#[]⟩, false⟩⟩
      have hx' : ∀ i, i < len → ∃ y : ActS, ∀ r u, (actC y)[r]? = some u → W.cell? ((a.add (i * 5)).add r) = some u := fun i hi => by
        obtain ⟨cs', h1, h2⟩ := hx i (by omega)
        rw [cellsAct] at h1
        obtain ⟨y, rfl⟩ := open_act h2
        obtain ⟨_, _, hcell⟩ := World.cells?_some h1
        refine ⟨y, fun r u hu => ?_⟩
        have hr : r < 5 := by have := (List.getElem?_eq_some_iff.1 hu).1; simpa [actC] using this
        have := hcell r hr
        rw [this]
        exact hu
      obtain ⟨f, hf⟩ := choose_lt hx'
      obtain ⟨b, off, spot⟩ := a
      have hspot : spot = none := by simpa [Addr.add] using World.cell?_spot (hf 0 hpos 0 _ rfl)
      subst hspot
      refine ⟨some ⟨b, off, none⟩, cap, (List.range len).map f, by simp, ⟨by simpa using hl, hcap, .inr ⟨b, off, rfl, fun i x r u hx hu => ?_⟩⟩⟩
      have hi' : i < len := by have := (List.getElem?_eq_some_iff.1 hx).1; simpa using this
      have e : x = f i := by
        rw [List.getElem?_map, List.getElem?_range hi'] at hx
        simpa using hx.symm
      rw [e] at hu
      have := hf i hi' r u hu
      simp only [addPlain] at this
      rw [← Nat.add_assoc]
      exact this

end
end Go.Proofs.YtemiamjnhoeniaaGreatDoor


namespace Go.Proofs.YtemiamjnhoeniaaGreatDoor
open Go.RowKit

theorem wp_callO {P : Program} {o : Oper} {a : Act} {w : World} {K : Act → World → Prop} {Q : Exit → Act → World → Prop} (f : FuncId) (args : Array Value)
    (he : (execOp a.eval o).run P w = .ok (.enter f args) w) {R : Ending → World → Prop} (h : Calls P f args w R) (hK : ∀ e w', R e w' → ∃ v, e = .returned v ∧ K (a.put o.dst v) w') : Oper.wp P o a w K Q := by
  unfold Oper.wp
  rw [he]
  exact h.mono fun e w' hr => by
    obtain ⟨v, rfl, hk⟩ := hK e w' hr
    exact hk
def TwoTA (w0 : World) (ba bb : Nat) (A B : TaleS) (w : World) : Prop := Below w0.heap.size w0 w ∧ ∃ Ga Gb, TA w ba Ga A ∧ TA w bb Gb B ∧ (∀ k, Ga k → ¬ Gb k) ∧ (∀ k, Ga k → w0.heap.size ≤ k) ∧ ∀ k, Gb k → w0.heap.size ≤ k
section
variable {w0 w w' : World} {ba bb : Nat} {A B A' B' : TaleS} {Ga Gb : Nat → Prop}
theorem TwoTA.later (h : TwoTA w0 ba bb A B w) (hb : Below w.heap.size w w') : TwoTA w0 ba bb A B w' := by
  obtain ⟨h1, Ga, Gb, h2, h3, h4⟩ := h
  exact ⟨behind h1 hb, Ga, Gb, h2.later hb, h3.later hb, h4⟩
theorem TwoTA.stepA (h1 : Below w0.heap.size w0 w) (h3 : TA w bb Gb B) (hd : ∀ k, Ga k → ¬ Gb k) (na : ∀ k, Ga k → w0.heap.size ≤ k) (nb : ∀ k, Gb k → w0.heap.size ≤ k) (hp : TAPo w ba Ga A' w') : TwoTA w0 ba bb A' B w' := by
  obtain ⟨G', p1, p2, tt⟩ := hp
  have s := h1.size
  refine ⟨Touch.belowF h1 tt na h1.size, G', Gb, p1, h3.kept (fun k hk => tt.block k (h3.lt k hk) (fun e => hd k e hk)) tt.size, fun k hk hb => ?_, fun k hk => ?_, nb⟩
  · rcases p2 k hk with q | q
    · exact hd k q hb
    · have := h3.lt k hb; omega
  · rcases p2 k hk with q | q
    · exact na k q
    · omega
theorem TwoTA.stepB (h1 : Below w0.heap.size w0 w) (h2 : TA w ba Ga A) (hd : ∀ k, Ga k → ¬ Gb k) (na : ∀ k, Ga k → w0.heap.size ≤ k) (nb : ∀ k, Gb k → w0.heap.size ≤ k) (hp : TAPo w bb Gb B' w') : TwoTA w0 ba bb A B' w' := by
  obtain ⟨G', p1, p2, tt⟩ := hp
  have s := h1.size
  refine ⟨Touch.belowF h1 tt nb h1.size, Ga, G', h2.kept (fun k hk => tt.block k (h2.lt k hk) (fun e => hd k hk e)) tt.size, p1, fun k hk hb => ?_, na, fun k hk => ?_⟩
  · rcases p2 k hb with q | q
    · exact hd k hk q
    · have := h2.lt k hk; omega
  · rcases p2 k hk with q | q
    · exact nb k q
    · omega
theorem TwoTA.start (h : TwoTA w0 ba bb A B w) : ∃ Ma Mb Ga Gb, TaAt w Ga ba Ma A NoY w ∧ TaAt w Gb bb Mb B NoY w ∧ TA w ba Ga A ∧ TA w bb Gb B ∧ (∀ k, Ga k → ¬ Gb k) ∧ (∀ k, Ga k → w0.heap.size ≤ k) ∧ (∀ k, Gb k → w0.heap.size ≤ k) ∧ Below w0.heap.size w0 w := by
  obtain ⟨h1, Ga, Gb, h2, h3, h4, h5, h6⟩ := h
  obtain ⟨Ma, hA⟩ := h2.start
  obtain ⟨Mb, hB⟩ := h3.start
  exact ⟨Ma, Mb, Ga, Gb, hA, hB, h2, h3, h4, h5, h6, h1⟩
end
section
variable {base base2 : Nat → V4} {Tg T : TaleS} {m : Nat}
theorem TI.same_read2 (h : TI base Tg T m) (hg : TI base2 Tg Tg m) {k : Nat} (hk : k < Tg.W.c) {key : Int} (h0 : 0 ≤ key) (h8 : key < 8) : sreadV (T.W.S (T.W.at_ k)) (T.W.ses k) key = sreadV (Tg.W.S (Tg.W.at_ k)) (Tg.W.ses k) key := by
  cases o : (Tg.W.ses k).opn with
  | false =>
    unfold sreadV
    rw [h.sim.ses, if_pos o, if_pos o]
  | true =>
    have o' : (T.W.ses k).opn = true := by rw [h.sim.ses]; exact o
    rw [h.reads hk o' h0 h8, hg.reads hk o h0 h8, h.eo, h.eH, h.sim.ses]
theorem TI.same_told (h : TI base Tg T m) (hg : TI base2 Tg Tg m) {i : Nat} (hi : i < Tg.W.n) (key : Int) : toldV (T.W.S i).a0 (T.W.S i).a1 (T.W.S i).a2 (T.W.S i).a3 (T.W.S i).l key = toldV (Tg.W.S i).a0 (Tg.W.S i).a1 (Tg.W.S i).a2 (Tg.W.S i).a3 (Tg.W.S i).l key := by
  rw [h.told hi key, hg.told hi key, h.eH]
end
theorem keyL_nodup : ∀ (l : List Hd), (∀ h ∈ l, inB h.key 0 7 = true) → (∀ k, k < 8 → (keyL l k).Nodup) → l.Nodup
  | [], _, _ => List.nodup_nil
  | h :: l, hk, hn => by
    have k0 := inB_iff.1 (hk h (List.mem_cons_self ..))
    have ek : h.key = ((h.key.toNat : Nat) : Int) := by omega
    have sub : ∀ k, (keyL l k).Sublist (keyL (h :: l) k) := fun k => by
      unfold keyL
      exact ((List.sublist_cons_self h l).filter _).map _
    refine List.nodup_cons.2 ⟨fun hm => ?_, keyL_nodup l (fun x hx => hk x (List.mem_cons_of_mem _ hx)) (fun k hk8 => (hn k hk8).sublist (sub k))⟩
    have e : keyL (h :: l) h.key.toNat = h.v :: keyL l h.key.toNat := by
      unfold keyL
      rw [List.filter_cons_of_pos (by simpa using ek), List.map_cons]
    have nd := hn h.key.toNat (by omega)
    rw [e] at nd
    refine (List.nodup_cons.1 nd).1 (mem_keyL.2 ?_)
    rw [← ek]
    exact hm
theorem sorted_nodup {L : List Ver} (h : Sorted L) : L.Nodup := by
  unfold Sorted at h
  exact h.imp (fun {a b} hab e => by rw [e, beforeV_irrefl] at hab; cases hab)
theorem PS.nodup {w : World} {b : Nat} {G : Nat → Prop} {S : SiteS} (h : PS w b G S) : S.l.Nodup := by
  obtain ⟨lv, bm, F, log, waits, hm, _⟩ := h
  obtain ⟨vs, Ls, hr, hh, _⟩ := hm.st
  exact keyL_nodup S.l hh.keys (fun k hk => (hh.perm k hk).nodup_iff.2 (sorted_nodup (hr.sorted k hk)))
theorem TI.fewer {base : Nat → V4} {Tg T : TaleS} {m : Nat} (h : TI base Tg T m) {w : World} {b : Nat} {G : Nat → Prop} (hP : PW w b G T.W) {k : Nat} (hk : k < T.W.n) : (T.W.S k).l.length ≤ (Tg.W.S k).l.length := by
  obtain ⟨M, Gs, hP, _⟩ := hP
  exact nodup_le _ _ (hP.site hk).nodup (h.sim.si k (by rw [← h.sim.n]; exact hk)).sw.sub
theorem pw_site8 {b : Nat} {G : Nat → Prop} {W : WoS} (w : World) (h : PW w b G W) (hw : WfW W) {i : Nat} (hi : i < W.n) :
    Calls Tryz.prog 14 #[.pointer (some ⟨b, 0, none⟩), .int .i64 i] w fun e w' => ∃ vb vc, e = .returned (.tuple #[.agg #[.int .i64 (W.S i).a0, .int .i64 (W.S i).a1, .int .i64 (W.S i).a2, .int .i64 (W.S i).a3], .int .i64 (W.S i).waits.length, .slice (some ⟨vb, 0, none⟩) 8 vc, .int .i64 (W.S i).l.length, .nilIface]) ∧ Hid ((∀ q : Nat, q < 8 → w'.cell? ⟨vb, q, none⟩ = some (.string (toldV (W.S i).a0 (W.S i).a1 (W.S i).a2 (W.S i).a3 (W.S i).l (q : Int)))) ∧ 8 ≤ vc ∧ Below w.heap.size w w') := by
  refine (pw_site w h hw hi).mono fun e w' ⟨v, he, hown, hb⟩ => ?_
  rcases hown.2 with ⟨_, h0⟩ | ⟨g, cap, cur, rfl, _, _, hnc, _⟩
  · cases h0
  · refine ⟨g, cap, he, fun q hq => ?_, hnc, hb⟩
    have hc := hown.cells (g := g) rfl q (.string (toldV (W.S i).a0 (W.S i).a1 (W.S i).a2 (W.S i).a3 (W.S i).l (q : Int))) (by
      unfold toldC
      rw [List.getElem?_map, List.getElem?_range hq]
      rfl)
    rw [addr_add] at hc
    exact hc
theorem tellE_any (n : Int) (w : World) (hg : w.cell? ⟨0, 0, none⟩ = some (.iface 209 (.agg #[.pointer (some ⟨1, 25, none⟩)]))) : Calls Tryz.prog 26 #[errV n] w fun e w' => e = .returned (.int .i64 n) ∧ Below w.heap.size w w' := by
  by_cases h : n = 0
  · subst h
    exact (tell_nil w).mono fun e w' ⟨h1, h2⟩ => ⟨h1, by rw [h2]; exact Below.refl _ _⟩
  · rw [errV_no h]
    exact tell_errno n w hg

end Go.Proofs.YtemiamjnhoeniaaGreatDoor


namespace Go.Proofs.YtemiamjnhoeniaaGreatDoor
open Go.RowKit

set_option maxRecDepth 1000000 in
set_option maxHeartbeats 16000000 in
theorem doesNo_any {b : Nat} {G : Nat → Prop} {base : Nat → V4} {Tg T : TaleS} {m : Nat} (w : World) (h : TA w b G T) (hI : TI base Tg T m) (hm : m < 120) (ak an : Int) (ad : ByteArray) (ag sw : Bool) (hg : w.cell? ⟨0, 0, none⟩ = some (.iface 209 (.agg #[.pointer (some ⟨1, 25, none⟩)]))) (what : Int) (n0 : what ≠ 0) (n1 : what ≠ 1) (n2 : what ≠ 2) (n3 : what ≠ 3) (n4 : what ≠ 4) (n5 : what ≠ 5) (n6 : what ≠ 6) (n7 : what ≠ 7) (n8 : what ≠ 8) (n9 : what ≠ 9) (n10 : what ≠ 10) (n11 : what ≠ 11) (n12 : what ≠ 12) :
    Calls Tryz.prog 20 #[.pointer (some ⟨b, 0, none⟩), .agg #[.int .i64 what, .int .i64 ak, .int .i64 an, .string ad, .bool ag], .bool sw] w (DoesIs w b G T ⟨what, ak, an, ad, ag⟩ sw) := by
  have m0 : (what == 0) = false := by simp [n0]
  have m1 : (what == 1) = false := by simp [n1]
  have m2 : (what == 2) = false := by simp [n2]
  have m3 : (what == 3) = false := by simp [n3]
  have m4 : (what == 4) = false := by simp [n4]
  have m5 : (what == 5) = false := by simp [n5]
  have m6 : (what == 6) = false := by simp [n6]
  have m7 : (what == 7) = false := by simp [n7]
  have m8 : (what == 8) = false := by simp [n8]
  have m9 : (what == 9) = false := by simp [n9]
  have m10 : (what == 10) = false := by simp [n10]
  have m11 : (what == 11) = false := by simp [n11]
  have m12 : (what == 12) = false := by simp [n12]
  have HNO : Hid (what ≠ 0 ∧ what ≠ 1 ∧ what ≠ 2 ∧ what ≠ 3 ∧ what ≠ 4 ∧ what ≠ 5 ∧ what ≠ 6 ∧ what ≠ 7 ∧ what ≠ 8 ∧ what ≠ 9 ∧ what ≠ 10 ∧ what ≠ 11 ∧ what ≠ 12) := ⟨n0, n1, n2, n3, n4, n5, n6, n7, n8, n9, n10, n11, n12⟩
  clear n0 n1 n2 n3 n4 n5 n6 n7 n8 n9 n10 n11 n12
  have hne := Later.one
  obtain ⟨M, hT⟩ := h.start
  have RB := hT.box
  have hlb := RB.lt
  have hcn : T.W.c ≤ 6 := hI.wf.c6
  have hnn : T.W.n ≤ 4 := hI.wf.n4
  have hn1 : 1 ≤ T.W.n := hI.wf.n1
  have hc1 : 1 ≤ T.W.c := by rw [hI.sim.c]; exact hI.c1
  have hnet : T.W.net.length ≤ 300 := hI.wf.net
  have hkc := pickN_lt ak (n := T.W.c) hc1
  obtain ⟨kk, hkk⟩ : ∃ kk, pickN ak T.W.c = kk := ⟨_, rfl⟩
  have HKK : Hid (pickN ak T.W.c = kk ∧ kk < T.W.c ∧ kk < Tg.W.c) := ⟨hkk, by rw [← hkk]; exact hkc, by rw [← hI.sim.c, ← hkk]; exact hkc⟩
  have PK : Hid (∀ x : World, Calls Tryz.prog 64 #[.int .i64 ak, .int .i64 (T.W.c : Int)] x fun e w' => e = .returned (.int .i64 (kk : Int)) ∧ Below x.heap.size x w') := fun x => by
    have := pickN_any ak T.W.c hc1 (by omega) x
    rw [hkk] at this
    exact this.mono fun e w' ⟨h1, h2⟩ => ⟨h1, by rw [h2]; exact Below.refl _ _⟩
  have hb0 := boxed (Below.refl _ w) (.cells #[.int .i64 what, .int .i64 ak, .int .i64 an, .string ad, .bool ag] 74)
  have R0 : RowL (w.alloc (.cells #[.int .i64 what, .int .i64 ak, .int .i64 an, .string ad, .bool ag] 74)) w.heap.size [.int .i64 what, .int .i64 ak, .int .i64 an, .string ad, .bool ag] := RowL.new (w := w) (T := 74) [.int .i64 what, .int .i64 ak, .int .i64 an, .string ad, .bool ag] rfl
  have RB0 := RB.later hb0
  have t0 := Later.cell (RB0.cell 0 _ rfl)
  have t2 := Later.cell (RB0.cell 2 _ rfl)
  have a1 := Later.cell (R0.cell 1 _ rfl)
  have HI : Hid (TI base Tg T m ∧ m < 120 ∧ w.cell? ⟨0, 0, none⟩ = some (.iface 209 (.agg #[.pointer (some ⟨1, 25, none⟩)]))) := ⟨hI, hm, hg⟩
  have HN : Hid (T.W.c ≤ 6 ∧ T.W.n ≤ 4 ∧ 1 ≤ T.W.n ∧ 1 ≤ T.W.c ∧ T.W.net.length ≤ 300) := ⟨hcn, hnn, hn1, hc1, hnet⟩
  have HT : Hid (TaAt w G b M T NoY w) := hT
  have HR : Hid (RowL (w.alloc (.cells #[.int .i64 what, .int .i64 ak, .int .i64 an, .string ad, .bool ag] 74)) w.heap.size [.int .i64 what, .int .i64 ak, .int .i64 an, .string ad, .bool ag] ∧ Below w.heap.size w (w.alloc (.cells #[.int .i64 what, .int .i64 ak, .int .i64 an, .string ad, .bool ag] 74))) := ⟨R0, hb0⟩
  clear h hI hm hg hT RB RB0 R0 hb0 hcn hnn hn1 hc1 hnet hkc hkk
  go_enter Tryz.func20, Tryz.ntmps20
  go_wp2_with fail
  refine wp_region_later (by kernel_rfl) (by kernel_rfl) ?_
  repeat (go_big_quiet_step (first | rfl | (go_at_call 64; with_reducible exact calls_later (PK.out _))))
  refine wpQuiet_nil ?_
  rintro w2 ⟨⟨_, hb2⟩, rfl⟩
  have hb12 := behind HR.out.2 hb2
  have RA := HR.out.1.later hb2
  have H2 := HT.out.later hb12
  obtain ⟨Gw, PW2, _⟩ := H2.wo
  have MN := pw_many w2 PW2
  have HQ2 : Hid (RowL w2 w.heap.size [.int .i64 what, .int .i64 ak, .int .i64 an, .string ad, .bool ag] ∧ Below w.heap.size w w2 ∧ PW w2 M.wb Gw T.W ∧ TaAt w G b M T NoY w2) := ⟨RA, hb12, PW2, H2⟩
  have a2 := RA.cell 2 _ rfl
  clear t0 t2 a1 hb2 hb12 RA H2 PW2 HR PK
  go_wp2_with fail
  refine MN.mono ?_
  rintro e w3 ⟨rfl, hw3⟩
  have hw4 := hw3.symm
  clear hw3 MN
  subst hw4
  have CL := pw_client w2 HQ2.out.2.2.1 HKK.out.2.1
  obtain ⟨⟨p0, p1, p2, p3, opn, s0, s1, s2, s3, ws⟩, hses⟩ : ∃ s, T.W.ses kk = s := ⟨_, rfl⟩
  have HS : Hid (T.W.ses kk = ⟨p0, p1, p2, p3, opn, s0, s1, s2, s3, ws⟩) := hses
  rw [hses] at CL
  simp only at CL
  have HCL : Hid (Calls Tryz.prog 17 #[.pointer (some ⟨M.wb, 0, none⟩), .int .i64 (kk : Int)] w2 fun e w' => e = .returned (.tuple #[.int .i64 (T.W.at_ kk : Int), .agg #[.int .i64 p0, .int .i64 p1, .int .i64 p2, .int .i64 p3], .agg #[.int .i64 s0, .int .i64 s1, .int .i64 s2, .int .i64 s3], .bool opn, .nilIface]) ∧ Below w2.heap.size w2 w') := CL
  clear CL hses
  go_upto_if 47 with fail
  go_cut [9] from 47 to 51 (fun iv wc => iv = .int .i64 ((actI T ⟨what, ak, an, ad, ag⟩ : Nat) : Int) ∧ wc = w2)
  case first =>
    by_cases hl : 0 < (T.W.net.length : Int)
    · have PN := pickN_any an T.W.net.length (by omega) (by have := HN.out; omega) w2
      have ei : actI T ⟨what, ak, an, ad, ag⟩ = pickN an T.W.net.length := by unfold actI; rw [if_pos (by omega)]
      rw [← ei] at PN
      clear ei
      go_wp2_with fail
      refine PN.mono ?_
      rintro e w3 ⟨rfl, hw3⟩
      have hw4 := hw3.symm
      clear hw3 PN
      subst hw4
      go_wp2_with fail
      go_meet
      case rel => exact ⟨rfl, rfl⟩
    · have ei : actI T ⟨what, ak, an, ad, ag⟩ = 0 := by unfold actI; rw [if_neg (by omega)]
      have HEI : Hid (actI T ⟨what, ak, an, ad, ag⟩ = 0) := ei
      clear ei
      go_wp2_with fail
      go_meet
      case rel => exact ⟨by rw [HEI.out]; rfl, rfl⟩
  case rest =>
    obtain ⟨rfl, hwc⟩ := hcut
    have hwd := hwc.symm
    clear hwc
    subst hwd
    clear a2
    go_wp2_with fail
    refine HCL.out.mono ?_
    rintro e w3 ⟨rfl, hb3⟩
    have hb23 := behind HQ2.out.2.1 hb3
    have RA3 := HQ2.out.1.later hb3
    clear HCL
    obtain ⟨w4, hw4, hb4, RP, _, sz4⟩ := vecs2_is w3 p0 p1 p2 p3 s0 s1 s2 s3
    have hb24 := behind hb23 hb4
    have H4 : TaAt w G b M T (fun k => w.heap.size ≤ k ∧ k < w4.heap.size) w4 := (HT.out.more hb24).sub (fun k hk => .inr hk)
    have RA4 := RA3.later hb4
    have x0 := RA4.cell 0 _ rfl
    have HQ : Hid (TaAt w G b M T (fun k => w.heap.size ≤ k ∧ k < w4.heap.size) w4 ∧ RowL w4 w3.heap.size [.int .i64 p0, .int .i64 p1, .int .i64 p2, .int .i64 p3] ∧ RowL w4 w.heap.size [.int .i64 what, .int .i64 ak, .int .i64 an, .string ad, .bool ag] ∧ (w.heap.size ≤ w3.heap.size ∧ w3.heap.size < w4.heap.size) ∧ Below w.heap.size w w4) := ⟨H4, RP, RA4, ⟨hb23.size, RP.lt⟩, hb24⟩
    clear HQ2 hb3 hb23 RA3 hb4 RP sz4 hb24 H4 RA4
    go_upto_block 0 with fail
    clear x0 hw4
    go_cut [6, 9] from 65 to 266 (fun _ _ wc => DoneTo w G b M T ⟨what, ak, an, ad, ag⟩ sw w4 wc)
    case rest =>
      clear HT HN
      obtain ⟨M', T', HD', H5, hwb, K5⟩ := hcut.out
      have HD : Hid (DoesTo T ⟨what, ak, an, ad, ag⟩ sw T') := HD'
      have HT5 : Hid (TaAt w G b M' T' (fun k => w.heap.size ≤ k ∧ k < w4.heap.size) wc) := H5
      have RP5 := HQ.out.2.1.keeps K5 ⟨HQ.out.2.2.2.1.1, HQ.out.2.2.2.1.2⟩
      obtain ⟨Gz, PZ, _⟩ := H5.wo
      rw [hwb] at PZ
      have hkz : kk < T'.W.c := by rw [HD.out.many.2]; exact HKK.out.2.1
      have CZ := pw_client wc PZ hkz
      obtain ⟨⟨z0, z1, z2, z3, zo, y0, y1, y2, y3, zws⟩, hzs⟩ : ∃ s, T'.W.ses kk = s := ⟨_, rfl⟩
      rw [hzs] at CZ
      simp only at CZ
      have HCV : Hid (covB z0 z1 z2 z3 p0 p1 p2 p3 = true) := by
        have := (HD.out.past kk).cov
        rw [hzs, HS.out] at this
        exact this
      clear hzs H5 K5 PZ hkz HD' hcut hwb
      go_wp2_with fail
      refine CZ.mono ?_
      rintro e w6 ⟨rfl, hb6⟩
      have RP6 := RP5.later hb6
      have r0 := RP6.cell 0 _ rfl
      have r1 := RP6.cell 1 _ rfl
      have r2 := RP6.cell 2 _ rfl
      have r3 := RP6.cell 3 _ rfl
      have hr6 := RP6.lt
      clear CZ RP5
      go_wp2_with fail
      refine (covers_is HCV.out _).mono ?_
      rintro e w8 ⟨rfl, hb8⟩
      have hb68 := behind (behind hb6 (boxed (boxed (Below.refl _ w6) (.cells #[.int .i64 z0, .int .i64 z1, .int .i64 z2, .int .i64 z3] 47)) (.cells #[.int .i64 y0, .int .i64 y1, .int .i64 y2, .int .i64 y3] 47))) hb8
      clear r0 r1 r2 r3 hr6 RP6
      go_wp2_with fail
      go_ret
      exact ⟨rfl, T', HD.out, (HT5.out.later hb68).done⟩
    case first =>
      have H5 := HQ.out.1
      have K5 := Keeps.refl (fun k => w.heap.size ≤ k ∧ k < w4.heap.size) w4
      have FIN : DoneTo w G b M T ⟨what, ak, an, ad, ag⟩ sw w4 w4 := ⟨_, T, by
        have e : (T) = T := by rfl
        have HX := HNO.out
        show DoesTo T ⟨what, ak, an, ad, ag⟩ sw T
        unfold DoesTo
        simp only [HX, if_false], H5, rfl, K5⟩
      clear H5 K5
      go_wp2_with fail
      go_meet
      case rel => exact FIN

end Go.Proofs.YtemiamjnhoeniaaGreatDoor

