import Derived.Test.YtoanjdndmlffdaaGreatDoorWoF
import Derived.Deep.LoopGhost
namespace Go.Proofs.YtoanjdndmlffdaaGreatDoor
open Go.RowKit
section
section
variable {w w1 w2 : World} {b g cap i : Nat} {M : WoM} {W : WoS} {Gs : Nat → Nat → Prop}
theorem PWo.dropped (h : PWo w b M W Gs) (hb : Below w.heap.size w w1) (hnv : M.nv = .slice (some ⟨g, 0, none⟩) M.l.length cap) (hi : i < M.l.length)
    (own : w2.ownsRow 0 205 2 (.slice (some ⟨g, 0, none⟩) (M.l.length - 1) cap) (M.l.length - 1) (netC (M.l.eraseIdx i))) (on : Only g w1 w2) :
    PWo (w2.setCell ⟨b, 2, none⟩ (.slice (some ⟨g, 0, none⟩) (M.l.length - 1) cap)) b { M with nv := .slice (some ⟨g, 0, none⟩) (M.l.length - 1) cap, l := M.l.eraseIdx i } (dropW' W i) Gs ∧ Touch (fun k => k = b ∨ M.nv.ownBlock = some k) w (w2.setCell ⟨b, 2, none⟩ (.slice (some ⟨g, 0, none⟩) (M.l.length - 1) cap)) := by
  have s1 := hb.size
  have s2 := on.size
  have gn : M.nv.ownBlock = some g := by rw [hnv]; rfl
  have gb : (Value.slice (some ⟨g, 0, none⟩) (M.l.length - 1) cap).ownBlock = some g := rfl
  have hgb : g ≠ b := fun q => h.sb.2.2 (by rw [gn, q])
  have hlt := h.box.lt
  have k2 : ∀ k, k < w.heap.size → k ≠ g → w2.heap[k]? = w.heap[k]? := fun k hk hn => (on.block k (by omega) (fun e => by injection e with e; exact hn e)).trans (hb.block k hk)
  have sS : (w2.setCell ⟨b, 2, none⟩ (.slice (some ⟨g, 0, none⟩) (M.l.length - 1) cap)).heap.size = w2.heap.size := by simp [World.setCell]
  have kS : ∀ k, k < w.heap.size → k ≠ g → k ≠ b → (w2.setCell ⟨b, 2, none⟩ (.slice (some ⟨g, 0, none⟩) (M.l.length - 1) cap)).heap[k]? = w.heap[k]? := fun k hk hn hkb => (Below.heap_setCell _ _ _ _ (fun e => hkb e)).trans (k2 k hk hn)
  have ne : ∀ k, M.nv.ownBlock ≠ some k → k ≠ g := fun k hk e => hk (by rw [gn, e])
  refine ⟨⟨?_, ?_, ?_, ?_, ?_, fun x hx => ?_, ?_, ⟨h.sb.1, h.sb.2.1, fun e => hgb (by rw [gb] at e; injection e)⟩, fun k => ⟨fun e => ⟨((h.sr k).1 e).1, fun e2 => ((h.sr k).1 e).2 (by rw [gn]; rw [gb] at e2; exact e2)⟩, fun e e2 => (h.sr k).2 e (by rw [gn]; rw [gb] at e2; exact e2)⟩, fun x hx => ?_⟩, ?_⟩
  · have B2 : RowL w2 b _ := (h.box.later hb).kept (on.block b (by omega) (fun e => by injection e with e; exact hgb e.symm)) s2
    exact B2.set 2 _ (by simp)
  · exact own_keptN h.pr (fun k e => kS k (h.pr.lt k e).2 (ne k ((h.sr k).1 e).2) (fun q => h.sb.1 (by rw [e, q])))
  · exact own_keptN h.cr (fun k e => kS k (h.cr.lt k e).2 (ne k ((h.sr k).2 e)) (fun q => h.sb.2.1 (by rw [e, q])))
  · show World.ownsRow _ 0 _ 2 _ (M.l.eraseIdx i).length (netC (M.l.eraseIdx i))
    rw [List.length_eraseIdx, if_pos hi]
    exact own_keptN own (fun k e => Below.heap_setCell _ _ _ _ (fun q => hgb (by rw [gb] at e; injection e with e; exact e.trans q)))
  · show (M.l.eraseIdx i).map (·.g) = W.net.eraseIdx i
    rw [← h.nl, List.eraseIdx_eq_take_drop_succ, List.eraseIdx_eq_take_drop_succ]
    simp
  · have q := List.mem_of_mem_eraseIdx hx
    have s := h.sg x q
    exact (h.gr x q).kept (kS _ (h.gr x q).own.lt (ne _ s.2.2.2) s.1) (by rw [sS]; omega)
  · have f := h.fam.to (X' := footW b M) (w' := w2.setCell ⟨b, 2, none⟩ (.slice (some ⟨g, 0, none⟩) (M.l.length - 1) cap)) (fun j k hj e => kS k (h.ltG hj e) (fun q => (h.fam.free k (.inr (.inr (.inr (.inl (by rw [gn, q])))))).2 j hj e) (fun q => (h.fam.free k (.inl q)).2 j hj e)) (by rw [sS]; omega) (fun k hk => ⟨.inl hk, by rw [sS]; have := h.ltF k hk; omega⟩)
    refine ⟨f.is, f.apart, fun k hk => ?_, f.half⟩
    rcases hk with e | e | e | e | ⟨x, hx, e⟩
    · exact f.free k (.inl e)
    · exact f.free k (.inr (.inl e))
    · exact f.free k (.inr (.inr (.inl e)))
    · exact f.free k (.inr (.inr (.inr (.inl (by rw [gn]; rw [gb] at e; exact e)))))
    · exact f.free k (.inr (.inr (.inr (.inr ⟨x, List.mem_of_mem_eraseIdx hx, e⟩))))
  · have s := h.sg x (List.mem_of_mem_eraseIdx hx)
    exact ⟨s.1, s.2.1, s.2.2.1, fun e => s.2.2.2 (by rw [gn]; rw [gb] at e; exact e)⟩
  · refine ((Touch.ofBelow hb).trans (Touch.grown on (fun k e => .inr (by rw [gn]; exact e)))).trans (Touch.setCell _ _ _ (.inl rfl))
theorem PWo.under (h : PWo w b M W Gs) {gr : GrS} (hi : W.net[i]? = some gr) : ∃ m nb nc, M.l[i]? = some m ∧ m.g = gr ∧ M.nv = .slice (some ⟨nb, 0, none⟩) M.l.length nc ∧ M.l.length = W.net.length ∧ w.cell? ⟨b, 2, none⟩ = some (.slice (some ⟨nb, 0, none⟩) M.l.length nc) ∧ M.l.length ≤ nc ∧ nb < w.heap.size ∧ w.cell? ⟨nb, i * 2, none⟩ = some (.int .i64 m.g.to) ∧ w.cell? ⟨nb, i * 2 + 1, none⟩ = some (.slice (some ⟨m.blk, 0, none⟩) m.S.size m.cap) := by
  have hlen : M.l.length = W.net.length := by rw [← h.nl]; simp
  have hil : i < M.l.length := by have := (List.getElem?_eq_some_iff.1 hi).1; omega
  obtain ⟨m, hm⟩ : ∃ m, M.l[i]? = some m := ⟨_, List.getElem?_eq_getElem hil⟩
  have hmg : m.g = gr := by
    have := hi
    rw [← h.nl, List.getElem?_map, hm] at this
    exact Option.some.inj this
  obtain ⟨na, nc, hnv, r⟩ := rowIn_own h.nr
  rcases r.held with h0 | ⟨nb, rfl, hnb, hc⟩
  · omega
  · have c2 := h.box.cell 2 _ rfl
    rw [hnv] at c2
    exact ⟨m, nb, nc, hm, hmg, hnv, hlen, c2, r.len, hnb, hc _ _ (net_at hm).1, hc _ _ (net_at hm).2⟩
end
set_option maxRecDepth 100000 in
set_option maxHeartbeats 4000000 in
theorem pw_lose {b : Nat} {G : Nat → Prop} {W : WoS} (w : World) (h : PW w b G W) (hn : W.net.length ≤ 300) {i : Nat} {g : GrS} (hi : W.net[i]? = some g) :
    Calls Tryz.prog 109 #[.pointer (some ⟨b, 0, none⟩), .int .i64 i] w fun e w' => e = .returned (errV 0) ∧ PWPo w b G (dropW' W i) w' := by
  obtain ⟨M, Gs, h, hG⟩ := h
  obtain ⟨m, nb, nc, hm, hmg, hnv, hlen, c2, hnc, hnb, x0, x1⟩ := h.under hi
  have hil : i < M.l.length := (List.getElem?_eq_some_iff.1 hm).1
  have IU := isUnder_is (k := i) (v := true) w c2 (by simp; omega)
  have DL := del_any w (by have := h.nr; rw [hnv] at this; exact this) hil (by omega)
  have HH : Hid (PWo w b M W Gs ∧ (∀ k, G k ↔ allG b M (W.n + W.c) Gs k) ∧ M.nv = .slice (some ⟨nb, 0, none⟩) M.l.length nc ∧ i < M.l.length) := ⟨h, hG, hnv, hil⟩
  have q1 : (i : Int) < (M.l.length : Int) := by omega
  have q2 : (i : Int) < 300 := by omega
  have hlt := h.box.lt
  clear h hG hnv hm hmg hi hn hlen hil
  go_enter Tryz.func109, Tryz.ntmps109
  go_wp2_with fail
  refine IU.mono ?_
  rintro e w2 ⟨rfl, hw2⟩
  have hw3 := hw2.symm
  clear hw2 IU
  subst hw3
  go_wp2_with fail
  refine DL.mono ?_
  rintro e w3 ⟨rfl, own3, on3⟩
  obtain ⟨D1, D2⟩ := HH.out.1.dropped (Below.refl _ w) HH.out.2.2.1 HH.out.2.2.2 own3 on3
  have HD : Hid (PWo (w3.setCell ⟨b, 2, none⟩ (.slice (some ⟨nb, 0, none⟩) (M.l.length - 1) nc)) b { M with nv := .slice (some ⟨nb, 0, none⟩) (M.l.length - 1) nc, l := M.l.eraseIdx i } (dropW' W i) Gs ∧ Touch (fun k => k = b ∨ M.nv.ownBlock = some k) w (w3.setCell ⟨b, 2, none⟩ (.slice (some ⟨nb, 0, none⟩) (M.l.length - 1) nc))) := ⟨D1, D2⟩
  have B3 : RowL w3 b _ := HH.out.1.box.kept (on3.block b hlt (fun e => by injection e with e; exact HH.out.1.sb.2.2 (by rw [HH.out.2.2.1, e]; rfl))) on3.size
  have e2 := B3.cell 2 _ rfl
  have f2 := B3.free 2 (by simp)
  clear DL own3 on3 D1 D2 B3
  go_wp2_with fail
  go_ret
  refine ⟨rfl, _, ⟨_, Gs, HD.out.1, fun _ => Iff.rfl⟩, fun k hk => .inl ((HH.out.2.1 k).2 ?_), ?_⟩
  · rcases hk with (q | q | q | q | ⟨x, hx, q⟩) | q
    · exact .inl (.inl q)
    · exact .inl (.inr (.inl q))
    · exact .inl (.inr (.inr (.inl q)))
    · exact .inl (.inr (.inr (.inr (.inl (by rw [HH.out.2.2.1]; exact q)))))
    · exact .inl (.inr (.inr (.inr (.inr ⟨x, List.mem_of_mem_eraseIdx hx, q⟩))))
    · exact .inr q
  · exact ⟨HD.out.2.os, HD.out.2.tape, HD.out.2.output, HD.out.2.size, fun k hk hn => HD.out.2.block k hk (fun e => hn ((HH.out.2.1 k).2 (.inl (e.elim .inl (fun q => .inr (.inr (.inr (.inl q))))))))⟩
end
section
set_option maxRecDepth 100000 in
set_option maxHeartbeats 4000000 in
theorem pw_deliver {b : Nat} {G : Nat → Prop} {W : WoS} (w : World) (h : PW w b G W) (hw : WfW W) {i : Nat} {g : GrS} (hi : W.net[i]? = some g) :
    Calls Tryz.prog 104 #[.pointer (some ⟨b, 0, none⟩), .int .i64 i] w fun e w' => e = .returned (errV 0) ∧ ∃ W', Hid (DeliverTo W i W') ∧ PWPo w b G W' w' := by
  obtain ⟨M, Gs, h, hG⟩ := h
  obtain ⟨m, nb, nc, hm, hmg, hnv, hlen, c2, hnc, hnb, x0, x1⟩ := h.under hi
  subst hmg
  have hn := hw.net
  have hil : i < M.l.length := (List.getElem?_eq_some_iff.1 hm).1
  have hml := List.mem_of_getElem? hm
  have IU := isUnder_is (k := i) (v := true) w c2 (by simp; omega)
  have hb1 := boxed (Below.refl _ w) (.cells #[.int .i64 m.g.to, .slice (some ⟨m.blk, 0, none⟩) m.S.size m.cap] 205)
  have DL := del_any (w.alloc (.cells #[.int .i64 m.g.to, .slice (some ⟨m.blk, 0, none⟩) m.S.size m.cap] 205)) (by have := own_keptN h.nr (fun k e => hb1.block k (h.nr.lt k e).2); rw [hnv] at this; exact this) hil (by omega)
  have RD := RowL.new (w := w) (T := 205) [.int .i64 m.g.to, .slice (some ⟨m.blk, 0, none⟩) m.S.size m.cap] rfl
  change RowL (w.alloc (.cells #[.int .i64 m.g.to, .slice (some ⟨m.blk, 0, none⟩) m.S.size m.cap] 205)) w.heap.size [.int .i64 m.g.to, .slice (some ⟨m.blk, 0, none⟩) m.S.size m.cap] at RD
  have HH : Hid (PWo w b M W Gs ∧ (∀ k, G k ↔ allG b M (W.n + W.c) Gs k) ∧ M.nv = .slice (some ⟨nb, 0, none⟩) M.l.length nc ∧ i < M.l.length ∧ WfW W ∧ m ∈ M.l ∧ W.net[i]? = some m.g ∧ RowL (w.alloc (.cells #[.int .i64 m.g.to, .slice (some ⟨m.blk, 0, none⟩) m.S.size m.cap] 205)) w.heap.size [.int .i64 m.g.to, .slice (some ⟨m.blk, 0, none⟩) m.S.size m.cap]) := ⟨h, hG, hnv, hil, hw, hml, hi, RD⟩
  have q1 : (i : Int) < (M.l.length : Int) := by omega
  have q2 : (i : Int) < 300 := by omega
  have hlt := h.box.lt
  clear h hG hnv hm hi hn hlen hil hw hml RD
  go_enter Tryz.func104, Tryz.ntmps104
  go_wp2_with fail
  refine IU.mono ?_
  rintro e w2 ⟨rfl, hw2⟩
  have hw3 := hw2.symm
  clear hw2 IU
  subst hw3
  go_wp2_with fail
  refine DL.mono ?_
  rintro e w3 ⟨rfl, own3, on3⟩
  obtain ⟨D1, D2⟩ := HH.out.1.dropped hb1 HH.out.2.2.1 HH.out.2.2.2.1 own3 on3
  have nne : nb ≠ b := fun e => HH.out.1.sb.2.2 (by rw [HH.out.2.2.1, ← e]; rfl)
  have nlt : nb < w.heap.size := hnb
  have s3 : w.heap.size + 1 ≤ w3.heap.size := by have := on3.size; simpa using this
  have B3 : RowL w3 b _ := (HH.out.1.box.later hb1).kept (on3.block b (by simp; omega) (fun e => by injection e with e; exact nne e.symm)) on3.size
  have R3 : RowL w3 w.heap.size _ := HH.out.2.2.2.2.2.2.2.kept (on3.block w.heap.size (by simp) (fun e => by injection e with e; omega)) on3.size
  have e2 := B3.cell 2 _ rfl
  have f2 := B3.free 2 (by simp)
  have R4 := R3.far ⟨b, 2, none⟩ (.slice (some ⟨nb, 0, none⟩) (M.l.length - 1) nc) (by show b ≠ w.heap.size; omega)
  have r0 := R4.cell 0 _ rfl
  have r1 := R4.cell 1 _ rfl
  have sg := HH.out.1.sg m HH.out.2.2.2.2.2.1
  have ok0 := HH.out.1.gr m HH.out.2.2.2.2.2.1
  have OK4 : m.Ok (w3.setCell ⟨b, 2, none⟩ (.slice (some ⟨nb, 0, none⟩) (M.l.length - 1) nc)) := ok0.kept (D2.block m.blk ok0.own.lt (fun e => e.elim sg.1 sg.2.2.2)) D2.size
  have CM := pw_come m _ ⟨_, Gs, D1, fun _ => Iff.rfl⟩ (HH.out.2.2.2.2.1.drop i) OK4 (HH.out.2.2.2.2.1.to m.g (List.mem_of_getElem? HH.out.2.2.2.2.2.2.1))
  have HT : Hid (Touch (fun k => k = b ∨ M.nv.ownBlock = some k) w (w3.setCell ⟨b, 2, none⟩ (.slice (some ⟨nb, 0, none⟩) (M.l.length - 1) nc))) := D2
  clear DL own3 on3 D1 D2 B3 R3 R4 sg ok0 OK4
  go_wp2_with fail
  refine CM.mono ?_
  rintro e w5 ⟨rfl, W', hC, G5, k1, k2, kt⟩
  go_wp2_with fail
  go_ret
  have inG : ∀ q, allG b { M with nv := .slice (some ⟨nb, 0, none⟩) (M.l.length - 1) nc, l := M.l.eraseIdx i } ((dropW' W i).n + (dropW' W i).c) Gs q → G q := fun q hq => (HH.out.2.1 q).2 (by
    rcases hq with (q | q | q | q | ⟨x, hx, q⟩) | q
    · exact .inl (.inl q)
    · exact .inl (.inr (.inl q))
    · exact .inl (.inr (.inr (.inl q)))
    · exact .inl (.inr (.inr (.inr (.inl (by rw [HH.out.2.2.1]; exact q)))))
    · exact .inl (.inr (.inr (.inr (.inr ⟨x, List.mem_of_mem_eraseIdx hx, q⟩))))
    · exact .inr q)
  have ts := HT.out.size
  refine ⟨rfl, W', ⟨m.g, HH.out.2.2.2.2.2.2.1, hC.out⟩, G5, k1, fun q hq => ?_, ⟨kt.os.trans HT.out.os, kt.tape.trans HT.out.tape, kt.output.trans HT.out.output, Nat.le_trans ts kt.size, fun q hq hn => ?_⟩⟩
  · rcases k2 q hq with r | r
    · exact .inl (inG q r)
    · exact .inr (by omega)
  · exact (kt.block q (by omega) (fun r => hn (inG q r))).trans (HT.out.block q hq (fun e => hn ((HH.out.2.1 q).2 (.inl (e.elim .inl (fun r => .inr (.inr (.inr (.inl r)))))))))
set_option maxRecDepth 100000 in
set_option maxHeartbeats 4000000 in
theorem pw_bring {b : Nat} {G : Nat → Prop} {W : WoS} (w : World) (h : PW w b G W) (hw : WfW W) :
    Calls Tryz.prog 146 #[.pointer (some ⟨b, 0, none⟩)] w fun e w' => e = .returned (.tuple #[]) ∧ ∃ W', Hid (BringTo W W' ∧ WfW W') ∧ PWPo w b G W' w' := by
  have HH : Hid (PW w b G W ∧ WfW W) := ⟨h, hw⟩
  clear h hw
  go_enter Tryz.func146, Tryz.ntmps146
  go_wp2_with fail
  go_loopg [2] (netW W.net) (fun k _ wr => ∃ W1 : WoS, netW W1.net ≤ k ∧ Hid (WfW W1 ∧ PWPo w b G W1 wr ∧ ∀ W', BringTo W1 W' → BringTo W W'))
  case atStart => exact ⟨W, Nat.le_refl _, HH.out.2, PWPo.same HH.out.1 (Below.refl _ _), fun _ h => h⟩
  case round =>
    obtain ⟨W1, hk, HS⟩ := hrel
    obtain ⟨G1, P1⟩ := HS.out.2.1.get
    obtain ⟨M, Gs, P1, hG1⟩ := P1
    have hlen : M.l.length = W1.net.length := by rw [← P1.nl]; simp
    obtain ⟨na, nc, hnv, r⟩ := rowIn_own P1.nr
    have c2 := P1.box.cell 2 _ rfl
    rw [hnv] at c2
    have hrc := r.cap
    have hrl := r.len
    clear r hnv P1 hG1
    by_cases h0 : W1.net = []
    · have q : ¬ 0 < (M.l.length : Int) := by rw [hlen, h0]; simp
      go_wp2_with fail
      go_end0
      exact ⟨rfl, W1, ⟨HS.out.2.2 W1 (.none h0), HS.out.1⟩, HS.out.2.1⟩
    · obtain ⟨g, hg⟩ : ∃ g, W1.net[0]? = some g := by
        cases hn : W1.net with
        | nil => exact absurd hn h0
        | cons x r => exact ⟨x, rfl⟩
      have q : 0 < (M.l.length : Int) := by
        have : W1.net.length ≠ 0 := fun e => h0 (List.eq_nil_of_length_eq_zero e)
        omega
      have DV : Hid (Calls Tryz.prog 104 #[.pointer (some ⟨b, 0, none⟩), .int .i64 0] wr fun e w' => e = .returned (errV 0) ∧ ∃ W', Hid (DeliverTo W1 0 W') ∧ PWPo w b G W' w') := by
        obtain ⟨G1, P1, s1, t1⟩ := HS.out.2.1
        refine (pw_deliver (i := 0) wr P1 HS.out.1 hg).mono fun e w' ⟨he, W', hD, hP⟩ => ⟨he, W', hD, ?_⟩
        obtain ⟨G2, p1, p2, p3⟩ := hP
        have s := t1.size
        refine ⟨G2, p1, fun q hq => ?_, t1.more p3 s1⟩
        rcases p2 q hq with e | e
        · exact s1 q e
        · exact .inr (by omega)
      have HN : Hid (W1.net ≠ []) := h0
      clear hlen h0 hg
      go_wp2_with fail
      refine DV.out.mono ?_
      rintro e w3 ⟨rfl, W2, hD, hP⟩
      rw [show errV 0 = .nilIface from rfl]
      have wt := deliver_weight HS.out.1 hD.out
      go_wp2_with fail
      go_roundg (netW W2.net)
      case measure => omega
      case rel => exact ⟨W2, Nat.le_refl _, HS.out.1.deliver hD.out, hP, fun W' hB => HS.out.2.2 W' (.step HN.out hD.out hB)⟩
end
section
/-- what neither a delivery nor an ask changes -/
structure KeepW (W W' : WoS) : Prop where
  n : W'.n = W.n
  c : W'.c = W.c
  wall : W'.wall = W.wall
  ses : W'.ses = W.ses
  at_ : W'.at_ = W.at_
theorem KeepW.refl (W : WoS) : KeepW W W := ⟨rfl, rfl, rfl, rfl, rfl⟩
theorem KeepW.trans {A B C : WoS} (h : KeepW A B) (k : KeepW B C) : KeepW A C := ⟨k.n.trans h.n, k.c.trans h.c, k.wall.trans h.wall, k.ses.trans h.ses, k.at_.trans h.at_⟩
theorem SameW.keep {W W' : WoS} (h : SameW W W') : KeepW W W' := ⟨h.n, h.c, h.wall, h.ses, h.at_⟩
theorem ComeTo.keep {W W' : WoS} {g : GrS} (h : ComeTo W g W') : KeepW W W' := by
  obtain ⟨to, body⟩ := g
  cases body with
  | tx t =>
    obtain ⟨S', _, rfl⟩ := h
    exact ⟨rfl, rfl, rfl, rfl, rfl⟩
  | ask site v0 v1 v2 v3 =>
    have hc : if 0 ≤ site ∧ site < (W.n : Int) then W' = answerW W to site.toNat v0 v1 v2 v3 else W' = W := h
    split at hc
    · rw [hc]
      have s := sendsW_same site.toNat (missP (W.S to) v0 v1 v2 v3) (setSite W to (knowsS (W.S to) site.toNat v0 v1 v2 v3))
      exact ⟨s.n, s.c, s.wall, s.ses, s.at_⟩
    · rw [hc]
      exact KeepW.refl W
theorem DeliverTo.keep {W W' : WoS} {i : Nat} (h : DeliverTo W i W') : KeepW W W' := by
  obtain ⟨g, _, h⟩ := h
  have k := h.keep
  exact ⟨k.n, k.c, k.wall, k.ses, k.at_⟩
theorem BringTo.keep {W W' : WoS} (h : BringTo W W') : KeepW W W' := by
  induction h with
  | none _ => exact KeepW.refl _
  | step _ h _ ih => exact h.keep.trans ih
theorem AsksTo.keep {k m : Nat} {W W' : WoS} (h : AsksTo k m W W') : KeepW W W' := by
  induction h with
  | zero => exact KeepW.refl _
  | self _ _ ih => exact ih
  | ask _ _ h ih => exact (ih.trans (sendW_same _ _).keep).trans h.keep
theorem RoundTo.keep {m : Nat} {W W' : WoS} (h : RoundTo m W W') : KeepW W W' := by
  induction h with
  | zero => exact KeepW.refl _
  | next _ h ih => exact ih.trans h.keep
theorem CalmTo.keep {W W' : WoS} (h : CalmTo W W') : KeepW W W' := by
  obtain ⟨W1, h1, h2⟩ := h
  exact h1.keep.trans h2.keep
theorem PW.len0 {w : World} {b : Nat} {G : Nat → Prop} {W : WoS} (h : PW w b G W) : ∃ a cap, w.cell? ⟨b, 0, none⟩ = some (.slice a W.n cap) := by
  obtain ⟨M, Gs, h, _⟩ := h
  obtain ⟨pa, pc, hpv, r⟩ := rowIn_own h.pr
  have c := h.box.cell 0 _ rfl
  rw [hpv] at c
  exact ⟨pa, pc, c⟩
set_option maxRecDepth 100000 in
set_option maxHeartbeats 4000000 in
theorem pw_calm {b : Nat} {G : Nat → Prop} {W : WoS} (w : World) (h : PW w b G W) (hw : WfW W) :
    Calls Tryz.prog 100 #[.pointer (some ⟨b, 0, none⟩)] w fun e w' => e = .returned (.tuple #[]) ∧ ∃ W', Hid (CalmTo W W' ∧ WfW W') ∧ PWPo w b G W' w' := by
  have BR := pw_bring w h hw
  have N4 : Hid (W.n ≤ 4) := hw.n4
  clear h hw
  go_enter Tryz.func100, Tryz.ntmps100
  go_wp2_with fail
  refine BR.mono ?_
  rintro e w1 ⟨rfl, W1, HB, hP⟩
  have HP : Hid (PWPo w b G W1 w1) := hP
  obtain ⟨G1, P1⟩ := HP.out.get
  obtain ⟨pa, pc, c0⟩ := P1.len0
  have hn : W1.n = W.n := HB.out.1.keep.n
  rw [hn] at c0
  have HN : Hid (W1.n = W.n) := hn
  clear BR hP hn P1
  go_wp2_with fail
  clear c0
  go_loopw [11] (fun iv wr => ∃ (k : Nat) (z : Int) (W2 : WoS), k ≤ W.n ∧ z = k ∧ iv = .int .i64 z ∧ Hid (WfW W2 ∧ W2.n = W.n ∧ RoundTo k W1 W2 ∧ PWPo w b G W2 wr)) (fun iv _ => W.n - (intOf iv).toNat)
  case atStart => exact ⟨0, 0, W1, by omega, rfl, rfl, HB.out.2, HN.out, .zero, HP.out⟩
  case round =>
    clear HP
    obtain ⟨k, z, W2, hk, hz, rfl, HS⟩ := hrel
    have HZ : Hid (z = k) := hz
    by_cases hlt : k < W.n
    · have g1 : z < (W.n : Int) := by omega
      have g3 : 0 ≤ z := by omega
      have g4 : z < 4 := by have := N4.out; omega
      obtain ⟨G2, P2⟩ := HS.out.2.2.2.get
      obtain ⟨pa2, pc2, c0⟩ := P2.len0
      rw [HS.out.2.1] at c0
      clear hz P2
      go_wp2_with fail
      clear c0
      go_loopw [19] (fun jv wr => ∃ (m : Nat) (y : Int) (W3 : WoS), m ≤ W.n ∧ y = m ∧ jv = .int .i64 y ∧ Hid (WfW W3 ∧ W3.n = W.n ∧ AsksTo k m W2 W3 ∧ PWPo w b G W3 wr)) (fun jv _ => W.n - (intOf jv).toNat)
      case atStart => exact ⟨0, 0, W2, by omega, rfl, rfl, HS.out.1, HS.out.2.1, .zero, HS.out.2.2.2⟩
      case round =>
        obtain ⟨m, y, W3, hm, hy, rfl, HT⟩ := hrel
        have HY : Hid (y = m) := hy
        by_cases hml : m < W.n
        · have f1 : y < (W.n : Int) := by omega
          have f3 : 0 ≤ y := by omega
          have f4 : y < 4 := by have := N4.out; omega
          by_cases hmk : m = k
          · have f5 : y = z := by have := HZ.out; omega
            clear hy
            go_wp2_with fail
            go_roundw
            case rel => exact ⟨m + 1, y + 1, W3, by omega, by have := HY.out; omega, by go_num, HT.out.1, HT.out.2.1, .self HT.out.2.2.1 hmk, HT.out.2.2.2⟩
            case measure => simp [intOf]; have := HY.out; omega
          · have f5 : ¬ y = z := by have := HZ.out; omega
            have AK : Hid (Calls Tryz.prog 96 #[.pointer (some ⟨b, 0, none⟩), .int .i64 z, .int .i64 y] wr fun e w' => e = .returned (errV 0) ∧ PWPo w b G (askW W3 k m) w') := by
              obtain ⟨G3, P3, s3, t3⟩ := HT.out.2.2.2
              have := pw_ask wr P3 HT.out.1 (i := k) (o := m) (by rw [HT.out.2.1]; exact hlt) (by rw [HT.out.2.1]; exact hml) (fun e => hmk e.symm)
              rw [← HZ.out, ← HY.out] at this
              refine this.mono fun e w' ⟨he, hP⟩ => ⟨he, ?_⟩
              obtain ⟨Gx, p1, p2, p3⟩ := hP
              have s := t3.size
              refine ⟨Gx, p1, fun q hq => ?_, t3.more p3 s3⟩
              rcases p2 q hq with e | e
              · exact s3 q e
              · exact .inr (by omega)
            have HM : Hid (m ≠ k ∧ k < W.n ∧ m < W.n) := ⟨hmk, hlt, hml⟩
            clear hy hmk
            go_wp2_with fail
            refine AK.out.mono ?_
            rintro e w4 ⟨rfl, hP4⟩
            rw [show errV 0 = .nilIface from rfl]
            have WA : WfW (askW W3 k m) := HT.out.1.send (by show m < W3.n; rw [HT.out.2.1]; exact HM.out.2.2)
            obtain ⟨G4, P4, s4, t4⟩ := hP4
            have BR2 : Hid (Calls Tryz.prog 146 #[.pointer (some ⟨b, 0, none⟩)] w4 fun e w' => e = .returned (.tuple #[]) ∧ ∃ W', Hid (BringTo (askW W3 k m) W' ∧ WfW W') ∧ PWPo w b G W' w') := (pw_bring w4 P4 WA).mono fun e w' ⟨he, W', hB, hP⟩ => ⟨he, W', hB, by
              obtain ⟨Gx, p1, p2, p3⟩ := hP
              have s := t4.size
              refine ⟨Gx, p1, fun q hq => ?_, t4.more p3 s4⟩
              rcases p2 q hq with e | e
              · exact s4 q e
              · exact .inr (by omega)⟩
            clear AK P4 s4 t4 WA
            go_wp2_with fail
            refine BR2.out.mono ?_
            rintro e w5 ⟨rfl, W5, HB5, hP5⟩
            go_wp2_with fail
            go_roundw
            case rel => exact ⟨m + 1, y + 1, W5, by omega, by have := HY.out; omega, by go_num, HB5.out.2, (HB5.out.1.keep.n.trans (sendW_same _ _).n).trans HT.out.2.1, .ask HT.out.2.2.1 HM.out.1 HB5.out.1, hP5⟩
            case measure => simp [intOf]; have := HY.out; omega
        · have f1 : ¬ y < (W.n : Int) := by omega
          have e : m = W.n := by omega
          clear hy
          go_wp2_with fail
          go_roundw
          case rel => exact ⟨k + 1, z + 1, W3, by omega, by have := HZ.out; omega, by go_num, HT.out.1, HT.out.2.1, .next HS.out.2.2.1 (by rw [HS.out.2.1, ← e]; exact HT.out.2.2.1), HT.out.2.2.2⟩
          case measure => simp [intOf]; have := HZ.out; omega
    · have g1 : ¬ z < (W.n : Int) := by omega
      have e : k = W.n := by omega
      clear hz
      go_wp2_with fail
      go_end0
      exact ⟨rfl, W2, ⟨⟨W1, HB.out.1, by rw [HN.out, ← e]; exact HS.out.2.2.1⟩, HS.out.1⟩, HS.out.2.2.2⟩
end
section
theorem pairsC_succ (bp : Nat → Nat) (x : Nat → Int) (n : Nat) : pairsC bp x (n + 1) = pairsC bp x n ++ pairC (bp n) (x n) := by
  unfold pairsC
  rw [List.range_succ, List.flatMap_append]
  simp
theorem pairsC_set (bp : Nat → Nat) (x : Nat → Int) (y : Int) {i : Nat} : ∀ n, i < n → (pairsC bp x n).set (i * 2 + 1) (.int .i64 y) = pairsC bp (setN x i y) n
  | 0, h => by omega
  | n + 1, h => by
    rw [pairsC_succ, pairsC_succ]
    have hl := pairsC_length bp x n
    by_cases q : i = n
    · subst q
      rw [List.set_append, if_neg (by rw [hl]; omega), hl, setN_same]
      have e : pairsC bp (setN x i y) i = pairsC bp x i := by
        unfold pairsC
        rw [List.flatMap_def, List.flatMap_def]
        congr 1
        refine List.map_congr_left (fun j hj => ?_)
        have := List.mem_range.1 hj
        rw [setN_ne _ _ (by omega)]
      rw [e, show i * 2 + 1 - i * 2 = 1 by omega]
      rfl
    · rw [List.set_append, if_pos (by rw [hl]; omega), pairsC_set bp x y n (by omega), setN_ne _ _ (fun e => q e.symm)]
section
variable {w : World} {b cb cc i : Nat} {M : WoM} {W : WoS} {Gs : Nat → Nat → Prop}
theorem PWo.setAt (h : PWo w b M W Gs) (hcv : M.cv = .slice (some ⟨cb, 0, none⟩) W.c cc) (hi : i < W.c) (to : Nat) : PWo (w.setCell ⟨cb, i * 2 + 1, none⟩ (.int .i64 to)) b M { W with at_ := setN W.at_ i to } Gs ∧ Touch (fun k => k = cb) w (w.setCell ⟨cb, i * 2 + 1, none⟩ (.int .i64 to)) := by
  have gn : M.cv.ownBlock = some cb := by rw [hcv]; rfl
  have kS : ∀ k, k ≠ cb → (w.setCell ⟨cb, i * 2 + 1, none⟩ (.int .i64 to)).heap[k]? = w.heap[k]? := fun k hk => Below.heap_setCell _ _ _ _ (fun e => hk e)
  have sS : (w.setCell ⟨cb, i * 2 + 1, none⟩ (.int .i64 to)).heap.size = w.heap.size := by simp [World.setCell]
  refine ⟨⟨h.box.kept (kS b (fun e => h.sb.2.1 (by rw [gn, e]))) (by rw [sS]; exact Nat.le_refl _), own_keptN h.pr (fun k e => kS k (fun q => ((h.sr k).1 e).1 (by rw [gn, q]))), ?_, own_keptN h.nr (fun k e => kS k (fun q => (h.sr k).2 (by rw [gn, q]) e)), h.nl, fun x hx => (h.gr x hx).kept (kS _ (fun q => (h.sg x hx).2.2.1 (by rw [gn, q]))) (by rw [sS]; exact Nat.le_refl _), h.fam.to (fun j k hj e => kS k (fun q => (h.fam.free k (.inr (.inr (.inl (by rw [gn, q]))))).2 j hj e)) (by rw [sS]; exact Nat.le_refl _) (fun k hk => ⟨.inl hk, by rw [sS]; exact h.ltF k hk⟩), h.sb, h.sr, h.sg⟩, Touch.setCell _ _ _ rfl⟩
  have o := h.cr
  rw [hcv] at o ⊢
  have s := (o.stored (i * 2 + 1) (.int .i64 to)).1
  rw [pairsC_set _ _ _ _ hi] at s
  have e : (fun k => ((setN W.at_ i to k : Nat) : Int)) = setN (fun k => (W.at_ k : Int)) i (to : Int) := by
    funext k
    unfold setN
    split <;> rfl
  show World.ownsRow _ 0 _ 2 _ W.c (pairsC M.bs (fun k => ((setN W.at_ i to k : Nat) : Int)) W.c)
  rw [e]
  exact s
theorem PWo.setWall (h : PWo w b M W Gs) (hpv : M.pv = .slice (some ⟨cb, 0, none⟩) W.n cc) (hi : i < W.n) (x : Int) : PWo (w.setCell ⟨cb, i * 2 + 1, none⟩ (.int .i64 x)) b M { W with wall := setN W.wall i x } Gs ∧ Touch (fun k => k = cb) w (w.setCell ⟨cb, i * 2 + 1, none⟩ (.int .i64 x)) := by
  have gn : M.pv.ownBlock = some cb := by rw [hpv]; rfl
  have kS : ∀ k, k ≠ cb → (w.setCell ⟨cb, i * 2 + 1, none⟩ (.int .i64 x)).heap[k]? = w.heap[k]? := fun k hk => Below.heap_setCell _ _ _ _ (fun e => hk e)
  have sS : (w.setCell ⟨cb, i * 2 + 1, none⟩ (.int .i64 x)).heap.size = w.heap.size := by simp [World.setCell]
  refine ⟨⟨h.box.kept (kS b (fun e => h.sb.1 (by rw [gn, e]))) (by rw [sS]; exact Nat.le_refl _), ?_, own_keptN h.cr (fun k e => kS k (fun q => ((h.sr cb).1 gn).1 (by rw [← q]; exact e))), own_keptN h.nr (fun k e => kS k (fun q => ((h.sr cb).1 gn).2 (by rw [← q]; exact e))), h.nl, fun x hx => (h.gr x hx).kept (kS _ (fun q => (h.sg x hx).2.1 (by rw [gn, q]))) (by rw [sS]; exact Nat.le_refl _), h.fam.to (fun j k hj e => kS k (fun q => (h.fam.free k (.inr (.inl (by rw [gn, q])))).2 j hj e)) (by rw [sS]; exact Nat.le_refl _) (fun k hk => ⟨.inl hk, by rw [sS]; exact h.ltF k hk⟩), h.sb, h.sr, h.sg⟩, Touch.setCell _ _ _ rfl⟩
  have o := h.pr
  rw [hpv] at o ⊢
  have s := (o.stored (i * 2 + 1) (.int .i64 x)).1
  rw [pairsC_set _ _ _ _ hi] at s
  exact s
end
def moveE (W : WoS) (i : Nat) : Int := if (W.ses i).opn = true then 6 else 0
def moveW (W : WoS) (i to : Nat) : WoS := if (W.ses i).opn = true then W else { W with at_ := setN W.at_ i to }
set_option maxRecDepth 100000 in
set_option maxHeartbeats 4000000 in
theorem pw_move {b : Nat} {G : Nat → Prop} {W : WoS} (w : World) (h : PW w b G W) {i to : Nat} (hi : i < W.c) (ht : to < W.n) :
    Calls Tryz.prog 112 #[.pointer (some ⟨b, 0, none⟩), .int .i64 i, .int .i64 to] w fun e w' => e = .returned (errV (moveE W i)) ∧ PWPo w b G (moveW W i to) w' := by
  obtain ⟨M, Gs, h, hG⟩ := h
  obtain ⟨ca, cc, hcv, r⟩ := rowIn_own h.cr
  obtain ⟨cb, rfl, hcb, hc⟩ : ∃ g, ca = some ⟨g, 0, none⟩ ∧ g < w.heap.size ∧ ∀ j u, (pairsC M.bs (fun k => (W.at_ k : Int)) W.c)[j]? = some u → w.cell? ⟨g, j, none⟩ = some u := by
    rcases r.held with h0 | h0
    · omega
    · exact h0
  have c1 := h.box.cell 1 _ rfl
  rw [hcv] at c1
  obtain ⟨pb, pc, c0, hpc, hpb, y0, y1⟩ := h.place ht
  have x0 := hc _ _ (pairs_at hi).1
  have x1 := hc _ _ (pairs_at hi).2
  have IC := isClient_is (k := i) (v := true) w c1 (by simp; omega)
  have IS := wIsSite_is (k := to) (v := true) w c0 (by simp; omega)
  have OP := popen_any w (h.sess hi)
  have hlt := h.box.lt
  have HH : Hid (PWo w b M W Gs ∧ (∀ k, G k ↔ allG b M (W.n + W.c) Gs k) ∧ M.cv = .slice (some ⟨cb, 0, none⟩) W.c cc ∧ i < W.c) := ⟨h, hG, hcv, hi⟩
  have q1 : (i : Int) < (W.c : Int) := by omega
  have hrl := r.len
  cases ho : (W.ses i).opn
  · have HE : Hid (errV (moveE W i) = .nilIface ∧ moveW W i to = { W with at_ := setN W.at_ i to }) := ⟨by unfold moveE; rw [ho]; rfl, by unfold moveW; rw [ho]; rfl⟩
    rw [ho] at OP
    clear h hG hc r hcv ho
    go_enter Tryz.func112, Tryz.ntmps112
    go_wp2_with fail
    refine IC.mono ?_
    rintro e w2 ⟨rfl, hw2⟩
    have hw3 := hw2.symm
    clear hw2 IC
    subst hw3
    go_wp2_with fail
    refine IS.mono ?_
    rintro e w2 ⟨rfl, hw2⟩
    have hw3 := hw2.symm
    clear hw2 IS
    subst hw3
    go_wp2_with fail
    refine OP.mono ?_
    rintro e w3 ⟨rfl, hb3⟩
    have H3 := HH.out.1.later hb3
    have o3 := H3.cr
    rw [HH.out.2.2.1] at o3
    have z1 := cell_later hb3 c1
    have z2 := cell_later hb3 x1
    have fz : w3.frozen? ⟨cb, i * 2 + 1, none⟩ = false := by
      rcases o3.2 with ⟨q, _⟩ | ⟨g2, cap2, cur, q, _, hg, _⟩
      · cases q
      · injection q with q1 q2 q3
        injection q1 with q1
        injection q1 with q1
        subst q1
        unfold World.frozen?
        rw [hg]
        simp
    obtain ⟨D1, D2⟩ := H3.setAt HH.out.2.2.1 HH.out.2.2.2 to
    have HD : Hid (PWo (w3.setCell ⟨cb, i * 2 + 1, none⟩ (.int .i64 to)) b M { W with at_ := setN W.at_ i to } Gs ∧ Touch (fun k => k = cb) w3 (w3.setCell ⟨cb, i * 2 + 1, none⟩ (.int .i64 to)) ∧ Below w.heap.size w w3) := ⟨D1, D2, hb3⟩
    clear OP H3 D1 D2 o3
    go_wp2_with fail
    go_ret
    refine ⟨by rw [HE.out.1]; rfl, ?_⟩
    rw [HE.out.2]
    have gn : M.cv.ownBlock = some cb := by rw [HH.out.2.2.1]; rfl
    have s3 := HD.out.2.2.size
    refine ⟨_, ⟨M, Gs, HD.out.1, fun _ => Iff.rfl⟩, fun k hk => .inl ((HH.out.2.1 k).2 hk), ?_⟩
    exact ⟨HD.out.2.1.os.trans HD.out.2.2.os, HD.out.2.1.tape.trans HD.out.2.2.tape, HD.out.2.1.output.trans HD.out.2.2.output, Nat.le_trans s3 HD.out.2.1.size, fun k hk hn => (HD.out.2.1.block k (by omega) (fun e => hn ((HH.out.2.1 k).2 (.inl (.inr (.inr (.inl (by rw [gn, e])))))))).trans (HD.out.2.2.block k hk)⟩
  · have HE : Hid (errV (moveE W i) = .iface 26 (.int .i64 6) ∧ moveW W i to = W) := ⟨by unfold moveE; rw [ho]; rfl, by unfold moveW; rw [ho]; rfl⟩
    rw [ho] at OP
    clear h hG hc r hcv ho
    go_enter Tryz.func112, Tryz.ntmps112
    go_wp2_with fail
    refine IC.mono ?_
    rintro e w2 ⟨rfl, hw2⟩
    have hw3 := hw2.symm
    clear hw2 IC
    subst hw3
    go_wp2_with fail
    refine IS.mono ?_
    rintro e w2 ⟨rfl, hw2⟩
    have hw3 := hw2.symm
    clear hw2 IS
    subst hw3
    go_wp2_with fail
    refine OP.mono ?_
    rintro e w3 ⟨rfl, hb3⟩
    go_wp2_with fail
    go_ret
    refine ⟨by rw [HE.out.1]; rfl, ?_⟩
    rw [HE.out.2]
    exact PWPo.same ⟨M, Gs, HH.out.1, HH.out.2.1⟩ hb3
end
section
def minT (x : Int) : Int := if x ≤ 1099511627776 then x else 1099511627776
def goesW (W : WoS) (i : Nat) (by_ : Int) : WoS := { W with wall := setN W.wall i (minT (W.wall i + by_)) }
set_option maxRecDepth 100000 in
set_option maxHeartbeats 4000000 in
theorem pw_goes {b : Nat} {G : Nat → Prop} {W : WoS} (w : World) (h : PW w b G W) {i : Nat} (hi : i < W.n) {y : Int} (hy0 : 0 ≤ y) (hy1 : y ≤ 1099511627776) (hl0 : 0 ≤ W.wall i) (hl1 : W.wall i ≤ 1099511627776) :
    Calls Tryz.prog 106 #[.pointer (some ⟨b, 0, none⟩), .int .i64 i, .int .i64 y] w fun e w' => e = .returned (errV 0) ∧ PWPo w b G (goesW W i y) w' := by
  obtain ⟨M, Gs, h, hG⟩ := h
  obtain ⟨pa, pc, hpv, r⟩ := rowIn_own h.pr
  obtain ⟨pb, rfl, hpb, hc⟩ : ∃ g, pa = some ⟨g, 0, none⟩ ∧ g < w.heap.size ∧ ∀ j u, (pairsC M.bp W.wall W.n)[j]? = some u → w.cell? ⟨g, j, none⟩ = some u := by
    rcases r.held with h0 | h0
    · omega
    · exact h0
  have c0 := h.box.cell 0 _ rfl
  rw [hpv] at c0
  have x1 := hc _ _ (pairs_at hi).2
  have IS := wIsSite_is (k := i) (v := true) w c0 (by simp; omega)
  have hlt := h.box.lt
  have HH : Hid (PWo w b M W Gs ∧ (∀ k, G k ↔ allG b M (W.n + W.c) Gs k) ∧ M.pv = .slice (some ⟨pb, 0, none⟩) W.n pc ∧ i < W.n) := ⟨h, hG, hpv, hi⟩
  have q1 : (i : Int) < (W.n : Int) := by omega
  have hrl := r.len
  have fz : w.frozen? ⟨pb, i * 2 + 1, none⟩ = false := by
    have o3 := h.pr
    rw [hpv] at o3
    rcases o3.2 with ⟨q, _⟩ | ⟨g2, cap2, cur, q, _, hg, _⟩
    · cases q
    · injection q with q1 q2 q3
      injection q1 with q1
      injection q1 with q1
      subst q1
      unfold World.frozen?
      rw [hg]
      simp
  obtain ⟨wl, hwl⟩ : ∃ wl, W.wall i = wl := ⟨_, rfl⟩
  rw [hwl] at x1 hl0 hl1
  have hwz : wrap64 (wl + y) = wl + y := by unfold wrap64; omega
  have HE : Hid (goesW W i y = { W with wall := setN W.wall i (minT (wl + y)) }) := by show _ = _; unfold goesW; rw [hwl]
  have HF : Hid (∀ w', w' = w.drew.setCell ⟨pb, i * 2 + 1, none⟩ (.int .i64 (minT (wl + y))) → PWPo w b G { W with wall := setN W.wall i (minT (wl + y)) } w') := fun w' e => by
    subst e
    obtain ⟨D1, D2⟩ := (HH.out.1.later (Below.refl _ w).drew).setWall HH.out.2.2.1 HH.out.2.2.2 (minT (wl + y))
    have gn : M.pv.ownBlock = some pb := by rw [HH.out.2.2.1]; rfl
    refine ⟨_, ⟨M, Gs, D1, fun _ => Iff.rfl⟩, fun k hk => .inl ((HH.out.2.1 k).2 hk), ?_⟩
    have t := (Touch.ofBelow (F := fun k => k = pb) (Below.refl _ w).drew).trans D2
    exact ⟨t.os, t.tape, t.output, t.size, fun k hk hn => t.block k hk (fun e => hn ((HH.out.2.1 k).2 (.inl (.inr (.inl (by rw [gn, e]))))))⟩
  clear h hG hc r hpv hwl
  by_cases hm : wl + y ≤ 1099511627776
  · have HM : Hid (minT (wl + y) = wl + y) := if_pos hm
    go_enter Tryz.func106, Tryz.ntmps106
    go_wp2_with fail
    refine IS.mono ?_
    rintro e w2 ⟨rfl, hw2⟩
    have hw3 := hw2.symm
    clear hw2 IS
    subst hw3
    go_wp2_with fail
    go_region
    all_goals
      go_wp2_with fail
      go_ret
      refine ⟨rfl, ?_⟩
      rw [HE.out]
      exact HF.out _ (by rw [HM.out]; rfl)
  · have HM : Hid (minT (wl + y) = 1099511627776) := if_neg hm
    go_enter Tryz.func106, Tryz.ntmps106
    go_wp2_with fail
    refine IS.mono ?_
    rintro e w2 ⟨rfl, hw2⟩
    have hw3 := hw2.symm
    clear hw2 IS
    subst hw3
    go_wp2_with fail
    go_region
    all_goals
      go_wp2_with fail
      go_ret
      refine ⟨rfl, ?_⟩
      rw [HE.out]
      exact HF.out _ (by rw [HM.out]; rfl)
end
section
theorem site_results {tmps : Array Value} {w : World} {b4 : Nat} {p0 p1 p2 p3 : Int} {v5 v6 v7 v8 : Value} (h4 : RowL w b4 [.int .i64 p0, .int .i64 p1, .int .i64 p2, .int .i64 p3]) (t4 : tmps[4]? = some (.pointer (some ⟨b4, 0, none⟩))) (t5 : tmps[5]? = some v5) (t6 : tmps[6]? = some v6) (t7 : tmps[7]? = some v7) (t8 : tmps[8]? = some v8) :
    (results Tryz.f114 tmps).run Tryz.prog w = .ok (.tuple #[.agg #[.int .i64 p0, .int .i64 p1, .int .i64 p2, .int .i64 p3], v5, v6, v7, v8]) w := by
  have z0 := h4.cell 0 _ rfl
  have z1 := h4.cell 1 _ rfl
  have z2 := h4.cell 2 _ rfl
  have z3 := h4.cell 3 _ rfl
  simp [results, Tryz.results114, go_sem, t4, t5, t6, t7, t8, z0, z1, z2, z3]
theorem row_set4 {W : World} {b : Nat} (h : RowL W b [.int .i64 0, .int .i64 0, .int .i64 0, .int .i64 0]) (x0 x1 x2 x3 : Int) : RowL ((((W.setCell ⟨b, 0, none⟩ (.int .i64 x0)).setCell ⟨b, 1, none⟩ (.int .i64 x1)).setCell ⟨b, 2, none⟩ (.int .i64 x2)).setCell ⟨b, 3, none⟩ (.int .i64 x3)) b [.int .i64 x0, .int .i64 x1, .int .i64 x2, .int .i64 x3] :=
  (((h.set 0 _ (by simp)).set 1 _ (by simp)).set 2 _ (by simp)).set 3 _ (by simp)
theorem row_block4 {W : World} {b k : Nat} (hk : k ≠ b) (x0 x1 x2 x3 : Int) : ((((W.setCell ⟨b, 0, none⟩ (.int .i64 x0)).setCell ⟨b, 1, none⟩ (.int .i64 x1)).setCell ⟨b, 2, none⟩ (.int .i64 x2)).setCell ⟨b, 3, none⟩ (.int .i64 x3)).heap[k]? = W.heap[k]? := by
  have e : ∀ (V : World) (p : Addr) (u : Value), p.block = b → (V.setCell p u).heap[k]? = V.heap[k]? := fun V p u hp => Below.heap_setCell _ _ _ _ (fun q => hk (q.trans hp))
  rw [e _ _ _ rfl, e _ _ _ rfl, e _ _ _ rfl, e _ _ _ rfl]
theorem below_set4 {n b : Nat} {w W : World} (h : Below n w W) (hb : n ≤ b) (x0 x1 x2 x3 : Int) : Below n w ((((W.setCell ⟨b, 0, none⟩ (.int .i64 x0)).setCell ⟨b, 1, none⟩ (.int .i64 x1)).setCell ⟨b, 2, none⟩ (.int .i64 x2)).setCell ⟨b, 3, none⟩ (.int .i64 x3)) :=
  (((h.setCell (p := ⟨b, 0, none⟩) hb _).setCell (p := ⟨b, 1, none⟩) hb _).setCell (p := ⟨b, 2, none⟩) hb _).setCell (p := ⟨b, 3, none⟩) hb _
theorem own_base {w : World} {B B' k n : Nat} {T : TypeId} {v : Value} {xs : List Value} (h : w.ownsRow B T k v n xs) (hB : B' ≤ B) : w.ownsRow B' T k v n xs :=
  ⟨h.1, h.2.imp (fun q => q) (fun ⟨g, cap, cur, e, hb, r⟩ => ⟨g, cap, cur, e, Nat.le_trans hB hb, r⟩)⟩
set_option maxRecDepth 100000 in
set_option maxHeartbeats 8000000 in
theorem pw_site {b : Nat} {G : Nat → Prop} {W : WoS} (w : World) (h : PW w b G W) (hw : WfW W) {i : Nat} (hi : i < W.n) :
    Calls Tryz.prog 114 #[.pointer (some ⟨b, 0, none⟩), .int .i64 i] w fun e w' => ∃ v, e = .returned (.tuple #[.agg #[.int .i64 (W.S i).a0, .int .i64 (W.S i).a1, .int .i64 (W.S i).a2, .int .i64 (W.S i).a3], .int .i64 (W.S i).waits.length, v, .int .i64 (W.S i).l.length, .nilIface]) ∧ w'.ownsRow w.heap.size 9 1 v 8 (toldC (W.S i).a0 (W.S i).a1 (W.S i).a2 (W.S i).a3 (W.S i).l 8) ∧ Below w.heap.size w w' := by
  obtain ⟨M, Gs, h, hG⟩ := h
  have hb0 := boxed (Below.refl _ w) (.cells #[.int .i64 0, .int .i64 0, .int .i64 0, .int .i64 0] 77)
  have R0 := RowL.new (w := w) (T := 77) [.int .i64 0, .int .i64 0, .int .i64 0, .int .i64 0] rfl
  change RowL (w.alloc (.cells #[.int .i64 0, .int .i64 0, .int .i64 0, .int .i64 0] 77)) w.heap.size [.int .i64 0, .int .i64 0, .int .i64 0, .int .i64 0] at R0
  have P0 := (h.site hi).later hb0
  obtain ⟨pb, pc, c0, hpc, hpb, y0, y1⟩ := (h.later hb0).place hi
  have hlt := (h.later hb0).box.lt
  have IS := wIsSite_is (k := i) (v := true) _ c0 (by simp; omega)
  have AP := applied_any _ P0
  have HH : Hid (PS (w.alloc (.cells #[.int .i64 0, .int .i64 0, .int .i64 0, .int .i64 0] 77)) (M.bp i) (Gs i) (W.S i) ∧ InvS (W.S i) ∧ RowL (w.alloc (.cells #[.int .i64 0, .int .i64 0, .int .i64 0, .int .i64 0] 77)) w.heap.size [.int .i64 0, .int .i64 0, .int .i64 0, .int .i64 0]) := ⟨P0, hw.inv i hi, R0⟩
  have q1 : (i : Int) < (W.n : Int) := by omega
  clear h hG hw P0 R0
  go_enter Tryz.func114, Tryz.ntmps114
  go_wp2_with fail
  refine IS.mono ?_
  rintro e w2 ⟨rfl, hw2⟩
  have hw3 := hw2.symm
  clear hw2 IS
  subst hw3
  go_wp2_with fail
  refine AP.mono ?_
  rintro e w3 ⟨rfl, hb3⟩
  have WT := waits_any w3 (HH.out.1.later hb3)
  clear AP
  go_wp2_with fail
  refine WT.mono ?_
  rintro e w4 ⟨rfl, hb4⟩
  have hb34 := behind hb3 hb4
  have AL := pall_any w4 (HH.out.1.later hb34) HH.out.2.1
  clear WT
  go_wp2_with fail
  refine AL.mono ?_
  rintro e w5 ⟨v, rfl, own5, hb5⟩
  have hb35 := behind hb34 hb5
  have MN := pmany_any w5 (HH.out.1.later hb35) HH.out.2.1
  clear AL
  go_wp2_with fail
  refine MN.mono ?_
  rintro e w6 ⟨rfl, hb6⟩
  have hb36 := behind hb35 hb6
  have R6 := HH.out.2.2.later hb36
  have s4 : w.heap.size < w4.heap.size := by have := hb34.size; simp at this; omega
  have own6 := own_keptN own5 (fun k e => hb6.block k (own5.lt k e).2)
  have HO : Hid (w6.ownsRow w4.heap.size 9 1 v 8 (toldC (W.S i).a0 (W.S i).a1 (W.S i).a2 (W.S i).a3 (W.S i).l 8) ∧ RowL w6 w.heap.size [.int .i64 0, .int .i64 0, .int .i64 0, .int .i64 0] ∧ Below w.heap.size w w6) := ⟨own6, R6, behind hb0 hb36⟩
  have a0 := R6.cell 0 _ rfl
  have a1 := R6.cell 1 _ rfl
  have a2 := R6.cell 2 _ rfl
  have a3 := R6.cell 3 _ rfl
  have f0 := R6.free 0 (by simp)
  have f1 := R6.free 1 (by simp)
  have f2 := R6.free 2 (by simp)
  have f3 := R6.free 3 (by simp)
  clear MN own5 own6 R6
  go_wp2_with fail
  have RZ := row_set4 HO.out.2.1 (W.S i).a0 (W.S i).a1 (W.S i).a2 (W.S i).a3
  have bZ := below_set4 HO.out.2.2 (Nat.le_refl _) (W.S i).a0 (W.S i).a1 (W.S i).a2 (W.S i).a3
  have oZ := own_keptN HO.out.1 (fun k e => row_block4 (b := w.heap.size) (fun q => by have := (HO.out.1.lt k e).1; omega) (W.S i).a0 (W.S i).a1 (W.S i).a2 (W.S i).a3)
  refine bodyPost_ret (site_results RZ rfl rfl rfl rfl rfl) rfl ⟨v, rfl, ?_, bZ⟩
  exact own_base oZ (by omega)
end
section
/-- what is swept by: what all are known to have, and whoever reads there -/
def swV (W : WoS) (k : Nat) : Nat → V4
  | 0 => stabS (W.S k) (cutN W.n)
  | j + 1 => if W.at_ j = k ∧ (W.ses j).opn = true then ⟨minZ (swV W k j).v0 (W.ses j).s0, minZ (swV W k j).v1 (W.ses j).s1, minZ (swV W k j).v2 (W.ses j).s2, minZ (swV W k j).v3 (W.ses j).s3⟩ else swV W k j
def v4C (v : V4) : List Value := [.int .i64 v.v0, .int .i64 v.v1, .int .i64 v.v2, .int .i64 v.v3]
def sweepW (W : WoS) (k : Nat) : WoS := setSite W k { W.S k with l := sweepL (minZ (swV W k W.c).v0 (W.S k).a0) (minZ (swV W k W.c).v1 (W.S k).a1) (minZ (swV W k W.c).v2 (W.S k).a2) (minZ (swV W k W.c).v3 (W.S k).a3) (W.S k).l }
theorem row_set4' {W : World} {b : Nat} {y0 y1 y2 y3 : Int} (h : RowL W b [.int .i64 y0, .int .i64 y1, .int .i64 y2, .int .i64 y3]) (x0 x1 x2 x3 : Int) : RowL ((((W.setCell ⟨b, 0, none⟩ (.int .i64 x0)).setCell ⟨b, 1, none⟩ (.int .i64 x1)).setCell ⟨b, 2, none⟩ (.int .i64 x2)).setCell ⟨b, 3, none⟩ (.int .i64 x3)) b (v4C ⟨x0, x1, x2, x3⟩) :=
  (((h.set 0 _ (by simp)).set 1 _ (by simp)).set 2 _ (by simp)).set 3 _ (by simp)
set_option maxRecDepth 100000 in
set_option maxHeartbeats 8000000 in
theorem pw_sweep {b : Nat} {G : Nat → Prop} {W : WoS} (w : World) (h : PW w b G W) (hw : WfW W) {i : Nat} (hi : i < W.n) :
    Calls Tryz.prog 115 #[.pointer (some ⟨b, 0, none⟩), .int .i64 i] w fun e w' => e = .returned (errV 0) ∧ PWPo w b G (sweepW W i) w' := by
  obtain ⟨M, Gs, h, hG⟩ := h
  have HH : Hid (PWo w b M W Gs ∧ (∀ k, G k ↔ allG b M (W.n + W.c) Gs k) ∧ WfW W ∧ i < W.n) := ⟨h, hG, hw, hi⟩
  obtain ⟨pb, pc, c0, hpc, hpb, y0, y1⟩ := h.place hi
  have hlt := h.box.lt
  have IS := wIsSite_is (k := i) (v := true) w c0 (by simp; omega)
  have ST := pstable_any (W.n : Int) w (h.site hi)
  have q1 : (i : Int) < (W.n : Int) := by omega
  have HC6 : Hid (W.c ≤ 6) := hw.c6
  clear h hG hw
  go_enter Tryz.func115, Tryz.ntmps115
  go_wp2_with fail
  refine IS.mono ?_
  rintro e w2 ⟨rfl, hw2⟩
  have hw3 := hw2.symm
  clear hw2 IS
  subst hw3
  go_wp2_with fail
  refine ST.mono ?_
  rintro e w3 ⟨rfl, hb3⟩
  obtain ⟨V, hV⟩ : ∃ V, stabS (W.S i) (cutN W.n) = V := ⟨_, rfl⟩
  rw [hV]
  have bz := boxed (Below.refl _ w3) (.cells #[.int .i64 V.v0, .int .i64 V.v1, .int .i64 V.v2, .int .i64 V.v3] 77)
  have RV := RowL.new (w := w3) (T := 77) [.int .i64 V.v0, .int .i64 V.v1, .int .i64 V.v2, .int .i64 V.v3] rfl
  change RowL (w3.alloc (.cells #[.int .i64 V.v0, .int .i64 V.v1, .int .i64 V.v2, .int .i64 V.v3] 77)) w3.heap.size [.int .i64 V.v0, .int .i64 V.v1, .int .i64 V.v2, .int .i64 V.v3] at RV
  have hb4 := behind hb3 bz
  obtain ⟨ca, cc, hcv, r⟩ := rowIn_own HH.out.1.cr
  have c1 := cell_later hb4 (HH.out.1.box.cell 1 _ rfl)
  rw [hcv] at c1
  have hlt4 : b < (w3.alloc (.cells #[.int .i64 V.v0, .int .i64 V.v1, .int .i64 V.v2, .int .i64 V.v3] 77)).heap.size := Nat.lt_of_lt_of_le hlt hb4.size
  have hrl := r.len
  have HR : Hid (RowIn w ca cc W.c (pairsC M.bs (fun k => (W.at_ k : Int)) W.c)) := r
  have HV : Hid (stabS (W.S i) (cutN W.n) = V) := hV
  clear ST c0 y0 y1 r hcv hV
  go_wp2_with fail
  obtain ⟨w4, hw4⟩ : ∃ w4, w3.alloc (.cells #[.int .i64 V.v0, .int .i64 V.v1, .int .i64 V.v2, .int .i64 V.v3] 77) = w4 := ⟨_, rfl⟩
  rw [hw4] at RV hb4 ⊢
  obtain ⟨vb, hvb⟩ : ∃ vb, w3.heap.size = vb := ⟨_, rfl⟩
  have hvw : w.heap.size ≤ vb := by rw [← hvb]; exact hb3.size
  rw [hvb] at RV ⊢
  have HS0 : Hid (RowL w4 vb (v4C (swV W i 0)) ∧ Below w.heap.size w w4 ∧ w.heap.size ≤ vb) := ⟨by show RowL w4 vb (v4C (stabS (W.S i) (cutN W.n))); rw [HV.out]; exact RV, hb4, hvw⟩
  clear hw4 hvb bz RV hb3 c1 hlt4 hb4
  go_loopw [34] (fun iv wr => ∃ (j : Nat) (z : Int), j ≤ W.c ∧ z = j ∧ iv = .int .i64 z ∧ Hid (RowL wr vb (v4C (swV W i j)) ∧ Below w.heap.size w wr)) (fun iv _ => W.c - (intOf iv).toNat)
  case atStart => exact ⟨0, 0, by omega, rfl, rfl, HS0.out.1, HS0.out.2.1⟩
  case round =>
    obtain ⟨j, z, hj, hz, rfl, HS⟩ := hrel
    have HZ : Hid (z = j) := hz
    by_cases hjl : j < W.c
    · have g1 : z < (W.c : Int) := by omega
      have g2 : z.toNat = j := by omega
      have g3 : 0 ≤ z := by omega
      have g4 : z < 6 := by have := HC6.out; omega
      clear hz
      obtain ⟨cb, hca, hcb, hcell⟩ : ∃ g, ca = some ⟨g, 0, none⟩ ∧ g < w.heap.size ∧ ∀ j u, (pairsC M.bs (fun k => (W.at_ k : Int)) W.c)[j]? = some u → w.cell? ⟨g, j, none⟩ = some u := by
        rcases HR.out.held with h0 | h0
        · omega
        · exact h0
      subst hca
      have x0 := cell_later HS.out.2 (hcell _ _ (pairs_at hjl).1)
      have x1o := cell_later HS.out.2 (hcell _ _ (pairs_at hjl).2)
      obtain ⟨aj, haj⟩ : ∃ aj : Int, (W.at_ j : Int) = aj := ⟨_, rfl⟩
      have x1 : wr.cell? ⟨cb, j * 2 + 1, none⟩ = some (.int .i64 aj) := by rw [← haj]; exact x1o
      have HAJ : Hid ((W.at_ j : Int) = aj) := haj
      clear haj x1o
      have bx := boxed (Below.refl _ wr) (.cells #[.pointer (some ⟨M.bs j, 0, none⟩), .int .i64 aj] 171)
      have hbx := behind HS.out.2 bx
      have OP := popen_any _ ((HH.out.1.sess hjl).later hbx)
      have RB := HS.out.1.later bx
      have HB : Hid (RowL (wr.alloc (.cells #[.pointer (some ⟨M.bs j, 0, none⟩), .int .i64 aj] 171)) vb (v4C (swV W i j)) ∧ Below w.heap.size w (wr.alloc (.cells #[.pointer (some ⟨M.bs j, 0, none⟩), .int .i64 aj] 171)) ∧ RowL (wr.alloc (.cells #[.pointer (some ⟨M.bs j, 0, none⟩), .int .i64 aj] 171)) wr.heap.size [.pointer (some ⟨M.bs j, 0, none⟩), .int .i64 aj]) := ⟨RB, hbx, RowL.new (w := wr) (T := 171) [.pointer (some ⟨M.bs j, 0, none⟩), .int .i64 aj] rfl⟩
      clear hcell RB
      by_cases ha : aj = (i : Int)
      · subst ha
        have HAI : Hid (W.at_ j = i) := by have := HAJ.out; show _ = _; omega
        cases ho : (W.ses j).opn
        · have HE : Hid (swV W i (j + 1) = swV W i j) := if_neg (fun q => by rw [ho] at q; cases q.2)
          rw [ho] at OP
          clear ho
          go_wp2_with fail
          refine OP.mono ?_
          rintro e w5 ⟨rfl, hb5⟩
          go_wp2_with fail
          go_roundw
          case rel => exact ⟨j + 1, z + 1, by omega, by have := HZ.out; omega, by go_num, by rw [HE.out]; exact HB.out.1.later hb5, behind HB.out.2.1 hb5⟩
          case measure => simp [intOf]; have := HZ.out; omega
        · have HE : Hid (swV W i (j + 1) = ⟨minZ (swV W i j).v0 (W.ses j).s0, minZ (swV W i j).v1 (W.ses j).s1, minZ (swV W i j).v2 (W.ses j).s2, minZ (swV W i j).v3 (W.ses j).s3⟩) := if_pos ⟨HAI.out, ho⟩
          rw [ho] at OP
          clear ho
          go_wp2_with fail
          refine OP.mono ?_
          rintro e w5 ⟨rfl, hb5⟩
          obtain ⟨v, hv⟩ : ∃ v, swV W i j = v := ⟨_, rfl⟩
          have R5 : RowL w5 vb [.int .i64 v.v0, .int .i64 v.v1, .int .i64 v.v2, .int .i64 v.v3] := by have := HB.out.1.later hb5; rw [hv] at this; exact this
          have C5 := HB.out.2.2.later hb5
          have hbw5 := behind HB.out.2.1 hb5
          have SN : Hid (Calls Tryz.prog 148 #[.pointer (some ⟨M.bs j, 0, none⟩)] w5.drew fun e w'' => e = .returned (.agg #[.int .i64 (W.ses j).s0, .int .i64 (W.ses j).s1, .int .i64 (W.ses j).s2, .int .i64 (W.ses j).s3]) ∧ Below w5.drew.heap.size w5.drew w'') := psnap_any _ ((HH.out.1.sess hjl).later hbw5.drew)
          have MI : Hid (∀ w', Calls Tryz.prog 163 #[.agg #[.int .i64 v.v0, .int .i64 v.v1, .int .i64 v.v2, .int .i64 v.v3], .agg #[.int .i64 (W.ses j).s0, .int .i64 (W.ses j).s1, .int .i64 (W.ses j).s2, .int .i64 (W.ses j).s3]] w' fun e w'' => e = .returned (.agg #[.int .i64 (minZ v.v0 (W.ses j).s0), .int .i64 (minZ v.v1 (W.ses j).s1), .int .i64 (minZ v.v2 (W.ses j).s2), .int .i64 (minZ v.v3 (W.ses j).s3)]) ∧ Below w'.heap.size w' w'') := fun w' => min_any _ _ _ _ _ _ _ _ w'
          rw [hv] at HE
          have HF : Hid (RowL w5 vb [.int .i64 v.v0, .int .i64 v.v1, .int .i64 v.v2, .int .i64 v.v3] ∧ Below w.heap.size w w5 ∧ RowL w5 wr.heap.size [.pointer (some ⟨M.bs j, 0, none⟩), .int .i64 i]) := ⟨R5, hbw5, C5⟩
          have a0 := R5.cell 0 _ rfl
          have a1 := R5.cell 1 _ rfl
          have a2 := R5.cell 2 _ rfl
          have a3 := R5.cell 3 _ rfl
          have k0 := C5.cell 0 _ rfl
          have lv := R5.lt
          have lc := C5.lt
          clear OP R5 C5 x0 x1 hv bx hbx
          go_wp2_with fail
          go_region_law (first
            | (refine step_callF rfl 148 rfl #[.pointer (some ⟨M.bs j, 0, none⟩)] (by go_simp) SN.out ?_
               rintro e w6 ⟨rfl, hb6⟩
               refine ⟨_, rfl, ?_⟩
               have R6 := HF.out.1.later (behind (Below.refl _ w5).drew hb6)
               have b0 := R6.cell 0 _ rfl
               have b1 := R6.cell 1 _ rfl
               have b2 := R6.cell 2 _ rfl
               have b3 := R6.cell 3 _ rfl)
            | (refine step_callF rfl 163 rfl #[.agg #[.int .i64 v.v0, .int .i64 v.v1, .int .i64 v.v2, .int .i64 v.v3], .agg #[.int .i64 (W.ses j).s0, .int .i64 (W.ses j).s1, .int .i64 (W.ses j).s2, .int .i64 (W.ses j).s3]] (by go_simp) (MI.out w6) ?_
               rintro e w7 ⟨rfl, hb7⟩
               refine ⟨_, rfl, ?_⟩
               have hb57 := behind (behind (Below.refl _ w5).drew hb6) hb7
               have R7 := HF.out.1.later hb57
               have d0 := R7.cell 0 _ rfl
               have d1 := R7.cell 1 _ rfl
               have d2 := R7.cell 2 _ rfl
               have d3 := R7.cell 3 _ rfl
               have f0 := R7.free 0 (by simp)
               have f1 := R7.free 1 (by simp)
               have f2 := R7.free 2 (by simp)
               have f3 := R7.free 3 (by simp)))
          all_goals
            go_wp2_with fail
            go_roundw
            case rel => exact ⟨j + 1, z + 1, by omega, by have := HZ.out; omega, by go_num, by rw [HE.out]; exact row_set4' R7 _ _ _ _, below_set4 (behind HF.out.2.1 hb57) HS0.out.2.2 _ _ _ _⟩
            case measure => simp [intOf]; have := HZ.out; omega
      · have HE : Hid (swV W i (j + 1) = swV W i j) := if_neg (fun q => ha (by have := HAJ.out; have := q.1; omega))
        have hq1 : (aj == (i : Int)) = false := by simp [ha]
        have hq2 : decide (aj = (i : Int)) = false := decide_eq_false ha
        clear OP
        go_wp2_with fail
        go_roundw
        case rel => exact ⟨j + 1, z + 1, by omega, by have := HZ.out; omega, by go_num, by rw [HE.out]; exact HB.out.1, HB.out.2.1⟩
        case measure => simp [intOf]; have := HZ.out; omega
    · have g1 : ¬ z < (W.c : Int) := by omega
      have e : j = W.c := by omega
      subst e
      have R9 := HS.out.1
      have H9 := HH.out.1.later HS.out.2
      have SW := psweep_any (swV W i W.c).v0 (swV W i W.c).v1 (swV W i W.c).v2 (swV W i W.c).v3 wr (H9.site HH.out.2.2.2) (HH.out.2.2.1.inv i HH.out.2.2.2)
      have z0 := R9.cell 0 _ rfl
      have z1 := R9.cell 1 _ rfl
      have z2 := R9.cell 2 _ rfl
      have z3 := R9.cell 3 _ rfl
      clear hz R9
      go_wp2_with fail
      refine SW.mono ?_
      rintro e w9 ⟨rfl, hp⟩
      go_wp2_with fail
      go_ret
      exact ⟨rfl, PWPo.from HS.out.2 (H9.stepS HH.out.2.1 HH.out.2.2.2 hp)⟩
end
theorem commit_okT {S : SiteS} {now d0 d1 d2 d3 : Int} {ws : List Wr} (hI : InvS S) (hE : comE S now d0 d1 d2 d3 ws = 0) : okT (commitT S now d0 d1 d2 d3 ws) = true := by
  obtain ⟨z1, z2, z3, z4, z5⟩ := commitE_zero hE
  obtain ⟨n1, n2, n3⟩ := nextP_ok z5
  have hsm := hI.own
  have ha : appl S S.id ≤ 200 := by have := hI.log; show depOf S.id _ _ _ _ ≤ 200; omega
  have hge : 0 ≤ appl S S.id := (hI.dep S.id).1
  have okd : timesB (setV0 S.id (appl S S.id) d0) (setV1 S.id (appl S S.id) d1) (setV2 S.id (appl S S.id) d2) (setV3 S.id (appl S S.id) d3) = true := by
    have ta : timeB (appl S S.id) = true := timeB_true hge (by omega)
    simp only [timesB, Bool.and_eq_true] at z2 ⊢
    refine ⟨⟨⟨?_, ?_⟩, ?_⟩, ?_⟩
    · unfold setV0; split; exact ta; exact z2.1.1.1
    · unfold setV1; split; exact ta; exact z2.1.1.2
    · unfold setV2; split; exact ta; exact z2.1.2
    · unfold setV3; split; exact ta; exact z2.2
  show okTx S.id (appl S S.id + 1) (nextP S.lw S.lc now).1 (nextP S.lw S.lc now).2.1 (setV0 S.id (appl S S.id) d0) (setV1 S.id (appl S S.id) d1) (setV2 S.id (appl S S.id) d2) (setV3 S.id (appl S S.id) d3) ws = true
  unfold okTx
  simp only [Bool.and_eq_true, inB_iff, decide_eq_true_eq]
  refine ⟨⟨⟨⟨⟨⟨hI.id0, hI.id3⟩, ⟨by omega, by omega⟩⟩, ⟨n1, n2⟩⟩, okd⟩, ?_⟩, z1⟩
  rw [depOf_set _ _ _ _ _ _ S.id hI.id0 hI.id3, if_pos rfl]
  omega
theorem scom_tells {S : SiteS} {s : SesS} {now : Int} (h : 0 < (scomT S s now).seq) : comE S now s.s0 s.s1 s.s2 s.s3 (allW s.ws) = 0 ∧ scomT S s now = commitT S now s.s0 s.s1 s.s2 s.s3 (allW s.ws) := by
  unfold scomT at h ⊢
  by_cases q : s.opn = false ∨ (allW s.ws).length = 0
  · rw [if_pos q] at h
    exact absurd h (by decide)
  · rw [if_neg q] at h ⊢
    unfold comT at h ⊢
    by_cases e : comE S now s.s0 s.s1 s.s2 s.s3 (allW s.ws) = 0
    · rw [if_pos e]
      exact ⟨e, rfl⟩
    · rw [if_neg e] at h
      exact absurd h (by decide)
theorem maxZ_ge0 {a b : Int} (h : 0 ≤ a) : 0 ≤ maxZ a b := by unfold maxZ; split <;> omega
theorem scom_p0 {S : SiteS} {s : SesS} {now : Int} (h : 0 ≤ s.p0) : 0 ≤ (scomSes S s now).p0 := by
  unfold scomSes
  split
  · exact h
  · split
    · exact maxZ_ge0 h
    · show 0 ≤ (if _ then maxZ (maxZ s.p0 s.s0) _ else maxZ s.p0 s.s0)
      split
      · exact maxZ_ge0 (maxZ_ge0 h)
      · exact maxZ_ge0 h
theorem scomS_log {S : SiteS} {s : SesS} {now : Int} (hI : InvS S) (h : ∀ x ∈ S.log, okT x = true) : (∀ x ∈ (scomS S s now).log, okT x = true) ∧ (scomS S s now).id = S.id ∧ (scomS S s now).waits = S.waits := by
  unfold scomS
  split
  · exact ⟨h, rfl, rfl⟩
  · unfold comS
    split
    · rename_i e
      refine ⟨fun x hx => ?_, rfl, rfl⟩
      rcases List.mem_append.1 (show x ∈ S.log ++ [_] from hx) with q | q
      · exact h x q
      · rw [List.mem_singleton.1 q]
        exact commit_okT hI e
    · exact ⟨h, rfl, rfl⟩
/-- what is always so -/
structure PlI (j : Nat) (W : WoS) : Prop where
  wf : WfW W
  nt : NetW W
  ps : ∀ k, k < W.c → 0 ≤ (W.ses k).p0
  wl : ∀ i, i < W.n → 0 ≤ W.wall i ∧ W.wall i ≤ 1099511627776
  ln : ∀ k, k < W.c → (W.ses k).ws.length ≤ j
section
variable {W W' : WoS} {g : GrS} {k i j : Nat}
theorem PlI.mono (h : PlI j W) {m : Nat} (hm : j ≤ m) : PlI m W := ⟨h.wf, h.nt, h.ps, h.wl, fun k hk => Nat.le_trans (h.ln k hk) hm⟩
theorem PlI.new {n c : Nat} (h1 : 1 ≤ n) (h4 : n ≤ 4) (h6 : c ≤ 6) : PlI 0 (newW n c) :=
  ⟨⟨h1, h4, h6, fun k _ => (show (0 : Nat) < n by omega), fun i hi => InvS.new (show (0 : Int) ≤ (i : Int) by omega) (show (i : Int) ≤ 3 by have : i < n := hi; omega), fun i _ => rfl, (Nat.zero_le _ : 0 ≤ 300), fun i _ => (Nat.zero_le _ : 0 ≤ 40), fun i _ x hx => (by cases hx), fun g hg => (by cases hg)⟩, fun g hg => (by cases hg), fun k _ => (Int.le_refl 0), fun i _ => ⟨Int.le_refl 0, (by show (0 : Int) ≤ _; decide)⟩, fun k _ => Nat.le_refl 0⟩
theorem PlI.keep (h : PlI j W) (hw : WfW W') (hn : NetW W') (k : KeepW W W') : PlI j W' := ⟨hw, hn, by rw [k.c, k.ses]; exact h.ps, by rw [k.n, k.wall]; exact h.wl, by rw [k.c, k.ses]; exact h.ln⟩
theorem WfW.sessions (h : WfW W) (f : Nat → SesS) : WfW { W with ses := f } := ⟨h.n1, h.n4, h.c6, h.at_, h.inv, h.id, h.net, h.wt, h.lok, h.to⟩
theorem PlI.ses (h : PlI j W) {s' : SesS} (hp : 0 ≤ s'.p0) (hl : s'.ws.length ≤ j) : PlI j (setSes W k s') := by
  refine ⟨h.wf.sessions _, h.nt, fun i hi => ?_, h.wl, fun i hi => ?_⟩ <;> show (_ : Prop) <;> by_cases q : i = k
  · show 0 ≤ (setN W.ses k s' i).p0; rw [q, setN_same]; exact hp
  · show 0 ≤ (setN W.ses k s' i).p0; rw [setN_ne _ _ q]; exact h.ps i hi
  · show (setN W.ses k s' i).ws.length ≤ j; rw [q, setN_same]; exact hl
  · show (setN W.ses k s' i).ws.length ≤ j; rw [setN_ne _ _ q]; exact h.ln i hi
theorem PlI.begin (h : PlI j W) (hk : k < W.c) : PlI j (setSes W k (begS (W.S (W.at_ k)) (W.ses k))) := by
  unfold begS
  split
  · exact h.ses (h.ps k hk) (Nat.zero_le _)
  · exact h.ses (h.ps k hk) (h.ln k hk)
theorem PlI.write (h : PlI j W) (hk : k < W.c) (x : Wr) : PlI (j + 1) (setSes W k (wriS (W.ses k) x)) := by
  have := h.ln k hk
  unfold wriS
  split
  · exact (h.mono (Nat.le_succ j)).ses (h.ps k hk) (by simp; omega)
  · exact (h.mono (Nat.le_succ j)).ses (h.ps k hk) (by omega)
theorem PlI.abort (h : PlI j W) (hk : k < W.c) : PlI j (setSes W k (aboS (W.ses k))) := by
  unfold aboS
  split
  · exact h.ses (h.ps k hk) (h.ln k hk)
  · exact h.ses (maxZ_ge0 (h.ps k hk)) (Nat.zero_le _)
theorem scom_few {S : SiteS} {s : SesS} {now : Int} : (scomSes S s now).ws.length ≤ s.ws.length := by
  unfold scomSes
  split
  · exact Nat.le_refl _
  · split
    · exact Nat.zero_le _
    · exact Nat.zero_le _
theorem PlI.told (h : PlI j W) (hk : k < W.c) (hq : 0 < (wcT W k).seq) : okT (wcT W k) = true ∧ (wcT W k).site = (W.at_ k : Int) := by
  have ha := h.wf.at_ k hk
  obtain ⟨e1, e2⟩ := scom_tells hq
  have e : wcT W k = _ := e2
  rw [e]
  exact ⟨commit_okT (h.wf.inv _ ha) e1, h.wf.id _ ha⟩
theorem PlI.commit (h : PlI j W) (hk : k < W.c) : PlI j (wcW W k) := by
  have ha := h.wf.at_ k hk
  have hl := scomS_log (s := W.ses k) (now := W.wall (W.at_ k)) (h.wf.inv _ ha) (h.wf.lok _ ha)
  have w0 : WfW (setSite W (W.at_ k) (scomS (W.S (W.at_ k)) (W.ses k) (W.wall (W.at_ k)))) := h.wf.setSite (h.wf.inv _ ha).scom (hl.2.1.trans (h.wf.id _ ha)) (by rw [hl.2.2]; exact h.wf.wt _ ha) hl.1
  have p0 : PlI j (setSite W (W.at_ k) (scomS (W.S (W.at_ k)) (W.ses k) (W.wall (W.at_ k)))) := ⟨w0, h.nt, h.ps, h.wl, h.ln⟩
  have p1 : PlI j (wcW0 W k) := p0.ses (scom_p0 (h.ps k hk)) (Nat.le_trans scom_few (h.ln k hk))
  unfold wcW
  split
  · rename_i q
    exact p1.keep (WfW.tell _ _ p1.wf (Nat.le_refl _)) (p1.nt.tell (h.told hk q).1 _) (tellW_same _ _ _).keep
  · exact p1
theorem PlI.move (h : PlI j W) {to : Nat} (ht : to < W.n) : PlI j (moveW W k to) := by
  unfold moveW
  split
  · exact h
  · refine ⟨⟨h.wf.n1, h.wf.n4, h.wf.c6, fun i hi => ?_, h.wf.inv, h.wf.id, h.wf.net, h.wf.wt, h.wf.lok, h.wf.to⟩, h.nt, h.ps, h.wl, h.ln⟩
    show setN W.at_ k to i < W.n
    by_cases q : i = k
    · rw [q, setN_same]; exact ht
    · rw [setN_ne _ _ q]; exact h.wf.at_ i hi
theorem PlI.goes (h : PlI j W) {y : Int} (h0 : 0 ≤ y) (hi : i < W.n) : PlI j (goesW W i y) := by
  refine ⟨⟨h.wf.n1, h.wf.n4, h.wf.c6, h.wf.at_, h.wf.inv, h.wf.id, h.wf.net, h.wf.wt, h.wf.lok, h.wf.to⟩, h.nt, h.ps, fun m hj => ?_, h.ln⟩
  show 0 ≤ setN W.wall i (minT (W.wall i + y)) m ∧ setN W.wall i (minT (W.wall i + y)) m ≤ _
  by_cases q : m = i
  · rw [q, setN_same]
    have := h.wl i hi
    unfold minT
    split <;> omega
  · rw [setN_ne _ _ q]; exact h.wl m hj
theorem PlI.send (h : PlI j W) (hg : g.to < W.n) (hn : NetG W.n g) : PlI j (sendW W g) := h.keep (h.wf.send hg) (h.nt.send hn) (sendW_same _ _).keep
theorem PlI.deliver (h : PlI j W) (hd : DeliverTo W i W') : PlI j W' := h.keep (h.wf.deliver hd) (h.nt.deliver h.wf hd) hd.keep
theorem PlI.drop (h : PlI j W) (i : Nat) : PlI j (dropW' W i) := ⟨h.wf.drop i, h.nt.drop i, h.ps, h.wl, h.ln⟩
theorem PlI.sweep (h : PlI j W) (hi : i < W.n) : PlI j (sweepW W i) := ⟨h.wf.setSite ((h.wf.inv i hi).swept _ _ _ _) (h.wf.id i hi) (h.wf.wt i hi) (h.wf.lok i hi), h.nt, h.ps, h.wl, h.ln⟩
end
end Go.Proofs.YtoanjdndmlffdaaGreatDoor
