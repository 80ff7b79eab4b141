/-
  What is under way is lost, or comes, in a world of the program, as the model runs it (world.World.Lose, Deliver, bringAll).
  What is under way comes, one or all, in a world of the program, as the model runs it (world.World.Deliver, bringAll).
  A round in which nothing is lost, in a world of the program, as the model runs it (world.World.Calm).
  A client goes to another site, and a site's wall goes on, in a world of the program, as the model runs it (world.World.Move, Goes).
  A site's wall goes on, in a world of the program, as the model runs it (world.World.Goes).
  What a site of a world of the program tells, as the model runs it (world.World.Site).
  A site of a world of the program drops what nobody reads any more, as the model runs it (world.World.Sweep).
  Towards WorldMeets: what is always so of a world in which nobody sweeps, over all that was committed. No Go in sight.
  Towards WorldMeets: who asks another one has all that the other one had, when all has come. No Go in sight.
  Towards the laws of worlds: a commit, over all that was committed. No Go in sight.
  A world that sweeps, beside one that never does: whatever comes, they stay the same but for what was swept. No Go in sight.
  A tale: a world, what was committed in it, and what open transactions write; what a step of it is. No Go in sight.
  A tale in memory (copsekeep's tale): its box, its world, what was committed, what open transactions write, all apart.
  A tale in memory: what an open transaction writes is put, or begun anew; one more was committed.
  What is always so of a tale: over one that never sweeps; and that a step keeps it. No Go in sight.
  What is always so of a tale: a Sweep and a Commit keep it; so does each step. No Go in sight.
  What is read in a tale is the last write among all that a snapshot has; and what two tales that are the same but for sweeps tell. No Go in sight.
  What a step of a tale leaves of what clients have seen; what a Commit tells; behind two rounds in which nothing is lost. No Go in sight.
  What one client commits another one reads, elsewhere (copsekeep.lived), as the model runs it.
-/
import Derived.Test.YtemiamjnhoeniaaGreatDoorWoF
import Derived.Test.YtemiamjnhoeniaaGreatDoorSiteI
import Derived.Deep.LoopGhost
import Derived.Test.YtemiamjnhoeniaaGreatDoorSiteG
import Derived.Test.YtemiamjnhoeniaaGreatDoorSiteC
import Derived.Test.YtemiamjnhoeniaaGreatDoorSiteH
import Derived.Test.YtemiamjnhoeniaaGreatDoorSiteB
import Derived.Maps.AppendAt
import Derived.Test.YtemiamjnhoeniaaGreatDoorWoP
import Derived.Test.YtemiamjnhoeniaaGreatDoorWoQ
namespace Go.Proofs.YtemiamjnhoeniaaGreatDoor
open Go.RowKit

section
variable {w w1 w2 : World} {b g cap i : Nat} {M : WoM} {W : WoS} {Gs : Nat → Nat → Prop}
theorem PWo.dropped (h : PWo w b M W Gs) (hb : Below w.heap.size w w1) (hnv : M.nv = .slice (some ⟨g, 0, none⟩) M.l.length cap) (hi : i < M.l.length)
    (own : w2.ownsRow 0 168 2 (.slice (some ⟨g, 0, none⟩) (M.l.length - 1) cap) (M.l.length - 1) (netC (M.l.eraseIdx i))) (on : Only g w1 w2) :
    PWo (w2.setCell ⟨b, 2, none⟩ (.slice (some ⟨g, 0, none⟩) (M.l.length - 1) cap)) b { M with nv := .slice (some ⟨g, 0, none⟩) (M.l.length - 1) cap, l := M.l.eraseIdx i } (dropW' W i) Gs ∧ Touch (fun k => k = b ∨ M.nv.ownBlock = some k) w (w2.setCell ⟨b, 2, none⟩ (.slice (some ⟨g, 0, none⟩) (M.l.length - 1) cap)) := by
  have s1 := hb.size
  have s2 := on.size
  have gn : M.nv.ownBlock = some g := by rw [hnv]; rfl
  have gb : (Value.slice (some ⟨g, 0, none⟩) (M.l.length - 1) cap).ownBlock = some g := rfl
  have hgb : g ≠ b := fun q => h.sb.2.2 (by rw [gn, q])
  have hlt := h.box.lt
  have k2 : ∀ k, k < w.heap.size → k ≠ g → w2.heap[k]? = w.heap[k]? := fun k hk hn => (on.block k (by omega) (fun e => by injection e with e; exact hn e)).trans (hb.block k hk)
  have sS : (w2.setCell ⟨b, 2, none⟩ (.slice (some ⟨g, 0, none⟩) (M.l.length - 1) cap)).heap.size = w2.heap.size := by simp [World.setCell]
  have kS : ∀ k, k < w.heap.size → k ≠ g → k ≠ b → (w2.setCell ⟨b, 2, none⟩ (.slice (some ⟨g, 0, none⟩) (M.l.length - 1) cap)).heap[k]? = w.heap[k]? := fun k hk hn hkb => (Below.heap_setCell _ _ _ _ (fun e => hkb e)).trans (k2 k hk hn)
  have ne : ∀ k, M.nv.ownBlock ≠ some k → k ≠ g := fun k hk e => hk (by rw [gn, e])
  refine ⟨⟨?_, ?_, ?_, ?_, ?_, fun x hx => ?_, ?_, ⟨h.sb.1, h.sb.2.1, fun e => hgb (by rw [gb] at e; injection e)⟩, fun k => ⟨fun e => ⟨((h.sr k).1 e).1, fun e2 => ((h.sr k).1 e).2 (by rw [gn]; rw [gb] at e2; exact e2)⟩, fun e e2 => (h.sr k).2 e (by rw [gn]; rw [gb] at e2; exact e2)⟩, fun x hx => ?_⟩, ?_⟩
  · have B2 : RowL w2 b _ := (h.box.later hb).kept (on.block b (by omega) (fun e => by injection e with e; exact hgb e.symm)) s2
    exact B2.set 2 _ (by simp)
  · exact own_keptN h.pr (fun k e => kS k (h.pr.lt k e).2 (ne k ((h.sr k).1 e).2) (fun q => h.sb.1 (by rw [e, q])))
  · exact own_keptN h.cr (fun k e => kS k (h.cr.lt k e).2 (ne k ((h.sr k).2 e)) (fun q => h.sb.2.1 (by rw [e, q])))
  · show World.ownsRow _ 0 _ 2 _ (M.l.eraseIdx i).length (netC (M.l.eraseIdx i))
    rw [List.length_eraseIdx, if_pos hi]
    exact own_keptN own (fun k e => Below.heap_setCell _ _ _ _ (fun q => hgb (by rw [gb] at e; injection e with e; exact e.trans q)))
  · show (M.l.eraseIdx i).map (·.g) = W.net.eraseIdx i
    rw [← h.nl, List.eraseIdx_eq_take_drop_succ, List.eraseIdx_eq_take_drop_succ]
    simp
  · have q := List.mem_of_mem_eraseIdx hx
    have s := h.sg x q
    exact (h.gr x q).kept (kS _ (h.gr x q).own.lt (ne _ s.2.2.2) s.1) (by rw [sS]; omega)
  · have f := h.fam.to (X' := footW b M) (w' := w2.setCell ⟨b, 2, none⟩ (.slice (some ⟨g, 0, none⟩) (M.l.length - 1) cap)) (fun j k hj e => kS k (h.ltG hj e) (fun q => (h.fam.free k (.inr (.inr (.inr (.inl (by rw [gn, q])))))).2 j hj e) (fun q => (h.fam.free k (.inl q)).2 j hj e)) (by rw [sS]; omega) (fun k hk => ⟨.inl hk, by rw [sS]; have := h.ltF k hk; omega⟩)
    refine ⟨f.is, f.apart, fun k hk => ?_, f.half⟩
    rcases hk with e | e | e | e | ⟨x, hx, e⟩
    · exact f.free k (.inl e)
    · exact f.free k (.inr (.inl e))
    · exact f.free k (.inr (.inr (.inl e)))
    · exact f.free k (.inr (.inr (.inr (.inl (by rw [gn]; rw [gb] at e; exact e)))))
    · exact f.free k (.inr (.inr (.inr (.inr ⟨x, List.mem_of_mem_eraseIdx hx, e⟩))))
  · have s := h.sg x (List.mem_of_mem_eraseIdx hx)
    exact ⟨s.1, s.2.1, s.2.2.1, fun e => s.2.2.2 (by rw [gn]; rw [gb] at e; exact e)⟩
  · refine ((Touch.ofBelow hb).trans (Touch.grown on (fun k e => .inr (by rw [gn]; exact e)))).trans (Touch.setCell _ _ _ (.inl rfl))
theorem PWo.under (h : PWo w b M W Gs) {gr : GrS} (hi : W.net[i]? = some gr) : ∃ m nb nc, M.l[i]? = some m ∧ m.g = gr ∧ M.nv = .slice (some ⟨nb, 0, none⟩) M.l.length nc ∧ M.l.length = W.net.length ∧ w.cell? ⟨b, 2, none⟩ = some (.slice (some ⟨nb, 0, none⟩) M.l.length nc) ∧ M.l.length ≤ nc ∧ nb < w.heap.size ∧ w.cell? ⟨nb, i * 2, none⟩ = some (.int .i64 m.g.to) ∧ w.cell? ⟨nb, i * 2 + 1, none⟩ = some (.slice (some ⟨m.blk, 0, none⟩) m.S.size m.cap) := by
  have hlen : M.l.length = W.net.length := by rw [← h.nl]; simp
  have hil : i < M.l.length := by have := (List.getElem?_eq_some_iff.1 hi).1; omega
  obtain ⟨m, hm⟩ : ∃ m, M.l[i]? = some m := ⟨_, List.getElem?_eq_getElem hil⟩
  have hmg : m.g = gr := by
    have := hi
    rw [← h.nl, List.getElem?_map, hm] at this
    exact Option.some.inj this
  obtain ⟨na, nc, hnv, r⟩ := rowIn_own h.nr
  rcases r.held with h0 | ⟨nb, rfl, hnb, hc⟩
  · omega
  · have c2 := h.box.cell 2 _ rfl
    rw [hnv] at c2
    exact ⟨m, nb, nc, hm, hmg, hnv, hlen, c2, r.len, hnb, hc _ _ (net_at hm).1, hc _ _ (net_at hm).2⟩
end
set_option maxRecDepth 100000 in
set_option maxHeartbeats 4000000 in
theorem pw_lose {b : Nat} {G : Nat → Prop} {W : WoS} (w : World) (h : PW w b G W) (hn : W.net.length ≤ 300) {i : Nat} {g : GrS} (hi : W.net[i]? = some g) :
    Calls Tryz.prog 48 #[.pointer (some ⟨b, 0, none⟩), .int .i64 i] w fun e w' => e = .returned (errV 0) ∧ PWPo w b G (dropW' W i) w' := by
  obtain ⟨M, Gs, h, hG⟩ := h
  obtain ⟨m, nb, nc, hm, hmg, hnv, hlen, c2, hnc, hnb, x0, x1⟩ := h.under hi
  have hil : i < M.l.length := (List.getElem?_eq_some_iff.1 hm).1
  have IU := isUnder_is (k := i) (v := true) w c2 (by simp; omega)
  have DL := del_any w (by have := h.nr; rw [hnv] at this; exact this) hil (by omega)
  have HH : Hid (PWo w b M W Gs ∧ (∀ k, G k ↔ allG b M (W.n + W.c) Gs k) ∧ M.nv = .slice (some ⟨nb, 0, none⟩) M.l.length nc ∧ i < M.l.length) := ⟨h, hG, hnv, hil⟩
  have q1 : (i : Int) < (M.l.length : Int) := by omega
  have q2 : (i : Int) < 300 := by omega
  have hlt := h.box.lt
  clear h hG hnv hm hmg hi hn hlen hil
  go_enter Tryz.func48, Tryz.ntmps48
  go_wp2_with fail
  refine IU.mono ?_
  rintro e w2 ⟨rfl, hw2⟩
  have hw3 := hw2.symm
  clear hw2 IU
  subst hw3
  go_wp2_with fail
  refine DL.mono ?_
  rintro e w3 ⟨rfl, own3, on3⟩
  obtain ⟨D1, D2⟩ := HH.out.1.dropped (Below.refl _ w) HH.out.2.2.1 HH.out.2.2.2 own3 on3
  have HD : Hid (PWo (w3.setCell ⟨b, 2, none⟩ (.slice (some ⟨nb, 0, none⟩) (M.l.length - 1) nc)) b { M with nv := .slice (some ⟨nb, 0, none⟩) (M.l.length - 1) nc, l := M.l.eraseIdx i } (dropW' W i) Gs ∧ Touch (fun k => k = b ∨ M.nv.ownBlock = some k) w (w3.setCell ⟨b, 2, none⟩ (.slice (some ⟨nb, 0, none⟩) (M.l.length - 1) nc))) := ⟨D1, D2⟩
  have B3 : RowL w3 b _ := HH.out.1.box.kept (on3.block b hlt (fun e => by injection e with e; exact HH.out.1.sb.2.2 (by rw [HH.out.2.2.1, e]; rfl))) on3.size
  have e2 := B3.cell 2 _ rfl
  have f2 := B3.free 2 (by simp)
  clear DL own3 on3 D1 D2 B3
  go_wp2_with fail
  go_ret
  refine ⟨rfl, _, ⟨_, Gs, HD.out.1, fun _ => Iff.rfl⟩, fun k hk => .inl ((HH.out.2.1 k).2 ?_), ?_⟩
  · rcases hk with (q | q | q | q | ⟨x, hx, q⟩) | q
    · exact .inl (.inl q)
    · exact .inl (.inr (.inl q))
    · exact .inl (.inr (.inr (.inl q)))
    · exact .inl (.inr (.inr (.inr (.inl (by rw [HH.out.2.2.1]; exact q)))))
    · exact .inl (.inr (.inr (.inr (.inr ⟨x, List.mem_of_mem_eraseIdx hx, q⟩))))
    · exact .inr q
  · exact ⟨HD.out.2.os, HD.out.2.tape, HD.out.2.output, HD.out.2.size, fun k hk hn => HD.out.2.block k hk (fun e => hn ((HH.out.2.1 k).2 (.inl (e.elim .inl (fun q => .inr (.inr (.inr (.inl q))))))))⟩

end Go.Proofs.YtemiamjnhoeniaaGreatDoor


namespace Go.Proofs.YtemiamjnhoeniaaGreatDoor
open Go.RowKit

set_option maxRecDepth 100000 in
set_option maxHeartbeats 4000000 in
theorem pw_deliver {b : Nat} {G : Nat → Prop} {W : WoS} (w : World) (h : PW w b G W) (hw : WfW W) {i : Nat} {g : GrS} (hi : W.net[i]? = some g) :
    Calls Tryz.prog 47 #[.pointer (some ⟨b, 0, none⟩), .int .i64 i] w fun e w' => e = .returned (errV 0) ∧ ∃ W', Hid (DeliverTo W i W') ∧ PWPo w b G W' w' := by
  obtain ⟨M, Gs, h, hG⟩ := h
  obtain ⟨m, nb, nc, hm, hmg, hnv, hlen, c2, hnc, hnb, x0, x1⟩ := h.under hi
  subst hmg
  have hn := hw.net
  have hil : i < M.l.length := (List.getElem?_eq_some_iff.1 hm).1
  have hml := List.mem_of_getElem? hm
  have IU := isUnder_is (k := i) (v := true) w c2 (by simp; omega)
  have hb1 := boxed (Below.refl _ w) (.cells #[.int .i64 m.g.to, .slice (some ⟨m.blk, 0, none⟩) m.S.size m.cap] 168)
  have DL := del_any (w.alloc (.cells #[.int .i64 m.g.to, .slice (some ⟨m.blk, 0, none⟩) m.S.size m.cap] 168)) (by have := own_keptN h.nr (fun k e => hb1.block k (h.nr.lt k e).2); rw [hnv] at this; exact this) hil (by omega)
  have RD := RowL.new (w := w) (T := 168) [.int .i64 m.g.to, .slice (some ⟨m.blk, 0, none⟩) m.S.size m.cap] rfl
  change RowL (w.alloc (.cells #[.int .i64 m.g.to, .slice (some ⟨m.blk, 0, none⟩) m.S.size m.cap] 168)) w.heap.size [.int .i64 m.g.to, .slice (some ⟨m.blk, 0, none⟩) m.S.size m.cap] at RD
  have HH : Hid (PWo w b M W Gs ∧ (∀ k, G k ↔ allG b M (W.n + W.c) Gs k) ∧ M.nv = .slice (some ⟨nb, 0, none⟩) M.l.length nc ∧ i < M.l.length ∧ WfW W ∧ m ∈ M.l ∧ W.net[i]? = some m.g ∧ RowL (w.alloc (.cells #[.int .i64 m.g.to, .slice (some ⟨m.blk, 0, none⟩) m.S.size m.cap] 168)) w.heap.size [.int .i64 m.g.to, .slice (some ⟨m.blk, 0, none⟩) m.S.size m.cap]) := ⟨h, hG, hnv, hil, hw, hml, hi, RD⟩
  have q1 : (i : Int) < (M.l.length : Int) := by omega
  have q2 : (i : Int) < 300 := by omega
  have hlt := h.box.lt
  clear h hG hnv hm hi hn hlen hil hw hml RD
  go_enter Tryz.func47, Tryz.ntmps47
  go_wp2_with fail
  refine IU.mono ?_
  rintro e w2 ⟨rfl, hw2⟩
  have hw3 := hw2.symm
  clear hw2 IU
  subst hw3
  go_wp2_with fail
  refine DL.mono ?_
  rintro e w3 ⟨rfl, own3, on3⟩
  obtain ⟨D1, D2⟩ := HH.out.1.dropped hb1 HH.out.2.2.1 HH.out.2.2.2.1 own3 on3
  have nne : nb ≠ b := fun e => HH.out.1.sb.2.2 (by rw [HH.out.2.2.1, ← e]; rfl)
  have nlt : nb < w.heap.size := hnb
  have s3 : w.heap.size + 1 ≤ w3.heap.size := by have := on3.size; simpa using this
  have B3 : RowL w3 b _ := (HH.out.1.box.later hb1).kept (on3.block b (by simp; omega) (fun e => by injection e with e; exact nne e.symm)) on3.size
  have R3 : RowL w3 w.heap.size _ := HH.out.2.2.2.2.2.2.2.kept (on3.block w.heap.size (by simp) (fun e => by injection e with e; omega)) on3.size
  have e2 := B3.cell 2 _ rfl
  have f2 := B3.free 2 (by simp)
  have R4 := R3.far ⟨b, 2, none⟩ (.slice (some ⟨nb, 0, none⟩) (M.l.length - 1) nc) (by show b ≠ w.heap.size; omega)
  have r0 := R4.cell 0 _ rfl
  have r1 := R4.cell 1 _ rfl
  have sg := HH.out.1.sg m HH.out.2.2.2.2.2.1
  have ok0 := HH.out.1.gr m HH.out.2.2.2.2.2.1
  have OK4 : m.Ok (w3.setCell ⟨b, 2, none⟩ (.slice (some ⟨nb, 0, none⟩) (M.l.length - 1) nc)) := ok0.kept (D2.block m.blk ok0.own.lt (fun e => e.elim sg.1 sg.2.2.2)) D2.size
  have CM := pw_come m _ ⟨_, Gs, D1, fun _ => Iff.rfl⟩ (HH.out.2.2.2.2.1.drop i) OK4 (HH.out.2.2.2.2.1.to m.g (List.mem_of_getElem? HH.out.2.2.2.2.2.2.1))
  have HT : Hid (Touch (fun k => k = b ∨ M.nv.ownBlock = some k) w (w3.setCell ⟨b, 2, none⟩ (.slice (some ⟨nb, 0, none⟩) (M.l.length - 1) nc))) := D2
  clear DL own3 on3 D1 D2 B3 R3 R4 sg ok0 OK4
  go_wp2_with fail
  refine CM.mono ?_
  rintro e w5 ⟨rfl, W', hC, G5, k1, k2, kt⟩
  go_wp2_with fail
  go_ret
  have inG : ∀ q, allG b { M with nv := .slice (some ⟨nb, 0, none⟩) (M.l.length - 1) nc, l := M.l.eraseIdx i } ((dropW' W i).n + (dropW' W i).c) Gs q → G q := fun q hq => (HH.out.2.1 q).2 (by
    rcases hq with (q | q | q | q | ⟨x, hx, q⟩) | q
    · exact .inl (.inl q)
    · exact .inl (.inr (.inl q))
    · exact .inl (.inr (.inr (.inl q)))
    · exact .inl (.inr (.inr (.inr (.inl (by rw [HH.out.2.2.1]; exact q)))))
    · exact .inl (.inr (.inr (.inr (.inr ⟨x, List.mem_of_mem_eraseIdx hx, q⟩))))
    · exact .inr q)
  have ts := HT.out.size
  refine ⟨rfl, W', ⟨m.g, HH.out.2.2.2.2.2.2.1, hC.out⟩, G5, k1, fun q hq => ?_, ⟨kt.os.trans HT.out.os, kt.tape.trans HT.out.tape, kt.output.trans HT.out.output, Nat.le_trans ts kt.size, fun q hq hn => ?_⟩⟩
  · rcases k2 q hq with r | r
    · exact .inl (inG q r)
    · exact .inr (by omega)
  · exact (kt.block q (by omega) (fun r => hn (inG q r))).trans (HT.out.block q hq (fun e => hn ((HH.out.2.1 q).2 (.inl (e.elim .inl (fun r => .inr (.inr (.inr (.inl r)))))))))
set_option maxRecDepth 100000 in
set_option maxHeartbeats 4000000 in
theorem pw_bring {b : Nat} {G : Nat → Prop} {W : WoS} (w : World) (h : PW w b G W) (hw : WfW W) :
    Calls Tryz.prog 65 #[.pointer (some ⟨b, 0, none⟩)] w fun e w' => e = .returned (.tuple #[]) ∧ ∃ W', Hid (BringTo W W' ∧ WfW W') ∧ PWPo w b G W' w' := by
  have HH : Hid (PW w b G W ∧ WfW W) := ⟨h, hw⟩
  clear h hw
  go_enter Tryz.func65, Tryz.ntmps65
  go_wp2_with fail
  go_loopg [2] (netW W.net) (fun k _ wr => ∃ W1 : WoS, netW W1.net ≤ k ∧ Hid (WfW W1 ∧ PWPo w b G W1 wr ∧ ∀ W', BringTo W1 W' → BringTo W W'))
  case atStart => exact ⟨W, Nat.le_refl _, HH.out.2, PWPo.same HH.out.1 (Below.refl _ _), fun _ h => h⟩
  case round =>
    obtain ⟨W1, hk, HS⟩ := hrel
    obtain ⟨G1, P1⟩ := HS.out.2.1.get
    obtain ⟨M, Gs, P1, hG1⟩ := P1
    have hlen : M.l.length = W1.net.length := by rw [← P1.nl]; simp
    obtain ⟨na, nc, hnv, r⟩ := rowIn_own P1.nr
    have c2 := P1.box.cell 2 _ rfl
    rw [hnv] at c2
    have hrc := r.cap
    have hrl := r.len
    clear r hnv P1 hG1
    by_cases h0 : W1.net = []
    · have q : ¬ 0 < (M.l.length : Int) := by rw [hlen, h0]; simp
      go_wp2_with fail
      go_end0
      exact ⟨rfl, W1, ⟨HS.out.2.2 W1 (.none h0), HS.out.1⟩, HS.out.2.1⟩
    · obtain ⟨g, hg⟩ : ∃ g, W1.net[0]? = some g := by
        cases hn : W1.net with
        | nil => exact absurd hn h0
        | cons x r => exact ⟨x, rfl⟩
      have q : 0 < (M.l.length : Int) := by
        have : W1.net.length ≠ 0 := fun e => h0 (List.eq_nil_of_length_eq_zero e)
        omega
      have DV : Hid (Calls Tryz.prog 47 #[.pointer (some ⟨b, 0, none⟩), .int .i64 0] wr fun e w' => e = .returned (errV 0) ∧ ∃ W', Hid (DeliverTo W1 0 W') ∧ PWPo w b G W' w') := by
        obtain ⟨G1, P1, s1, t1⟩ := HS.out.2.1
        refine (pw_deliver (i := 0) wr P1 HS.out.1 hg).mono fun e w' ⟨he, W', hD, hP⟩ => ⟨he, W', hD, ?_⟩
        obtain ⟨G2, p1, p2, p3⟩ := hP
        have s := t1.size
        refine ⟨G2, p1, fun q hq => ?_, t1.more p3 s1⟩
        rcases p2 q hq with e | e
        · exact s1 q e
        · exact .inr (by omega)
      have HN : Hid (W1.net ≠ []) := h0
      clear hlen h0 hg
      go_wp2_with fail
      refine DV.out.mono ?_
      rintro e w3 ⟨rfl, W2, hD, hP⟩
      rw [show errV 0 = .nilIface from rfl]
      have wt := deliver_weight HS.out.1 hD.out
      go_wp2_with fail
      go_roundg (netW W2.net)
      case measure => omega
      case rel => exact ⟨W2, Nat.le_refl _, HS.out.1.deliver hD.out, hP, fun W' hB => HS.out.2.2 W' (.step HN.out hD.out hB)⟩

end Go.Proofs.YtemiamjnhoeniaaGreatDoor


namespace Go.Proofs.YtemiamjnhoeniaaGreatDoor
open Go.RowKit

structure KeepW (W W' : WoS) : Prop where
  n : W'.n = W.n
  c : W'.c = W.c
  wall : W'.wall = W.wall
  ses : W'.ses = W.ses
  at_ : W'.at_ = W.at_
theorem KeepW.refl (W : WoS) : KeepW W W := ⟨rfl, rfl, rfl, rfl, rfl⟩
theorem KeepW.trans {A B C : WoS} (h : KeepW A B) (k : KeepW B C) : KeepW A C := ⟨k.n.trans h.n, k.c.trans h.c, k.wall.trans h.wall, k.ses.trans h.ses, k.at_.trans h.at_⟩
theorem SameW.keep {W W' : WoS} (h : SameW W W') : KeepW W W' := ⟨h.n, h.c, h.wall, h.ses, h.at_⟩
theorem ComeTo.keep {W W' : WoS} {g : GrS} (h : ComeTo W g W') : KeepW W W' := by
  obtain ⟨to, body⟩ := g
  cases body with
  | tx t =>
    obtain ⟨S', _, rfl⟩ := h
    exact ⟨rfl, rfl, rfl, rfl, rfl⟩
  | ask site v0 v1 v2 v3 =>
    have hc : if 0 ≤ site ∧ site < (W.n : Int) then W' = answerW W to site.toNat v0 v1 v2 v3 else W' = W := h
    split at hc
    · rw [hc]
      have s := sendsW_same site.toNat (missP (W.S to) v0 v1 v2 v3) (setSite W to (knowsS (W.S to) site.toNat v0 v1 v2 v3))
      exact ⟨s.n, s.c, s.wall, s.ses, s.at_⟩
    · rw [hc]
      exact KeepW.refl W
theorem DeliverTo.keep {W W' : WoS} {i : Nat} (h : DeliverTo W i W') : KeepW W W' := by
  obtain ⟨g, _, h⟩ := h
  have k := h.keep
  exact ⟨k.n, k.c, k.wall, k.ses, k.at_⟩
theorem BringTo.keep {W W' : WoS} (h : BringTo W W') : KeepW W W' := by
  induction h with
  | none _ => exact KeepW.refl _
  | step _ h _ ih => exact h.keep.trans ih
theorem AsksTo.keep {k m : Nat} {W W' : WoS} (h : AsksTo k m W W') : KeepW W W' := by
  induction h with
  | zero => exact KeepW.refl _
  | self _ _ ih => exact ih
  | ask _ _ h ih => exact (ih.trans (sendW_same _ _).keep).trans h.keep
theorem RoundTo.keep {m : Nat} {W W' : WoS} (h : RoundTo m W W') : KeepW W W' := by
  induction h with
  | zero => exact KeepW.refl _
  | next _ h ih => exact ih.trans h.keep
theorem CalmTo.keep {W W' : WoS} (h : CalmTo W W') : KeepW W W' := by
  obtain ⟨W1, h1, h2⟩ := h
  exact h1.keep.trans h2.keep
theorem PW.len0 {w : World} {b : Nat} {G : Nat → Prop} {W : WoS} (h : PW w b G W) : ∃ a cap, w.cell? ⟨b, 0, none⟩ = some (.slice a W.n cap) := by
  obtain ⟨M, Gs, h, _⟩ := h
  obtain ⟨pa, pc, hpv, r⟩ := rowIn_own h.pr
  have c := h.box.cell 0 _ rfl
  rw [hpv] at c
  exact ⟨pa, pc, c⟩
set_option maxRecDepth 100000 in
set_option maxHeartbeats 4000000 in
theorem pw_calm {b : Nat} {G : Nat → Prop} {W : WoS} (w : World) (h : PW w b G W) (hw : WfW W) :
    Calls Tryz.prog 23 #[.pointer (some ⟨b, 0, none⟩)] w fun e w' => e = .returned (.tuple #[]) ∧ ∃ W', Hid (CalmTo W W' ∧ WfW W') ∧ PWPo w b G W' w' := by
  have BR := pw_bring w h hw
  have N4 : Hid (W.n ≤ 4) := hw.n4
  clear h hw
  go_enter Tryz.func23, Tryz.ntmps23
  go_wp2_with fail
  refine BR.mono ?_
  rintro e w1 ⟨rfl, W1, HB, hP⟩
  have HP : Hid (PWPo w b G W1 w1) := hP
  obtain ⟨G1, P1⟩ := HP.out.get
  obtain ⟨pa, pc, c0⟩ := P1.len0
  have hn : W1.n = W.n := HB.out.1.keep.n
  rw [hn] at c0
  have HN : Hid (W1.n = W.n) := hn
  clear BR hP hn P1
  go_wp2_with fail
  clear c0
  go_loopw [11] (fun iv wr => ∃ (k : Nat) (z : Int) (W2 : WoS), k ≤ W.n ∧ z = k ∧ iv = .int .i64 z ∧ Hid (WfW W2 ∧ W2.n = W.n ∧ RoundTo k W1 W2 ∧ PWPo w b G W2 wr)) (fun iv _ => W.n - (intOf iv).toNat)
  case atStart => exact ⟨0, 0, W1, by omega, rfl, rfl, HB.out.2, HN.out, .zero, HP.out⟩
  case round =>
    clear HP
    obtain ⟨k, z, W2, hk, hz, rfl, HS⟩ := hrel
    have HZ : Hid (z = k) := hz
    by_cases hlt : k < W.n
    · have g1 : z < (W.n : Int) := by omega
      have g3 : 0 ≤ z := by omega
      have g4 : z < 4 := by have := N4.out; omega
      obtain ⟨G2, P2⟩ := HS.out.2.2.2.get
      obtain ⟨pa2, pc2, c0⟩ := P2.len0
      rw [HS.out.2.1] at c0
      clear hz P2
      go_wp2_with fail
      clear c0
      go_loopw [19] (fun jv wr => ∃ (m : Nat) (y : Int) (W3 : WoS), m ≤ W.n ∧ y = m ∧ jv = .int .i64 y ∧ Hid (WfW W3 ∧ W3.n = W.n ∧ AsksTo k m W2 W3 ∧ PWPo w b G W3 wr)) (fun jv _ => W.n - (intOf jv).toNat)
      case atStart => exact ⟨0, 0, W2, by omega, rfl, rfl, HS.out.1, HS.out.2.1, .zero, HS.out.2.2.2⟩
      case round =>
        obtain ⟨m, y, W3, hm, hy, rfl, HT⟩ := hrel
        have HY : Hid (y = m) := hy
        by_cases hml : m < W.n
        · have f1 : y < (W.n : Int) := by omega
          have f3 : 0 ≤ y := by omega
          have f4 : y < 4 := by have := N4.out; omega
          by_cases hmk : m = k
          · have f5 : y = z := by have := HZ.out; omega
            clear hy
            go_wp2_with fail
            go_roundw
            case rel => exact ⟨m + 1, y + 1, W3, by omega, by have := HY.out; omega, by go_num, HT.out.1, HT.out.2.1, .self HT.out.2.2.1 hmk, HT.out.2.2.2⟩
            case measure => simp [intOf]; have := HY.out; omega
          · have f5 : ¬ y = z := by have := HZ.out; omega
            have AK : Hid (Calls Tryz.prog 44 #[.pointer (some ⟨b, 0, none⟩), .int .i64 z, .int .i64 y] wr fun e w' => e = .returned (errV 0) ∧ PWPo w b G (askW W3 k m) w') := by
              obtain ⟨G3, P3, s3, t3⟩ := HT.out.2.2.2
              have := pw_ask wr P3 HT.out.1 (i := k) (o := m) (by rw [HT.out.2.1]; exact hlt) (by rw [HT.out.2.1]; exact hml) (fun e => hmk e.symm)
              rw [← HZ.out, ← HY.out] at this
              refine this.mono fun e w' ⟨he, hP⟩ => ⟨he, ?_⟩
              obtain ⟨Gx, p1, p2, p3⟩ := hP
              have s := t3.size
              refine ⟨Gx, p1, fun q hq => ?_, t3.more p3 s3⟩
              rcases p2 q hq with e | e
              · exact s3 q e
              · exact .inr (by omega)
            have HM : Hid (m ≠ k ∧ k < W.n ∧ m < W.n) := ⟨hmk, hlt, hml⟩
            clear hy hmk
            go_wp2_with fail
            refine AK.out.mono ?_
            rintro e w4 ⟨rfl, hP4⟩
            rw [show errV 0 = .nilIface from rfl]
            have WA : WfW (askW W3 k m) := HT.out.1.send (by show m < W3.n; rw [HT.out.2.1]; exact HM.out.2.2)
            obtain ⟨G4, P4, s4, t4⟩ := hP4
            have BR2 : Hid (Calls Tryz.prog 65 #[.pointer (some ⟨b, 0, none⟩)] w4 fun e w' => e = .returned (.tuple #[]) ∧ ∃ W', Hid (BringTo (askW W3 k m) W' ∧ WfW W') ∧ PWPo w b G W' w') := (pw_bring w4 P4 WA).mono fun e w' ⟨he, W', hB, hP⟩ => ⟨he, W', hB, by
              obtain ⟨Gx, p1, p2, p3⟩ := hP
              have s := t4.size
              refine ⟨Gx, p1, fun q hq => ?_, t4.more p3 s4⟩
              rcases p2 q hq with e | e
              · exact s4 q e
              · exact .inr (by omega)⟩
            clear AK P4 s4 t4 WA
            go_wp2_with fail
            refine BR2.out.mono ?_
            rintro e w5 ⟨rfl, W5, HB5, hP5⟩
            go_wp2_with fail
            go_roundw
            case rel => exact ⟨m + 1, y + 1, W5, by omega, by have := HY.out; omega, by go_num, HB5.out.2, (HB5.out.1.keep.n.trans (sendW_same _ _).n).trans HT.out.2.1, .ask HT.out.2.2.1 HM.out.1 HB5.out.1, hP5⟩
            case measure => simp [intOf]; have := HY.out; omega
        · have f1 : ¬ y < (W.n : Int) := by omega
          have e : m = W.n := by omega
          clear hy
          go_wp2_with fail
          go_roundw
          case rel => exact ⟨k + 1, z + 1, W3, by omega, by have := HZ.out; omega, by go_num, HT.out.1, HT.out.2.1, .next HS.out.2.2.1 (by rw [HS.out.2.1, ← e]; exact HT.out.2.2.1), HT.out.2.2.2⟩
          case measure => simp [intOf]; have := HZ.out; omega
    · have g1 : ¬ z < (W.n : Int) := by omega
      have e : k = W.n := by omega
      clear hz
      go_wp2_with fail
      go_end0
      exact ⟨rfl, W2, ⟨⟨W1, HB.out.1, by rw [HN.out, ← e]; exact HS.out.2.2.1⟩, HS.out.1⟩, HS.out.2.2.2⟩

end Go.Proofs.YtemiamjnhoeniaaGreatDoor


namespace Go.Proofs.YtemiamjnhoeniaaGreatDoor
open Go.RowKit

theorem pairsC_succ (bp : Nat → Nat) (x : Nat → Int) (n : Nat) : pairsC bp x (n + 1) = pairsC bp x n ++ pairC (bp n) (x n) := by
  unfold pairsC
  rw [List.range_succ, List.flatMap_append]
  simp
theorem pairsC_set (bp : Nat → Nat) (x : Nat → Int) (y : Int) {i : Nat} : ∀ n, i < n → (pairsC bp x n).set (i * 2 + 1) (.int .i64 y) = pairsC bp (setN x i y) n
  | 0, h => by omega
  | n + 1, h => by
    rw [pairsC_succ, pairsC_succ]
    have hl := pairsC_length bp x n
    by_cases q : i = n
    · subst q
      rw [List.set_append, if_neg (by rw [hl]; omega), hl, setN_same]
      have e : pairsC bp (setN x i y) i = pairsC bp x i := by
        unfold pairsC
        rw [List.flatMap_def, List.flatMap_def]
        congr 1
        refine List.map_congr_left (fun j hj => ?_)
        have := List.mem_range.1 hj
        rw [setN_ne _ _ (by omega)]
      rw [e, show i * 2 + 1 - i * 2 = 1 by omega]
      rfl
    · rw [List.set_append, if_pos (by rw [hl]; omega), pairsC_set bp x y n (by omega), setN_ne _ _ (fun e => q e.symm)]
section
variable {w : World} {b cb cc i : Nat} {M : WoM} {W : WoS} {Gs : Nat → Nat → Prop}
theorem PWo.setAt (h : PWo w b M W Gs) (hcv : M.cv = .slice (some ⟨cb, 0, none⟩) W.c cc) (hi : i < W.c) (to : Nat) : PWo (w.setCell ⟨cb, i * 2 + 1, none⟩ (.int .i64 to)) b M { W with at_ := setN W.at_ i to } Gs ∧ Touch (fun k => k = cb) w (w.setCell ⟨cb, i * 2 + 1, none⟩ (.int .i64 to)) := by
  have gn : M.cv.ownBlock = some cb := by rw [hcv]; rfl
  have kS : ∀ k, k ≠ cb → (w.setCell ⟨cb, i * 2 + 1, none⟩ (.int .i64 to)).heap[k]? = w.heap[k]? := fun k hk => Below.heap_setCell _ _ _ _ (fun e => hk e)
  have sS : (w.setCell ⟨cb, i * 2 + 1, none⟩ (.int .i64 to)).heap.size = w.heap.size := by simp [World.setCell]
  refine ⟨⟨h.box.kept (kS b (fun e => h.sb.2.1 (by rw [gn, e]))) (by rw [sS]; exact Nat.le_refl _), own_keptN h.pr (fun k e => kS k (fun q => ((h.sr k).1 e).1 (by rw [gn, q]))), ?_, own_keptN h.nr (fun k e => kS k (fun q => (h.sr k).2 (by rw [gn, q]) e)), h.nl, fun x hx => (h.gr x hx).kept (kS _ (fun q => (h.sg x hx).2.2.1 (by rw [gn, q]))) (by rw [sS]; exact Nat.le_refl _), h.fam.to (fun j k hj e => kS k (fun q => (h.fam.free k (.inr (.inr (.inl (by rw [gn, q]))))).2 j hj e)) (by rw [sS]; exact Nat.le_refl _) (fun k hk => ⟨.inl hk, by rw [sS]; exact h.ltF k hk⟩), h.sb, h.sr, h.sg⟩, Touch.setCell _ _ _ rfl⟩
  have o := h.cr
  rw [hcv] at o ⊢
  have s := (o.stored (i * 2 + 1) (.int .i64 to)).1
  rw [pairsC_set _ _ _ _ hi] at s
  have e : (fun k => ((setN W.at_ i to k : Nat) : Int)) = setN (fun k => (W.at_ k : Int)) i (to : Int) := by
    funext k
    unfold setN
    split <;> rfl
  show World.ownsRow _ 0 _ 2 _ W.c (pairsC M.bs (fun k => ((setN W.at_ i to k : Nat) : Int)) W.c)
  rw [e]
  exact s
theorem PWo.setWall (h : PWo w b M W Gs) (hpv : M.pv = .slice (some ⟨cb, 0, none⟩) W.n cc) (hi : i < W.n) (x : Int) : PWo (w.setCell ⟨cb, i * 2 + 1, none⟩ (.int .i64 x)) b M { W with wall := setN W.wall i x } Gs ∧ Touch (fun k => k = cb) w (w.setCell ⟨cb, i * 2 + 1, none⟩ (.int .i64 x)) := by
  have gn : M.pv.ownBlock = some cb := by rw [hpv]; rfl
  have kS : ∀ k, k ≠ cb → (w.setCell ⟨cb, i * 2 + 1, none⟩ (.int .i64 x)).heap[k]? = w.heap[k]? := fun k hk => Below.heap_setCell _ _ _ _ (fun e => hk e)
  have sS : (w.setCell ⟨cb, i * 2 + 1, none⟩ (.int .i64 x)).heap.size = w.heap.size := by simp [World.setCell]
  refine ⟨⟨h.box.kept (kS b (fun e => h.sb.1 (by rw [gn, e]))) (by rw [sS]; exact Nat.le_refl _), ?_, own_keptN h.cr (fun k e => kS k (fun q => ((h.sr cb).1 gn).1 (by rw [← q]; exact e))), own_keptN h.nr (fun k e => kS k (fun q => ((h.sr cb).1 gn).2 (by rw [← q]; exact e))), h.nl, fun x hx => (h.gr x hx).kept (kS _ (fun q => (h.sg x hx).2.1 (by rw [gn, q]))) (by rw [sS]; exact Nat.le_refl _), h.fam.to (fun j k hj e => kS k (fun q => (h.fam.free k (.inr (.inl (by rw [gn, q])))).2 j hj e)) (by rw [sS]; exact Nat.le_refl _) (fun k hk => ⟨.inl hk, by rw [sS]; exact h.ltF k hk⟩), h.sb, h.sr, h.sg⟩, Touch.setCell _ _ _ rfl⟩
  have o := h.pr
  rw [hpv] at o ⊢
  have s := (o.stored (i * 2 + 1) (.int .i64 x)).1
  rw [pairsC_set _ _ _ _ hi] at s
  exact s
end
def moveE (W : WoS) (i : Nat) : Int := if (W.ses i).opn = true then 6 else 0
def moveW (W : WoS) (i to : Nat) : WoS := if (W.ses i).opn = true then W else { W with at_ := setN W.at_ i to }
set_option maxRecDepth 100000 in
set_option maxHeartbeats 4000000 in
theorem pw_move {b : Nat} {G : Nat → Prop} {W : WoS} (w : World) (h : PW w b G W) {i to : Nat} (hi : i < W.c) (ht : to < W.n) :
    Calls Tryz.prog 41 #[.pointer (some ⟨b, 0, none⟩), .int .i64 i, .int .i64 to] w fun e w' => e = .returned (errV (moveE W i)) ∧ PWPo w b G (moveW W i to) w' := by
  obtain ⟨M, Gs, h, hG⟩ := h
  obtain ⟨ca, cc, hcv, r⟩ := rowIn_own h.cr
  obtain ⟨cb, rfl, hcb, hc⟩ : ∃ g, ca = some ⟨g, 0, none⟩ ∧ g < w.heap.size ∧ ∀ j u, (pairsC M.bs (fun k => (W.at_ k : Int)) W.c)[j]? = some u → w.cell? ⟨g, j, none⟩ = some u := by
    rcases r.held with h0 | h0
    · omega
    · exact h0
  have c1 := h.box.cell 1 _ rfl
  rw [hcv] at c1
  obtain ⟨pb, pc, c0, hpc, hpb, y0, y1⟩ := h.place ht
  have x0 := hc _ _ (pairs_at hi).1
  have x1 := hc _ _ (pairs_at hi).2
  have IC := isClient_is (k := i) (v := true) w c1 (by simp; omega)
  have IS := wIsSite_is (k := to) (v := true) w c0 (by simp; omega)
  have OP := popen_any w (h.sess hi)
  have hlt := h.box.lt
  have HH : Hid (PWo w b M W Gs ∧ (∀ k, G k ↔ allG b M (W.n + W.c) Gs k) ∧ M.cv = .slice (some ⟨cb, 0, none⟩) W.c cc ∧ i < W.c) := ⟨h, hG, hcv, hi⟩
  have q1 : (i : Int) < (W.c : Int) := by omega
  have hrl := r.len
  cases ho : (W.ses i).opn
  · have HE : Hid (errV (moveE W i) = .nilIface ∧ moveW W i to = { W with at_ := setN W.at_ i to }) := ⟨by unfold moveE; rw [ho]; rfl, by unfold moveW; rw [ho]; rfl⟩
    rw [ho] at OP
    clear h hG hc r hcv ho
    go_enter Tryz.func41, Tryz.ntmps41
    go_wp2_with fail
    refine IC.mono ?_
    rintro e w2 ⟨rfl, hw2⟩
    have hw3 := hw2.symm
    clear hw2 IC
    subst hw3
    go_wp2_with fail
    refine IS.mono ?_
    rintro e w2 ⟨rfl, hw2⟩
    have hw3 := hw2.symm
    clear hw2 IS
    subst hw3
    go_wp2_with fail
    refine OP.mono ?_
    rintro e w3 ⟨rfl, hb3⟩
    have H3 := HH.out.1.later hb3
    have o3 := H3.cr
    rw [HH.out.2.2.1] at o3
    have z1 := cell_later hb3 c1
    have z2 := cell_later hb3 x1
    have fz : w3.frozen? ⟨cb, i * 2 + 1, none⟩ = false := by
      rcases o3.2 with ⟨q, _⟩ | ⟨g2, cap2, cur, q, _, hg, _⟩
      · cases q
      · injection q with q1 q2 q3
        injection q1 with q1
        injection q1 with q1
        subst q1
        unfold World.frozen?
        rw [hg]
        simp
    obtain ⟨D1, D2⟩ := H3.setAt HH.out.2.2.1 HH.out.2.2.2 to
    have HD : Hid (PWo (w3.setCell ⟨cb, i * 2 + 1, none⟩ (.int .i64 to)) b M { W with at_ := setN W.at_ i to } Gs ∧ Touch (fun k => k = cb) w3 (w3.setCell ⟨cb, i * 2 + 1, none⟩ (.int .i64 to)) ∧ Below w.heap.size w w3) := ⟨D1, D2, hb3⟩
    clear OP H3 D1 D2 o3
    go_wp2_with fail
    go_ret
    refine ⟨by rw [HE.out.1]; rfl, ?_⟩
    rw [HE.out.2]
    have gn : M.cv.ownBlock = some cb := by rw [HH.out.2.2.1]; rfl
    have s3 := HD.out.2.2.size
    refine ⟨_, ⟨M, Gs, HD.out.1, fun _ => Iff.rfl⟩, fun k hk => .inl ((HH.out.2.1 k).2 hk), ?_⟩
    exact ⟨HD.out.2.1.os.trans HD.out.2.2.os, HD.out.2.1.tape.trans HD.out.2.2.tape, HD.out.2.1.output.trans HD.out.2.2.output, Nat.le_trans s3 HD.out.2.1.size, fun k hk hn => (HD.out.2.1.block k (by omega) (fun e => hn ((HH.out.2.1 k).2 (.inl (.inr (.inr (.inl (by rw [gn, e])))))))).trans (HD.out.2.2.block k hk)⟩
  · have HE : Hid (errV (moveE W i) = .iface 29 (.int .i64 6) ∧ moveW W i to = W) := ⟨by unfold moveE; rw [ho]; rfl, by unfold moveW; rw [ho]; rfl⟩
    rw [ho] at OP
    clear h hG hc r hcv ho
    go_enter Tryz.func41, Tryz.ntmps41
    go_wp2_with fail
    refine IC.mono ?_
    rintro e w2 ⟨rfl, hw2⟩
    have hw3 := hw2.symm
    clear hw2 IC
    subst hw3
    go_wp2_with fail
    refine IS.mono ?_
    rintro e w2 ⟨rfl, hw2⟩
    have hw3 := hw2.symm
    clear hw2 IS
    subst hw3
    go_wp2_with fail
    refine OP.mono ?_
    rintro e w3 ⟨rfl, hb3⟩
    go_wp2_with fail
    go_ret
    refine ⟨by rw [HE.out.1]; rfl, ?_⟩
    rw [HE.out.2]
    exact PWPo.same ⟨M, Gs, HH.out.1, HH.out.2.1⟩ hb3

end Go.Proofs.YtemiamjnhoeniaaGreatDoor


namespace Go.Proofs.YtemiamjnhoeniaaGreatDoor
open Go.RowKit

def minT (x : Int) : Int := if x ≤ 1099511627776 then x else 1099511627776
def goesW (W : WoS) (i : Nat) (by_ : Int) : WoS := { W with wall := setN W.wall i (minT (W.wall i + by_)) }
set_option maxRecDepth 100000 in
set_option maxHeartbeats 4000000 in
theorem pw_goes {b : Nat} {G : Nat → Prop} {W : WoS} (w : World) (h : PW w b G W) {i : Nat} (hi : i < W.n) {y : Int} (hy0 : 0 ≤ y) (hy1 : y ≤ 1099511627776) (hl0 : 0 ≤ W.wall i) (hl1 : W.wall i ≤ 1099511627776) :
    Calls Tryz.prog 42 #[.pointer (some ⟨b, 0, none⟩), .int .i64 i, .int .i64 y] w fun e w' => e = .returned (errV 0) ∧ PWPo w b G (goesW W i y) w' := by
  obtain ⟨M, Gs, h, hG⟩ := h
  obtain ⟨pa, pc, hpv, r⟩ := rowIn_own h.pr
  obtain ⟨pb, rfl, hpb, hc⟩ : ∃ g, pa = some ⟨g, 0, none⟩ ∧ g < w.heap.size ∧ ∀ j u, (pairsC M.bp W.wall W.n)[j]? = some u → w.cell? ⟨g, j, none⟩ = some u := by
    rcases r.held with h0 | h0
    · omega
    · exact h0
  have c0 := h.box.cell 0 _ rfl
  rw [hpv] at c0
  have x1 := hc _ _ (pairs_at hi).2
  have IS := wIsSite_is (k := i) (v := true) w c0 (by simp; omega)
  have hlt := h.box.lt
  have HH : Hid (PWo w b M W Gs ∧ (∀ k, G k ↔ allG b M (W.n + W.c) Gs k) ∧ M.pv = .slice (some ⟨pb, 0, none⟩) W.n pc ∧ i < W.n) := ⟨h, hG, hpv, hi⟩
  have q1 : (i : Int) < (W.n : Int) := by omega
  have hrl := r.len
  have fz : w.frozen? ⟨pb, i * 2 + 1, none⟩ = false := by
    have o3 := h.pr
    rw [hpv] at o3
    rcases o3.2 with ⟨q, _⟩ | ⟨g2, cap2, cur, q, _, hg, _⟩
    · cases q
    · injection q with q1 q2 q3
      injection q1 with q1
      injection q1 with q1
      subst q1
      unfold World.frozen?
      rw [hg]
      simp
  obtain ⟨wl, hwl⟩ : ∃ wl, W.wall i = wl := ⟨_, rfl⟩
  rw [hwl] at x1 hl0 hl1
  have hwz : wrap64 (wl + y) = wl + y := by unfold wrap64; omega
  have HE : Hid (goesW W i y = { W with wall := setN W.wall i (minT (wl + y)) }) := by show _ = _; unfold goesW; rw [hwl]
  have HF : Hid (∀ w', w' = w.drew.setCell ⟨pb, i * 2 + 1, none⟩ (.int .i64 (minT (wl + y))) → PWPo w b G { W with wall := setN W.wall i (minT (wl + y)) } w') := fun w' e => by
    subst e
    obtain ⟨D1, D2⟩ := (HH.out.1.later (Below.refl _ w).drew).setWall HH.out.2.2.1 HH.out.2.2.2 (minT (wl + y))
    have gn : M.pv.ownBlock = some pb := by rw [HH.out.2.2.1]; rfl
    refine ⟨_, ⟨M, Gs, D1, fun _ => Iff.rfl⟩, fun k hk => .inl ((HH.out.2.1 k).2 hk), ?_⟩
    have t := (Touch.ofBelow (F := fun k => k = pb) (Below.refl _ w).drew).trans D2
    exact ⟨t.os, t.tape, t.output, t.size, fun k hk hn => t.block k hk (fun e => hn ((HH.out.2.1 k).2 (.inl (.inr (.inl (by rw [gn, e]))))))⟩
  clear h hG hc r hpv hwl
  by_cases hm : wl + y ≤ 1099511627776
  · have HM : Hid (minT (wl + y) = wl + y) := if_pos hm
    go_enter Tryz.func42, Tryz.ntmps42
    go_wp2_with fail
    refine IS.mono ?_
    rintro e w2 ⟨rfl, hw2⟩
    have hw3 := hw2.symm
    clear hw2 IS
    subst hw3
    go_wp2_with fail
    go_region
    all_goals
      go_wp2_with fail
      go_ret
      refine ⟨rfl, ?_⟩
      rw [HE.out]
      exact HF.out _ (by rw [HM.out]; rfl)
  · have HM : Hid (minT (wl + y) = 1099511627776) := if_neg hm
    go_enter Tryz.func42, Tryz.ntmps42
    go_wp2_with fail
    refine IS.mono ?_
    rintro e w2 ⟨rfl, hw2⟩
    have hw3 := hw2.symm
    clear hw2 IS
    subst hw3
    go_wp2_with fail
    go_region
    all_goals
      go_wp2_with fail
      go_ret
      refine ⟨rfl, ?_⟩
      rw [HE.out]
      exact HF.out _ (by rw [HM.out]; rfl)

end Go.Proofs.YtemiamjnhoeniaaGreatDoor


namespace Go.Proofs.YtemiamjnhoeniaaGreatDoor
open Go.RowKit

theorem site_results {tmps : Array Value} {w : World} {b4 : Nat} {p0 p1 p2 p3 : Int} {v5 v6 v7 v8 : Value} (h4 : RowL w b4 [.int .i64 p0, .int .i64 p1, .int .i64 p2, .int .i64 p3]) (t4 : tmps[4]? = some (.pointer (some ⟨b4, 0, none⟩))) (t5 : tmps[5]? = some v5) (t6 : tmps[6]? = some v6) (t7 : tmps[7]? = some v7) (t8 : tmps[8]? = some v8) :
    (results Tryz.f14 tmps).run Tryz.prog w = .ok (.tuple #[.agg #[.int .i64 p0, .int .i64 p1, .int .i64 p2, .int .i64 p3], v5, v6, v7, v8]) w := by
  have z0 := h4.cell 0 _ rfl
  have z1 := h4.cell 1 _ rfl
  have z2 := h4.cell 2 _ rfl
  have z3 := h4.cell 3 _ rfl
  simp [results, Tryz.results14, go_sem, t4, t5, t6, t7, t8, z0, z1, z2, z3]
theorem row_set4 {W : World} {b : Nat} (h : RowL W b [.int .i64 0, .int .i64 0, .int .i64 0, .int .i64 0]) (x0 x1 x2 x3 : Int) : RowL ((((W.setCell ⟨b, 0, none⟩ (.int .i64 x0)).setCell ⟨b, 1, none⟩ (.int .i64 x1)).setCell ⟨b, 2, none⟩ (.int .i64 x2)).setCell ⟨b, 3, none⟩ (.int .i64 x3)) b [.int .i64 x0, .int .i64 x1, .int .i64 x2, .int .i64 x3] :=
  (((h.set 0 _ (by simp)).set 1 _ (by simp)).set 2 _ (by simp)).set 3 _ (by simp)
theorem row_block4 {W : World} {b k : Nat} (hk : k ≠ b) (x0 x1 x2 x3 : Int) : ((((W.setCell ⟨b, 0, none⟩ (.int .i64 x0)).setCell ⟨b, 1, none⟩ (.int .i64 x1)).setCell ⟨b, 2, none⟩ (.int .i64 x2)).setCell ⟨b, 3, none⟩ (.int .i64 x3)).heap[k]? = W.heap[k]? := by
  have e : ∀ (V : World) (p : Addr) (u : Value), p.block = b → (V.setCell p u).heap[k]? = V.heap[k]? := fun V p u hp => Below.heap_setCell _ _ _ _ (fun q => hk (q.trans hp))
  rw [e _ _ _ rfl, e _ _ _ rfl, e _ _ _ rfl, e _ _ _ rfl]
theorem below_set4 {n b : Nat} {w W : World} (h : Below n w W) (hb : n ≤ b) (x0 x1 x2 x3 : Int) : Below n w ((((W.setCell ⟨b, 0, none⟩ (.int .i64 x0)).setCell ⟨b, 1, none⟩ (.int .i64 x1)).setCell ⟨b, 2, none⟩ (.int .i64 x2)).setCell ⟨b, 3, none⟩ (.int .i64 x3)) :=
  (((h.setCell (p := ⟨b, 0, none⟩) hb _).setCell (p := ⟨b, 1, none⟩) hb _).setCell (p := ⟨b, 2, none⟩) hb _).setCell (p := ⟨b, 3, none⟩) hb _
theorem own_base {w : World} {B B' k n : Nat} {T : TypeId} {v : Value} {xs : List Value} (h : w.ownsRow B T k v n xs) (hB : B' ≤ B) : w.ownsRow B' T k v n xs :=
  ⟨h.1, h.2.imp (fun q => q) (fun ⟨g, cap, cur, e, hb, r⟩ => ⟨g, cap, cur, e, Nat.le_trans hB hb, r⟩)⟩
set_option maxRecDepth 100000 in
set_option maxHeartbeats 8000000 in
theorem pw_site {b : Nat} {G : Nat → Prop} {W : WoS} (w : World) (h : PW w b G W) (hw : WfW W) {i : Nat} (hi : i < W.n) :
    Calls Tryz.prog 14 #[.pointer (some ⟨b, 0, none⟩), .int .i64 i] w fun e w' => ∃ v, e = .returned (.tuple #[.agg #[.int .i64 (W.S i).a0, .int .i64 (W.S i).a1, .int .i64 (W.S i).a2, .int .i64 (W.S i).a3], .int .i64 (W.S i).waits.length, v, .int .i64 (W.S i).l.length, .nilIface]) ∧ w'.ownsRow w.heap.size 9 1 v 8 (toldC (W.S i).a0 (W.S i).a1 (W.S i).a2 (W.S i).a3 (W.S i).l 8) ∧ Below w.heap.size w w' := by
  obtain ⟨M, Gs, h, hG⟩ := h
  have hb0 := boxed (Below.refl _ w) (.cells #[.int .i64 0, .int .i64 0, .int .i64 0, .int .i64 0] 47)
  have R0 := RowL.new (w := w) (T := 47) [.int .i64 0, .int .i64 0, .int .i64 0, .int .i64 0] rfl
  change RowL (w.alloc (.cells #[.int .i64 0, .int .i64 0, .int .i64 0, .int .i64 0] 47)) w.heap.size [.int .i64 0, .int .i64 0, .int .i64 0, .int .i64 0] at R0
  have P0 := (h.site hi).later hb0
  obtain ⟨pb, pc, c0, hpc, hpb, y0, y1⟩ := (h.later hb0).place hi
  have hlt := (h.later hb0).box.lt
  have IS := wIsSite_is (k := i) (v := true) _ c0 (by simp; omega)
  have AP := applied_any _ P0
  have HH : Hid (PS (w.alloc (.cells #[.int .i64 0, .int .i64 0, .int .i64 0, .int .i64 0] 47)) (M.bp i) (Gs i) (W.S i) ∧ InvS (W.S i) ∧ RowL (w.alloc (.cells #[.int .i64 0, .int .i64 0, .int .i64 0, .int .i64 0] 47)) w.heap.size [.int .i64 0, .int .i64 0, .int .i64 0, .int .i64 0]) := ⟨P0, hw.inv i hi, R0⟩
  have q1 : (i : Int) < (W.n : Int) := by omega
  clear h hG hw P0 R0
  go_enter Tryz.func14, Tryz.ntmps14
  go_wp2_with fail
  refine IS.mono ?_
  rintro e w2 ⟨rfl, hw2⟩
  have hw3 := hw2.symm
  clear hw2 IS
  subst hw3
  go_wp2_with fail
  refine AP.mono ?_
  rintro e w3 ⟨rfl, hb3⟩
  have WT := waits_any w3 (HH.out.1.later hb3)
  clear AP
  go_wp2_with fail
  refine WT.mono ?_
  rintro e w4 ⟨rfl, hb4⟩
  have hb34 := behind hb3 hb4
  have AL := pall_any w4 (HH.out.1.later hb34) HH.out.2.1
  clear WT
  go_wp2_with fail
  refine AL.mono ?_
  rintro e w5 ⟨v, rfl, own5, hb5⟩
  have hb35 := behind hb34 hb5
  have MN := pmany_any w5 (HH.out.1.later hb35) HH.out.2.1
  clear AL
  go_wp2_with fail
  refine MN.mono ?_
  rintro e w6 ⟨rfl, hb6⟩
  have hb36 := behind hb35 hb6
  have R6 := HH.out.2.2.later hb36
  have s4 : w.heap.size < w4.heap.size := by have := hb34.size; simp at this; omega
  have own6 := own_keptN own5 (fun k e => hb6.block k (own5.lt k e).2)
  have HO : Hid (w6.ownsRow w4.heap.size 9 1 v 8 (toldC (W.S i).a0 (W.S i).a1 (W.S i).a2 (W.S i).a3 (W.S i).l 8) ∧ RowL w6 w.heap.size [.int .i64 0, .int .i64 0, .int .i64 0, .int .i64 0] ∧ Below w.heap.size w w6) := ⟨own6, R6, behind hb0 hb36⟩
  have a0 := R6.cell 0 _ rfl
  have a1 := R6.cell 1 _ rfl
  have a2 := R6.cell 2 _ rfl
  have a3 := R6.cell 3 _ rfl
  have f0 := R6.free 0 (by simp)
  have f1 := R6.free 1 (by simp)
  have f2 := R6.free 2 (by simp)
  have f3 := R6.free 3 (by simp)
  clear MN own5 own6 R6
  go_wp2_with fail
  have RZ := row_set4 HO.out.2.1 (W.S i).a0 (W.S i).a1 (W.S i).a2 (W.S i).a3
  have bZ := below_set4 HO.out.2.2 (Nat.le_refl _) (W.S i).a0 (W.S i).a1 (W.S i).a2 (W.S i).a3
  have oZ := own_keptN HO.out.1 (fun k e => row_block4 (b := w.heap.size) (fun q => by have := (HO.out.1.lt k e).1; omega) (W.S i).a0 (W.S i).a1 (W.S i).a2 (W.S i).a3)
  refine bodyPost_ret (site_results RZ rfl rfl rfl rfl rfl) rfl ⟨v, rfl, ?_, bZ⟩
  exact own_base oZ (by omega)

end Go.Proofs.YtemiamjnhoeniaaGreatDoor


namespace Go.Proofs.YtemiamjnhoeniaaGreatDoor
open Go.RowKit

def swV (W : WoS) (k : Nat) : Nat → V4
  | 0 => stabS (W.S k) (cutN W.n)
  | j + 1 => if W.at_ j = k ∧ (W.ses j).opn = true then ⟨minZ (swV W k j).v0 (W.ses j).s0, minZ (swV W k j).v1 (W.ses j).s1, minZ (swV W k j).v2 (W.ses j).s2, minZ (swV W k j).v3 (W.ses j).s3⟩ else swV W k j
def v4C (v : V4) : List Value := [.int .i64 v.v0, .int .i64 v.v1, .int .i64 v.v2, .int .i64 v.v3]
def sweepW (W : WoS) (k : Nat) : WoS := setSite W k { W.S k with l := sweepL (minZ (swV W k W.c).v0 (W.S k).a0) (minZ (swV W k W.c).v1 (W.S k).a1) (minZ (swV W k W.c).v2 (W.S k).a2) (minZ (swV W k W.c).v3 (W.S k).a3) (W.S k).l }
theorem row_set4' {W : World} {b : Nat} {y0 y1 y2 y3 : Int} (h : RowL W b [.int .i64 y0, .int .i64 y1, .int .i64 y2, .int .i64 y3]) (x0 x1 x2 x3 : Int) : RowL ((((W.setCell ⟨b, 0, none⟩ (.int .i64 x0)).setCell ⟨b, 1, none⟩ (.int .i64 x1)).setCell ⟨b, 2, none⟩ (.int .i64 x2)).setCell ⟨b, 3, none⟩ (.int .i64 x3)) b (v4C ⟨x0, x1, x2, x3⟩) :=
  (((h.set 0 _ (by simp)).set 1 _ (by simp)).set 2 _ (by simp)).set 3 _ (by simp)
set_option maxRecDepth 100000 in
set_option maxHeartbeats 8000000 in
theorem pw_sweep {b : Nat} {G : Nat → Prop} {W : WoS} (w : World) (h : PW w b G W) (hw : WfW W) {i : Nat} (hi : i < W.n) :
    Calls Tryz.prog 52 #[.pointer (some ⟨b, 0, none⟩), .int .i64 i] w fun e w' => e = .returned (errV 0) ∧ PWPo w b G (sweepW W i) w' := by
  obtain ⟨M, Gs, h, hG⟩ := h
  have HH : Hid (PWo w b M W Gs ∧ (∀ k, G k ↔ allG b M (W.n + W.c) Gs k) ∧ WfW W ∧ i < W.n) := ⟨h, hG, hw, hi⟩
  obtain ⟨pb, pc, c0, hpc, hpb, y0, y1⟩ := h.place hi
  have hlt := h.box.lt
  have IS := wIsSite_is (k := i) (v := true) w c0 (by simp; omega)
  have ST := pstable_any (W.n : Int) w (h.site hi)
  have q1 : (i : Int) < (W.n : Int) := by omega
  have HC6 : Hid (W.c ≤ 6) := hw.c6
  clear h hG hw
  go_enter Tryz.func52, Tryz.ntmps52
  go_wp2_with fail
  refine IS.mono ?_
  rintro e w2 ⟨rfl, hw2⟩
  have hw3 := hw2.symm
  clear hw2 IS
  subst hw3
  go_wp2_with fail
  refine ST.mono ?_
  rintro e w3 ⟨rfl, hb3⟩
  obtain ⟨V, hV⟩ : ∃ V, stabS (W.S i) (cutN W.n) = V := ⟨_, rfl⟩
  rw [hV]
  have bz := boxed (Below.refl _ w3) (.cells #[.int .i64 V.v0, .int .i64 V.v1, .int .i64 V.v2, .int .i64 V.v3] 47)
  have RV := RowL.new (w := w3) (T := 47) [.int .i64 V.v0, .int .i64 V.v1, .int .i64 V.v2, .int .i64 V.v3] rfl
  change RowL (w3.alloc (.cells #[.int .i64 V.v0, .int .i64 V.v1, .int .i64 V.v2, .int .i64 V.v3] 47)) w3.heap.size [.int .i64 V.v0, .int .i64 V.v1, .int .i64 V.v2, .int .i64 V.v3] at RV
  have hb4 := behind hb3 bz
  obtain ⟨ca, cc, hcv, r⟩ := rowIn_own HH.out.1.cr
  have c1 := cell_later hb4 (HH.out.1.box.cell 1 _ rfl)
  rw [hcv] at c1
  have hlt4 : b < (w3.alloc (.cells #[.int .i64 V.v0, .int .i64 V.v1, .int .i64 V.v2, .int .i64 V.v3] 47)).heap.size := Nat.lt_of_lt_of_le hlt hb4.size
  have hrl := r.len
  have HR : Hid (RowIn w ca cc W.c (pairsC M.bs (fun k => (W.at_ k : Int)) W.c)) := r
  have HV : Hid (stabS (W.S i) (cutN W.n) = V) := hV
  clear ST c0 y0 y1 r hcv hV
  go_wp2_with fail
  obtain ⟨w4, hw4⟩ : ∃ w4, w3.alloc (.cells #[.int .i64 V.v0, .int .i64 V.v1, .int .i64 V.v2, .int .i64 V.v3] 47) = w4 := ⟨_, rfl⟩
  rw [hw4] at RV hb4 ⊢
  obtain ⟨vb, hvb⟩ : ∃ vb, w3.heap.size = vb := ⟨_, rfl⟩
  have hvw : w.heap.size ≤ vb := by rw [← hvb]; exact hb3.size
  rw [hvb] at RV ⊢
  have HS0 : Hid (RowL w4 vb (v4C (swV W i 0)) ∧ Below w.heap.size w w4 ∧ w.heap.size ≤ vb) := ⟨by show RowL w4 vb (v4C (stabS (W.S i) (cutN W.n))); rw [HV.out]; exact RV, hb4, hvw⟩
  clear hw4 hvb bz RV hb3 c1 hlt4 hb4
  go_loopw [34] (fun iv wr => ∃ (j : Nat) (z : Int), j ≤ W.c ∧ z = j ∧ iv = .int .i64 z ∧ Hid (RowL wr vb (v4C (swV W i j)) ∧ Below w.heap.size w wr)) (fun iv _ => W.c - (intOf iv).toNat)
  case atStart => exact ⟨0, 0, by omega, rfl, rfl, HS0.out.1, HS0.out.2.1⟩
  case round =>
    obtain ⟨j, z, hj, hz, rfl, HS⟩ := hrel
    have HZ : Hid (z = j) := hz
    by_cases hjl : j < W.c
    · have g1 : z < (W.c : Int) := by omega
      have g2 : z.toNat = j := by omega
      have g3 : 0 ≤ z := by omega
      have g4 : z < 6 := by have := HC6.out; omega
      clear hz
      obtain ⟨cb, hca, hcb, hcell⟩ : ∃ g, ca = some ⟨g, 0, none⟩ ∧ g < w.heap.size ∧ ∀ j u, (pairsC M.bs (fun k => (W.at_ k : Int)) W.c)[j]? = some u → w.cell? ⟨g, j, none⟩ = some u := by
        rcases HR.out.held with h0 | h0
        · omega
        · exact h0
      subst hca
      have x0 := cell_later HS.out.2 (hcell _ _ (pairs_at hjl).1)
      have x1o := cell_later HS.out.2 (hcell _ _ (pairs_at hjl).2)
      obtain ⟨aj, haj⟩ : ∃ aj : Int, (W.at_ j : Int) = aj := ⟨_, rfl⟩
      have x1 : wr.cell? ⟨cb, j * 2 + 1, none⟩ = some (.int .i64 aj) := by rw [← haj]; exact x1o
      have HAJ : Hid ((W.at_ j : Int) = aj) := haj
      clear haj x1o
      have bx := boxed (Below.refl _ wr) (.cells #[.pointer (some ⟨M.bs j, 0, none⟩), .int .i64 aj] 103)
      have hbx := behind HS.out.2 bx
      have OP := popen_any _ ((HH.out.1.sess hjl).later hbx)
      have RB := HS.out.1.later bx
      have HB : Hid (RowL (wr.alloc (.cells #[.pointer (some ⟨M.bs j, 0, none⟩), .int .i64 aj] 103)) vb (v4C (swV W i j)) ∧ Below w.heap.size w (wr.alloc (.cells #[.pointer (some ⟨M.bs j, 0, none⟩), .int .i64 aj] 103)) ∧ RowL (wr.alloc (.cells #[.pointer (some ⟨M.bs j, 0, none⟩), .int .i64 aj] 103)) wr.heap.size [.pointer (some ⟨M.bs j, 0, none⟩), .int .i64 aj]) := ⟨RB, hbx, RowL.new (w := wr) (T := 103) [.pointer (some ⟨M.bs j, 0, none⟩), .int .i64 aj] rfl⟩
      clear hcell RB
      by_cases ha : aj = (i : Int)
      · subst ha
        have HAI : Hid (W.at_ j = i) := by have := HAJ.out; show _ = _; omega
        cases ho : (W.ses j).opn
        · have HE : Hid (swV W i (j + 1) = swV W i j) := if_neg (fun q => by rw [ho] at q; cases q.2)
          rw [ho] at OP
          clear ho
          go_wp2_with fail
          refine OP.mono ?_
          rintro e w5 ⟨rfl, hb5⟩
          go_wp2_with fail
          go_roundw
          case rel => exact ⟨j + 1, z + 1, by omega, by have := HZ.out; omega, by go_num, by rw [HE.out]; exact HB.out.1.later hb5, behind HB.out.2.1 hb5⟩
          case measure => simp [intOf]; have := HZ.out; omega
        · have HE : Hid (swV W i (j + 1) = ⟨minZ (swV W i j).v0 (W.ses j).s0, minZ (swV W i j).v1 (W.ses j).s1, minZ (swV W i j).v2 (W.ses j).s2, minZ (swV W i j).v3 (W.ses j).s3⟩) := if_pos ⟨HAI.out, ho⟩
          rw [ho] at OP
          clear ho
          go_wp2_with fail
          refine OP.mono ?_
          rintro e w5 ⟨rfl, hb5⟩
          obtain ⟨v, hv⟩ : ∃ v, swV W i j = v := ⟨_, rfl⟩
          have R5 : RowL w5 vb [.int .i64 v.v0, .int .i64 v.v1, .int .i64 v.v2, .int .i64 v.v3] := by have := HB.out.1.later hb5; rw [hv] at this; exact this
          have C5 := HB.out.2.2.later hb5
          have hbw5 := behind HB.out.2.1 hb5
          have SN : Hid (Calls Tryz.prog 62 #[.pointer (some ⟨M.bs j, 0, none⟩)] w5.drew fun e w'' => e = .returned (.agg #[.int .i64 (W.ses j).s0, .int .i64 (W.ses j).s1, .int .i64 (W.ses j).s2, .int .i64 (W.ses j).s3]) ∧ Below w5.drew.heap.size w5.drew w'') := psnap_any _ ((HH.out.1.sess hjl).later hbw5.drew)
          have MI : Hid (∀ w', Calls Tryz.prog 93 #[.agg #[.int .i64 v.v0, .int .i64 v.v1, .int .i64 v.v2, .int .i64 v.v3], .agg #[.int .i64 (W.ses j).s0, .int .i64 (W.ses j).s1, .int .i64 (W.ses j).s2, .int .i64 (W.ses j).s3]] w' fun e w'' => e = .returned (.agg #[.int .i64 (minZ v.v0 (W.ses j).s0), .int .i64 (minZ v.v1 (W.ses j).s1), .int .i64 (minZ v.v2 (W.ses j).s2), .int .i64 (minZ v.v3 (W.ses j).s3)]) ∧ Below w'.heap.size w' w'') := fun w' => min_any _ _ _ _ _ _ _ _ w'
          rw [hv] at HE
          have HF : Hid (RowL w5 vb [.int .i64 v.v0, .int .i64 v.v1, .int .i64 v.v2, .int .i64 v.v3] ∧ Below w.heap.size w w5 ∧ RowL w5 wr.heap.size [.pointer (some ⟨M.bs j, 0, none⟩), .int .i64 i]) := ⟨R5, hbw5, C5⟩
          have a0 := R5.cell 0 _ rfl
          have a1 := R5.cell 1 _ rfl
          have a2 := R5.cell 2 _ rfl
          have a3 := R5.cell 3 _ rfl
          have k0 := C5.cell 0 _ rfl
          have lv := R5.lt
          have lc := C5.lt
          clear OP R5 C5 x0 x1 hv bx hbx
          go_wp2_with fail
          go_region_law (first
            | (refine step_callF rfl 62 rfl #[.pointer (some ⟨M.bs j, 0, none⟩)] (by go_simp) SN.out ?_
               rintro e w6 ⟨rfl, hb6⟩
               refine ⟨_, rfl, ?_⟩
               have R6 := HF.out.1.later (behind (Below.refl _ w5).drew hb6)
               have b0 := R6.cell 0 _ rfl
               have b1 := R6.cell 1 _ rfl
               have b2 := R6.cell 2 _ rfl
               have b3 := R6.cell 3 _ rfl)
            | (refine step_callF rfl 93 rfl #[.agg #[.int .i64 v.v0, .int .i64 v.v1, .int .i64 v.v2, .int .i64 v.v3], .agg #[.int .i64 (W.ses j).s0, .int .i64 (W.ses j).s1, .int .i64 (W.ses j).s2, .int .i64 (W.ses j).s3]] (by go_simp) (MI.out w6) ?_
               rintro e w7 ⟨rfl, hb7⟩
               refine ⟨_, rfl, ?_⟩
               have hb57 := behind (behind (Below.refl _ w5).drew hb6) hb7
               have R7 := HF.out.1.later hb57
               have d0 := R7.cell 0 _ rfl
               have d1 := R7.cell 1 _ rfl
               have d2 := R7.cell 2 _ rfl
               have d3 := R7.cell 3 _ rfl
               have f0 := R7.free 0 (by simp)
               have f1 := R7.free 1 (by simp)
               have f2 := R7.free 2 (by simp)
               have f3 := R7.free 3 (by simp)))
          all_goals
            go_wp2_with fail
            go_roundw
            case rel => exact ⟨j + 1, z + 1, by omega, by have := HZ.out; omega, by go_num, by rw [HE.out]; exact row_set4' R7 _ _ _ _, below_set4 (behind HF.out.2.1 hb57) HS0.out.2.2 _ _ _ _⟩
            case measure => simp [intOf]; have := HZ.out; omega
      · have HE : Hid (swV W i (j + 1) = swV W i j) := if_neg (fun q => ha (by have := HAJ.out; have := q.1; omega))
        have hq1 : (aj == (i : Int)) = false := by simp [ha]
        have hq2 : decide (aj = (i : Int)) = false := decide_eq_false ha
        clear OP
        go_wp2_with fail
        go_roundw
        case rel => exact ⟨j + 1, z + 1, by omega, by have := HZ.out; omega, by go_num, by rw [HE.out]; exact HB.out.1, HB.out.2.1⟩
        case measure => simp [intOf]; have := HZ.out; omega
    · have g1 : ¬ z < (W.c : Int) := by omega
      have e : j = W.c := by omega
      subst e
      have R9 := HS.out.1
      have H9 := HH.out.1.later HS.out.2
      have SW := psweep_any (swV W i W.c).v0 (swV W i W.c).v1 (swV W i W.c).v2 (swV W i W.c).v3 wr (H9.site HH.out.2.2.2) (HH.out.2.2.1.inv i HH.out.2.2.2)
      have z0 := R9.cell 0 _ rfl
      have z1 := R9.cell 1 _ rfl
      have z2 := R9.cell 2 _ rfl
      have z3 := R9.cell 3 _ rfl
      clear hz R9
      go_wp2_with fail
      refine SW.mono ?_
      rintro e w9 ⟨rfl, hp⟩
      go_wp2_with fail
      go_ret
      exact ⟨rfl, PWPo.from HS.out.2 (H9.stepS HH.out.2.1 HH.out.2.2.2 hp)⟩

end Go.Proofs.YtemiamjnhoeniaaGreatDoor


namespace Go.Proofs.YtemiamjnhoeniaaGreatDoor
open Go.RowKit

theorem nodup_le {α : Type} : ∀ (l H : List α), l.Nodup → (∀ x ∈ l, x ∈ H) → l.length ≤ H.length
  | [], _, _, _ => Nat.zero_le _
  | x :: l, H, hn, hs => by
    obtain ⟨H1, H2, e⟩ := List.append_of_mem (hs x List.mem_cons_self)
    have hc := List.nodup_cons.1 hn
    have := nodup_le l (H1 ++ H2) hc.2 (fun y hy => by
      have q := hs y (List.mem_cons_of_mem _ hy)
      rw [e] at q
      rcases List.mem_append.1 q with q | q
      · exact List.mem_append.2 (.inl q)
      · rcases List.mem_cons.1 q with q | q
        · rw [q] at hy
          exact absurd hy hc.1
        · exact List.mem_append.2 (.inr q))
    rw [e]
    simp at this ⊢
    omega
theorem Over.size {H : List TxP} {S : SiteS} (h : Over H S) (hI : InvS S) : S.log.length + S.waits.length ≤ H.length := by
  have hw : S.waits.Nodup := List.Pairwise.imp (fun {x y} (q : isNum x y = false) e => by rw [e] at q; simp [isNum] at q) hI.nums
  have := nodup_le (S.log ++ S.waits) H (List.nodup_append.2 ⟨h.nd, hw, fun x hx y hy e => by rw [e] at hx; exact h.wno y hy hx⟩) (fun x hx => (List.mem_append.1 hx).elim (h.lin x) (h.win x))
  simpa using this
structure GInv (H : List TxP) (W : WoS) : Prop where
  hist : Hist H
  wf : WfW W
  len : H.length ≤ 120
  ov : ∀ i, i < W.n → Over H (W.S i)
  lg : ∀ i, i < W.n → LogH (W.S i)
  nx : ∀ i, i < W.n → nextS (W.S i) = none
  own : ∀ i, i < W.n → ∀ x ∈ H, x.site = (i : Int) → x ∈ (W.S i).log
  low : ∀ x ∈ H, x.site < (W.n : Int)
  net : ∀ g ∈ W.net, ∀ t, g.body = .tx t → t ∈ H
theorem Over.knows {H : List TxP} {S : SiteS} (h : Over H S) (k : Nat) (x0 x1 x2 x3 : Int) : Over H (knowsS S k x0 x1 x2 x3) := ⟨h.lin, h.nd, h.win, h.le, h.has, h.wno, h.clo, h.lst, h.vs⟩
theorem TakesTo.next {H : List TxP} (hH : Hist H) {S S' : SiteS} {t : TxP} (hT : TakesTo S t S') (ho : Over H S) (hI : InvS S) (ht : t ∈ H) (hn : nextS S = none) (hl : H.length ≤ 120) : nextS S' = none := by
  rcases hT with ⟨_, rfl⟩ | ⟨e, hg⟩
  · exact hn
  · obtain ⟨_, _, p3, p4, _⟩ := takeE_zero e
    have hnl : t ∉ S.log := fun q => p3 ((ho.has t ht).1 q)
    have sz := ho.size hI
    have hlen : (S.waits ++ [t]).length = S.waits.length + 1 := by simp
    exact (hg.over hH (ho.wait ht hnl) (hI.nums.snoc p4)).2.2.2.2 (by show S.log.length + (S.waits ++ [t]).length < 200; omega)
section
variable {H : List TxP} {W W' : WoS} {g : GrS}
theorem GInv.setSite (h : GInv H W) {i : Nat} {S' : SiteS} (hw : WfW (setSite W i S')) (h1 : Over H S') (h2 : LogH S') (h3 : nextS S' = none) (h4 : ∀ x ∈ (W.S i).log, x ∈ S'.log) : GInv H (setSite W i S') := by
  refine ⟨h.hist, hw, h.len, fun j hj => ?_, fun j hj => ?_, fun j hj => ?_, fun j hj x hx e => ?_, h.low, h.net⟩ <;> by_cases q : j = i
  · subst q; show Over H (setN W.S j S' j); rw [setN_same]; exact h1
  · show Over H (setN W.S i S' j); rw [setN_ne _ _ q]; exact h.ov j hj
  · subst q; show LogH (setN W.S j S' j); rw [setN_same]; exact h2
  · show LogH (setN W.S i S' j); rw [setN_ne _ _ q]; exact h.lg j hj
  · subst q; show nextS (setN W.S j S' j) = none; rw [setN_same]; exact h3
  · show nextS (setN W.S i S' j) = none; rw [setN_ne _ _ q]; exact h.nx j hj
  · subst q; show x ∈ (setN W.S j S' j).log; rw [setN_same]; exact h4 x (h.own j hj x hx e)
  · show x ∈ (setN W.S i S' j).log; rw [setN_ne _ _ q]; exact h.own j hj x hx e
theorem GInv.same (h : GInv H W) (s : SameW W W') (hw : WfW W') (hn : ∀ g ∈ W'.net, ∀ t, g.body = .tx t → t ∈ H) : GInv H W' :=
  ⟨h.hist, hw, h.len, by rw [s.n, s.S]; exact h.ov, by rw [s.n, s.S]; exact h.lg, by rw [s.n, s.S]; exact h.nx, by rw [s.n, s.S]; exact h.own, by rw [s.n]; exact h.low, hn⟩
theorem GInv.drop (h : GInv H W) (i : Nat) : GInv H (dropW' W i) :=
  ⟨h.hist, h.wf.drop i, h.len, h.ov, h.lg, h.nx, h.own, h.low, fun g hg => h.net g (List.mem_of_mem_eraseIdx hg)⟩
theorem GInv.come (h : GInv H W) (hg : g.to < W.n) (ht : ∀ t, g.body = .tx t → t ∈ H) (hc : ComeTo W g W') : GInv H W' ∧ ∀ i, i < W.n → ∀ x ∈ (W.S i).log, x ∈ (W'.S i).log := by
  have wf := h.wf.come hg hc
  obtain ⟨to, body⟩ := g
  cases body with
  | tx t =>
    obtain ⟨S', hT, rfl⟩ := hc
    have hh := ht t rfl
    have I := h.wf.inv to hg
    refine ⟨h.setSite wf ((h.ov to hg).takes h.hist I hh hT).1 (hT.logh h.hist (h.lg to hg) (h.ov to hg) I hh) (hT.next h.hist (h.ov to hg) I hh (h.nx to hg) h.len) hT.log.1, fun i hi x hx => ?_⟩
    show x ∈ (setN W.S to S' i).log
    by_cases q : i = to
    · subst q; rw [setN_same]; exact hT.log.1 x hx
    · rw [setN_ne _ _ q]; exact hx
  | ask site v0 v1 v2 v3 =>
    have hc' : if 0 ≤ site ∧ site < (W.n : Int) then W' = answerW W to site.toNat v0 v1 v2 v3 else W' = W := hc
    by_cases q : 0 ≤ site ∧ site < (W.n : Int)
    · rw [if_pos q] at hc'
      subst hc'
      have w1 : WfW (Go.Proofs.YtemiamjnhoeniaaGreatDoor.setSite W to (knowsS (W.S to) site.toNat v0 v1 v2 v3)) := h.wf.setSite ((h.wf.inv to hg).knows _) (h.wf.id to hg) (h.wf.wt to hg) (h.wf.lok to hg)
      have g1 := h.setSite w1 ((h.ov to hg).knows site.toNat v0 v1 v2 v3) ⟨(h.lg to hg).hist, (h.lg to hg).ap⟩ (h.nx to hg) (fun x hx => hx)
      have sm := sendsW_same site.toNat (missP (W.S to) v0 v1 v2 v3) (Go.Proofs.YtemiamjnhoeniaaGreatDoor.setSite W to (knowsS (W.S to) site.toNat v0 v1 v2 v3))
      refine ⟨g1.same sm wf (fun g hg' t e => ?_), fun i hi x hx => ?_⟩
      · rcases sendsW_mem _ _ hg' with r | ⟨_, y, hy, _, r⟩
        · exact h.net g r t e
        · rw [r] at e
          injection e with e
          rw [← e]
          exact (h.ov to hg).lin y (List.mem_filter.1 hy).1
      · show x ∈ ((sendsW site.toNat _ _).S i).log
        rw [sm.S]
        show x ∈ (setN W.S to _ i).log
        by_cases r : i = to
        · subst r; rw [setN_same]; exact hx
        · rw [setN_ne _ _ r]; exact hx
    · rw [if_neg q] at hc'
      subst hc'
      exact ⟨h, fun i hi x hx => hx⟩
theorem GInv.deliver (h : GInv H W) {i : Nat} (hd : DeliverTo W i W') : GInv H W' ∧ ∀ j, j < W.n → ∀ x ∈ (W.S j).log, x ∈ (W'.S j).log := by
  obtain ⟨g, h1, h2⟩ := hd
  have hm := List.mem_of_getElem? h1
  exact (h.drop i).come (h.wf.to g hm) (h.net g hm) h2
theorem GInv.bring (hb : BringTo W W') : GInv H W → GInv H W' ∧ ∀ j, j < W.n → ∀ x ∈ (W.S j).log, x ∈ (W'.S j).log := by
  induction hb with
  | none _ => exact fun h => ⟨h, fun _ _ _ hx => hx⟩
  | @step W W1 W' _ hd _ ih =>
    intro h
    obtain ⟨a1, a2⟩ := h.deliver hd
    obtain ⟨b1, b2⟩ := ih a1
    have kn := hd.keep.n
    exact ⟨b1, fun j hj x hx => b2 j (by rw [kn]; exact hj) x (a2 j hj x hx)⟩
end

end Go.Proofs.YtemiamjnhoeniaaGreatDoor


namespace Go.Proofs.YtemiamjnhoeniaaGreatDoor
open Go.RowKit

theorem feed {H : List TxP} {R : SiteS} {k : Nat} {v0 v1 v2 v3 : Int} (hR : LogH R) (oR : Over H R) : ∀ (l2 l1 : List TxP) (W W' : WoS), GInv H W → k < W.n → R.log = l1 ++ l2 → (∀ x ∈ l1, x ∈ (W.S k).log) → (∀ x ∈ H, x.seq ≤ depOf x.site v0 v1 v2 v3 → x ∈ (W.S k).log) →
    W.net = ((l2.filter (fun t => decide (depOf t.site v0 v1 v2 v3 < t.seq))).filter (fun t => decide (t.site ≠ (k : Int)))).map (fun t => ⟨k, .tx t⟩) → BringTo W W' → ∀ x ∈ R.log, x ∈ (W'.S k).log
  | [], l1, W, W', h, hk, e, h1, hv, hn, hb => by
    intro x hx
    rw [e, List.append_nil] at hx
    exact (GInv.bring hb h).2 k hk x (h1 x hx)
  | t :: l2, l1, W, W', h, hk, e, h1, hv, hn, hb => by
    have ht : t ∈ H := oR.lin t (by rw [e]; simp)
    have e' : R.log = (l1 ++ [t]) ++ l2 := by rw [e]; simp
    by_cases q : t ∈ (W.S k).log ∧ ¬ (depOf t.site v0 v1 v2 v3 < t.seq ∧ t.site ≠ (k : Int))
    · refine feed hR oR l2 (l1 ++ [t]) W W' h hk e' (fun x hx => ?_) hv ?_ hb
      · rcases List.mem_append.1 hx with r | r
        · exact h1 x r
        · rw [List.mem_singleton.1 r]; exact q.1
      · rw [hn]
        congr 1
        by_cases p : depOf t.site v0 v1 v2 v3 < t.seq
        · have p2 : t.site = (k : Int) := Classical.byContradiction (fun r => q.2 ⟨p, r⟩)
          rw [List.filter_cons_of_pos (by simpa using p), List.filter_cons_of_neg (by simpa using p2)]
        · rw [List.filter_cons_of_neg (by simpa using p)]
    · have kept : depOf t.site v0 v1 v2 v3 < t.seq ∧ t.site ≠ (k : Int) := Classical.byContradiction (fun r => by
        refine q ⟨?_, r⟩
        by_cases p : depOf t.site v0 v1 v2 v3 < t.seq
        · have p2 : t.site = (k : Int) := Classical.byContradiction (fun z => r ⟨p, z⟩)
          exact h.own k hk t ht p2
        · exact hv t ht (by omega))
      rw [List.filter_cons_of_pos (by simpa using kept.1), List.filter_cons_of_pos (by simpa using kept.2), List.map_cons] at hn
      cases hb with
      | none z => rw [hn] at z; cases z
      | @step _ W1 _ _ hd hb1 =>
        obtain ⟨g, g1, g2⟩ := hd
        have eg : g = ⟨k, .tx t⟩ := by rw [hn] at g1; simpa using g1.symm
        subst eg
        have dl : GInv H W1 ∧ ∀ j, j < W.n → ∀ x ∈ (W.S j).log, x ∈ (W1.S j).log := h.deliver ⟨_, g1, g2⟩
        have kn : W1.n = W.n := (DeliverTo.keep ⟨_, g1, g2⟩).n
        obtain ⟨S', hT, hW1⟩ := g2
        have hT' : TakesTo (W.S k) t S' := hT
        have eS : W1.S k = S' := by rw [hW1]; exact setN_same _ _ _
        have en : W1.net = ((l2.filter (fun t => decide (depOf t.site v0 v1 v2 v3 < t.seq))).filter (fun t => decide (t.site ≠ (k : Int)))).map (fun t => ⟨k, .tx t⟩) := by
          rw [hW1]
          show W.net.eraseIdx 0 = _
          rw [hn]
          rfl
        have tin : t ∈ (W1.S k).log := by
          by_cases z : t ∈ (W.S k).log
          · exact dl.2 k hk t z
          · have I := h.wf.inv k hk
            have rd := hR.ready h.hist oR (h.ov k hk) e h1 z
            have hs := h.hist.site ht
            have nw : t ∉ (W.S k).waits := fun r => by
              have := nextS_none (h.nx k hk) t r hs.1 hs.2
              rw [rd] at this
              cases this
            have sz := (h.ov k hk).size I
            have hl := h.len
            rw [eS]
            exact (hT'.applies h.hist (h.ov k hk) I ht (by rw [h.wf.id k hk]; exact kept.2) rd nw (by omega)).1
        refine feed hR oR l2 (l1 ++ [t]) W1 W' dl.1 (by rw [kn]; exact hk) e' (fun x hx => ?_) (fun x hx p => dl.2 k hk x (hv x hx p)) en hb1
        rcases List.mem_append.1 hx with r | r
        · exact dl.2 k hk x (h1 x r)
        · rw [List.mem_singleton.1 r]; exact tin
theorem ask_brings {H : List TxP} {W W' : WoS} (h : GInv H W) (hn : W.net = []) {k o : Nat} (hk : k < W.n) (ho : o < W.n) (hb : BringTo (askW W k o) W') : ∀ x ∈ (W.S o).log, x ∈ (W'.S k).log := by
  have en : (askW W k o).net = [⟨o, .ask k (W.S k).a0 (W.S k).a1 (W.S k).a2 (W.S k).a3⟩] := by
    unfold askW
    rw [sendW_net (by rw [hn]; simp), hn]
    rfl
  have sm : SameW W (askW W k o) := sendW_same _ _
  have ga : GInv H (askW W k o) := h.same sm (h.wf.send ho) (fun g hg t e => by
    rw [en] at hg
    rw [List.mem_singleton.1 hg] at e
    cases e)
  cases hb with
  | none z => rw [en] at z; cases z
  | @step _ W1 _ _ hd hb1 =>
    have kn : W1.n = W.n := hd.keep.n.trans sm.n
    have dl := ga.deliver hd
    obtain ⟨g, g1, g2⟩ := hd
    have eg : g = ⟨o, .ask k (W.S k).a0 (W.S k).a1 (W.S k).a2 (W.S k).a3⟩ := by rw [en] at g1; simpa using g1.symm
    subst eg
    have hc : if 0 ≤ (k : Int) ∧ (k : Int) < ((dropW' (askW W k o) 0).n : Int) then W1 = answerW (dropW' (askW W k o) 0) o (k : Int).toNat (W.S k).a0 (W.S k).a1 (W.S k).a2 (W.S k).a3 else W1 = dropW' (askW W k o) 0 := g2
    have dn : (dropW' (askW W k o) 0).n = W.n := sm.n
    have dS : (dropW' (askW W k o) 0).S = W.S := sm.S
    have dnet : (dropW' (askW W k o) 0).net = [] := by show (askW W k o).net.eraseIdx 0 = []; rw [en]; rfl
    rw [dn, if_pos ⟨by omega, by omega⟩, show ((k : Int)).toNat = k by omega] at hc
    have lo : (missP (W.S o) (W.S k).a0 (W.S k).a1 (W.S k).a2 (W.S k).a3).length ≤ 300 := by
      have a : (missP (W.S o) (W.S k).a0 (W.S k).a1 (W.S k).a2 (W.S k).a3).length ≤ (W.S o).log.length := List.length_filter_le _ _
      have := (h.wf.inv o ho).log
      omega
    have n1 : W1.net = ((missP (W.S o) (W.S k).a0 (W.S k).a1 (W.S k).a2 (W.S k).a3).filter (fun t => decide (t.site ≠ (k : Int)))).map (fun t => ⟨k, .tx t⟩) := by
      rw [hc]
      unfold answerW
      rw [dS, sendsW_net _ _ (by show (dropW' (askW W k o) 0).net.length + _ ≤ 300; rw [dnet]; simpa using lo)]
      show (dropW' (askW W k o) 0).net ++ _ = _
      rw [dnet]
      rfl
    have mono : ∀ x ∈ (W.S k).log, x ∈ (W1.S k).log := fun x hx => dl.2 k (by rw [sm.n]; exact hk) x (by rw [sm.S]; exact hx)
    exact feed (h.lg o ho) (h.ov o ho) (W.S o).log [] W1 W' dl.1 (by rw [kn]; exact hk) rfl (fun x hx => by cases hx) (fun x hx p => mono x (((h.ov k hk).has x hx).2 p)) n1 hb1
theorem BringTo.empty {W W' : WoS} (h : BringTo W W') : W'.net = [] := by
  induction h with
  | none h => exact h
  | step _ _ _ ih => exact ih
theorem GInv.ask {H : List TxP} {W : WoS} (h : GInv H W) {k o : Nat} (ho : o < W.n) : GInv H (askW W k o) := by
  refine h.same (sendW_same _ _) (h.wf.send ho) (fun g hg t e => ?_)
  rcases sendW_mem hg with q | q
  · exact h.net g q t e
  · rw [q] at e
    cases e
theorem asks_bring {H : List TxP} {k m : Nat} {W W' : WoS} (ha : AsksTo k m W W') : GInv H W → W.net = [] → k < W.n → m ≤ W.n → GInv H W' ∧ W'.net = [] ∧ W'.n = W.n ∧ (∀ j, j < W.n → ∀ x ∈ (W.S j).log, x ∈ (W'.S j).log) ∧ ∀ o, o < m → o ≠ k → ∀ x ∈ (W.S o).log, x ∈ (W'.S k).log := by
  induction ha with
  | zero => exact fun h hn _ _ => ⟨h, hn, rfl, fun _ _ _ hx => hx, fun o ho => by omega⟩
  | @self W W' m _ e ih =>
    intro h hn hk hm
    obtain ⟨a1, a2, a3, a4, a5⟩ := ih h hn hk (by omega)
    exact ⟨a1, a2, a3, a4, fun o ho hok => a5 o (by omega) hok⟩
  | @ask W W1 W' m _ hne hb ih =>
    intro h hn hk hm
    obtain ⟨a1, a2, a3, a4, a5⟩ := ih h hn hk (by omega)
    have hm1 : m < W1.n := by omega
    obtain ⟨b1, b2⟩ := GInv.bring hb (a1.ask (k := k) hm1)
    have sm := sendW_same W1 ⟨m, .ask k (W1.S k).a0 (W1.S k).a1 (W1.S k).a2 (W1.S k).a3⟩
    have sn : (askW W1 k m).n = W1.n := sm.n
    have sS : (askW W1 k m).S = W1.S := sm.S
    have kn : W'.n = W1.n := hb.keep.n.trans sn
    have b2' : ∀ j, j < W1.n → ∀ x ∈ (W1.S j).log, x ∈ (W'.S j).log := fun j hj x hx => b2 j (by rw [sn]; exact hj) x (by rw [sS]; exact hx)
    refine ⟨b1, hb.empty, kn.trans a3, fun j hj x hx => b2' j (by omega) x (a4 j hj x hx), fun o ho hok x hx => ?_⟩
    by_cases e : o = m
    · subst e
      exact ask_brings a1 a2 (by omega) hm1 hb x (a4 o (by omega) x hx)
    · exact b2' k (by omega) x (a5 o (by omega) hok x hx)
theorem round_brings {H : List TxP} {m : Nat} {W W' : WoS} (hr : RoundTo m W W') : GInv H W → W.net = [] → m ≤ W.n → GInv H W' ∧ W'.net = [] ∧ W'.n = W.n ∧ ∀ k, k < m → ∀ x ∈ H, x ∈ (W'.S k).log := by
  induction hr with
  | zero => exact fun h hn _ => ⟨h, hn, rfl, fun k hk => by omega⟩
  | @next W W1 W' m _ ha ih =>
    intro h hn hm
    obtain ⟨a1, a2, a3, a4⟩ := ih h hn (by omega)
    obtain ⟨b1, b2, b3, b4, b5⟩ := asks_bring ha a1 a2 (by omega) (Nat.le_refl _)
    refine ⟨b1, b2, b3.trans a3, fun k hk x hx => ?_⟩
    by_cases e : k = m
    · subst e
      have hs := h.hist.site hx
      have lo := a1.low x hx
      obtain ⟨o, eo⟩ : ∃ o : Nat, (o : Int) = x.site := ⟨x.site.toNat, by omega⟩
      have own := a1.own o (by omega) x hx eo.symm
      by_cases eq : o = k
      · subst eq
        exact b4 o (by omega) x own
      · exact b5 o (by omega) eq x own
    · exact b4 k (by omega) x (a4 k (by omega) x hx)
theorem calm_meets {H : List TxP} {W W' : WoS} (h : GInv H W) (hc : CalmTo W W') : GInv H W' ∧ W'.net = [] ∧ W'.n = W.n ∧ ∀ k, k < W.n → (∀ x ∈ H, x ∈ (W'.S k).log) ∧ (W'.S k).waits = [] ∧ ∀ s, 0 ≤ s → s ≤ 3 → appl (W'.S k) s = cnt H s := by
  obtain ⟨W1, h1, h2⟩ := hc
  obtain ⟨a1, _⟩ := GInv.bring h1 h
  have kn := h1.keep.n
  obtain ⟨b1, b2, b3, b4⟩ := round_brings h2 a1 h1.empty (Nat.le_refl _)
  refine ⟨b1, b2, b3.trans kn, fun k hk => ?_⟩
  have hk1 : k < W1.n := by omega
  have hk' : k < W'.n := by omega
  exact (b1.ov k hk').all h.hist (b1.nx k hk') (fun x hx => .inl (b4 k hk1 x hx))

end Go.Proofs.YtemiamjnhoeniaaGreatDoor


namespace Go.Proofs.YtemiamjnhoeniaaGreatDoor
open Go.RowKit

theorem next_of {S : SiteS} (h : ∀ x ∈ S.waits, readyS S x = false) : nextS S = none := by
  cases e : nextS S with
  | none => rfl
  | some x =>
    obtain ⟨m1, m2⟩ := nextS_mem e
    rw [h x m1] at m2
    cases m2
theorem commit_over {S : SiteS} {now d0 d1 d2 d3 : Int} {ws : List Wr} (hE : comE S now d0 d1 d2 d3 ws = 0) : ∀ s, 0 ≤ s → s ≤ 3 → over (commitT S now d0 d1 d2 d3 ws) s ≤ appl S s := by
  intro s h0 h3
  have hc : covB S.a0 S.a1 S.a2 S.a3 d0 d1 d2 d3 = true := by
    unfold comE commitE at hE
    cases q : covB S.a0 S.a1 S.a2 S.a3 d0 d1 d2 d3 with
    | true => rfl
    | false =>
      exfalso
      rw [q] at hE
      by_cases a : okWs ws = false
      · rw [if_pos a] at hE; omega
      · rw [if_neg a] at hE
        by_cases b : timesB d0 d1 d2 d3 = false
        · rw [if_pos b] at hE; omega
        · rw [if_neg b, if_pos rfl] at hE; omega
  show depOf s (setV0 S.id (depOf S.id S.a0 S.a1 S.a2 S.a3) d0) (setV1 S.id (depOf S.id S.a0 S.a1 S.a2 S.a3) d1) (setV2 S.id (depOf S.id S.a0 S.a1 S.a2 S.a3) d2) (setV3 S.id (depOf S.id S.a0 S.a1 S.a2 S.a3) d3) ≤ depOf s S.a0 S.a1 S.a2 S.a3
  rw [depOf_set _ _ _ _ _ _ s h0 h3]
  by_cases e : s = S.id
  · rw [if_pos e, e]
    exact Int.le_refl _
  · rw [if_neg e]
    exact cov_dep hc s h0 h3
theorem GInv.commit {H : List TxP} {W : WoS} (h : GInv H W) {a : Nat} (ha : a < W.n) {now d0 d1 d2 d3 : Int} {ws : List Wr} (hE : comE (W.S a) now d0 d1 d2 d3 ws = 0) (hl : H.length < 120) : GInv (H ++ [commitT (W.S a) now d0 d1 d2 d3 ws]) (Go.Proofs.YtemiamjnhoeniaaGreatDoor.setSite W a (applyS (W.S a) (commitT (W.S a) now d0 d1 d2 d3 ws))) := by
  have I := h.wf.inv a ha
  have hid := h.wf.id a ha
  have own : ∀ x ∈ H, x.site = (W.S a).id → x ∈ (W.S a).log := fun x hx e => h.own a ha x hx (by rw [e, hid])
  obtain ⟨c1, c2, c3⟩ := (h.ov a ha).commit h.hist I own hE
  have ov := commit_over hE
  have oa := (h.ov a ha).own h.hist I own
  obtain ⟨t, et⟩ : ∃ t, commitT (W.S a) now d0 d1 d2 d3 ws = t := ⟨_, rfl⟩
  have es : t.site = (a : Int) := by rw [← et]; exact hid
  have eq : t.seq = appl (W.S a) t.site + 1 := by rw [← et]; rfl
  have I2 := (commitT_ok I hE).1
  rw [et] at c1 c2 c3 ov I2 ⊢
  have gq : t.seq = cnt H t.site + 1 := by rw [eq, es, ← hid, oa]
  have gs : 0 ≤ t.site ∧ t.site ≤ 3 := by rw [es, ← hid]; exact ⟨I.id0, I.id3⟩
  have grow : ∀ j, j < W.n → Over (H ++ [t]) (W.S j) := fun j hj => (h.ov j hj).grow h.hist gq gs
  have tin : t ∈ H ++ [t] := List.mem_append.2 (.inr (List.mem_singleton.2 rfl))
  have rd : readyS (W.S a) t = true := iff_ready eq ov
  have n4 := h.wf.n4
  have wf : WfW (Go.Proofs.YtemiamjnhoeniaaGreatDoor.setSite W a (applyS (W.S a) t)) := h.wf.setSite I2 hid (h.wf.wt a ha) (fun x hx => by
    rcases List.mem_append.1 (show x ∈ (W.S a).log ++ [t] from hx) with q | q
    · exact h.wf.lok a ha x q
    · rw [List.mem_singleton.1 q]; exact c1.ok t tin)
  refine ⟨c1, wf, by simp; omega, fun j hj => ?_, fun j hj => ?_, fun j hj => ?_, fun j hj x hx e => ?_, fun x hx => ?_, fun g hg u e => List.mem_append.2 (.inl (h.net g hg u e))⟩
  · show Over _ (setN W.S a _ j)
    by_cases q : j = a
    · subst q; rw [setN_same]; exact c2
    · rw [setN_ne _ _ q]; exact grow j hj
  · show LogH (setN W.S a _ j)
    by_cases q : j = a
    · subst q; rw [setN_same]; exact (h.lg j hj).apply c1 (grow j hj) tin rd
    · rw [setN_ne _ _ q]; exact h.lg j hj
  · show nextS (setN W.S a _ j) = none
    by_cases q : j = a
    · subst q
      rw [setN_same]
      refine next_of (fun x hx => ?_)
      have hx' : x ∈ (W.S j).waits := hx
      have hxH := (h.ov j hj).win x hx'
      have hs := h.hist.site hxH
      have nr := nextS_none (h.nx j hj) x hx' hs.1 hs.2
      cases r : readyS (applyS (W.S j) t) x with
      | false => rfl
      | true =>
        exfalso
        obtain ⟨r1, r2⟩ := ready_iff r
        have xs : x.site ≠ t.site := fun z => (I.wt x hx').2 (by rw [z, es, hid])
        have b : readyS (W.S j) x = true := iff_ready (by rw [r1, appl_apply x.site hs.1 hs.2, if_neg xs]) (fun s h0 h3 => by
          have := r2 s h0 h3
          rw [appl_apply s h0 h3] at this
          by_cases z : s = t.site
          · rw [z, es, ← hid, oa]
            have := h.hist.over x hxH (W.S j).id I.id0 I.id3
            exact this
          · rw [if_neg z] at this
            exact this)
        rw [nr] at b
        cases b
    · rw [setN_ne _ _ q]; exact h.nx j hj
  · show x ∈ (setN W.S a _ j).log
    by_cases q : j = a
    · subst q; rw [setN_same]; exact c3 x hx (by rw [e, hid])
    · rw [setN_ne _ _ q]
      rcases List.mem_append.1 hx with r | r
      · exact h.own j hj x r e
      · rw [List.mem_singleton.1 r, es] at e
        omega
  · rcases List.mem_append.1 hx with r | r
    · exact h.low x r
    · rw [List.mem_singleton.1 r, es]
      show (a : Int) < (W.n : Int)
      omega

end Go.Proofs.YtemiamjnhoeniaaGreatDoor


namespace Go.Proofs.YtemiamjnhoeniaaGreatDoor
open Go.RowKit

structure SimW (base : Nat → V4) (G W : WoS) : Prop where
  n : W.n = G.n
  c : W.c = G.c
  wall : W.wall = G.wall
  ses : W.ses = G.ses
  at_ : W.at_ = G.at_
  net : W.net = G.net
  lost : W.lost = G.lost
  si : ∀ i, i < G.n → SimS (base i).v0 (base i).v1 (base i).v2 (base i).v3 (G.S i) (W.S i)
section
variable {base : Nat → V4} {G W W' : WoS} {H : List TxP} {g : GrS}
theorem SimW.refl (base : Nat → V4) (W : WoS) : SimW base W W := ⟨rfl, rfl, rfl, rfl, rfl, rfl, rfl, fun _ _ => SimS.refl _⟩
theorem SimW.send (h : SimW base G W) (g : GrS) : SimW base (sendW G g) (sendW W g) := by
  unfold sendW
  rw [h.net, h.lost]
  split
  · exact ⟨h.n, h.c, h.wall, h.ses, h.at_, rfl, rfl, h.si⟩
  · exact ⟨h.n, h.c, h.wall, h.ses, h.at_, rfl, rfl, h.si⟩
theorem SimW.sends (o : Nat) : ∀ (l : List TxP) (G W : WoS), SimW base G W → SimW base (sendsW o l G) (sendsW o l W)
  | [], _, _, h => h
  | t :: l, G, W, h => by
    unfold sendsW
    split
    · exact SimW.sends o l G W h
    · exact SimW.sends o l _ _ (h.send _)
theorem SimW.tell (t : TxP) : ∀ (k : Nat) (G W : WoS), SimW base G W → SimW base (tellW t k G) (tellW t k W)
  | 0, _, _, h => h
  | k + 1, G, W, h => by
    unfold tellW
    split
    · exact SimW.tell t k G W h
    · exact (SimW.tell t k G W h).send _
theorem SimW.setSite (h : SimW base G W) {i : Nat} {S S' : SiteS} (hs : SimS (base i).v0 (base i).v1 (base i).v2 (base i).v3 S S') : SimW base (setSite G i S) (setSite W i S') := by
  refine ⟨h.n, h.c, h.wall, h.ses, h.at_, h.net, h.lost, fun j hj => ?_⟩
  show SimS _ _ _ _ (setN G.S i S j) (setN W.S i S' j)
  by_cases q : j = i
  · subst q; rw [setN_same, setN_same]; exact hs
  · rw [setN_ne _ _ q, setN_ne _ _ q]; exact h.si j hj
theorem SimW.drop (h : SimW base G W) (i : Nat) : SimW base (dropW' G i) (dropW' W i) := ⟨h.n, h.c, h.wall, h.ses, h.at_, by show W.net.eraseIdx i = G.net.eraseIdx i; rw [h.net], h.lost, h.si⟩
theorem SimW.come (h : SimW base G W) (hg : GInv H G) (ht : g.to < G.n) (hh : ∀ t, g.body = .tx t → t ∈ H) (hc : ComeTo W g W') : ∃ G', ComeTo G g G' ∧ SimW base G' W' := by
  obtain ⟨to, body⟩ := g
  cases body with
  | tx t =>
    obtain ⟨S', hT, rfl⟩ := hc
    obtain ⟨G', t1, t2⟩ := (h.si to ht).takes hg.hist (hg.ov to ht) (hg.wf.inv to ht) (hh t rfl) hT
    exact ⟨_, ⟨G', t1, rfl⟩, h.setSite t2⟩
  | ask site v0 v1 v2 v3 =>
    have hc' : if 0 ≤ site ∧ site < (W.n : Int) then W' = answerW W to site.toNat v0 v1 v2 v3 else W' = W := hc
    by_cases q : 0 ≤ site ∧ site < (W.n : Int)
    · rw [if_pos q] at hc'
      refine ⟨answerW G to site.toNat v0 v1 v2 v3, ?_, ?_⟩
      · show (if 0 ≤ site ∧ site < (G.n : Int) then _ = answerW G to site.toNat v0 v1 v2 v3 else _)
        rw [← h.n, if_pos q]
      · rw [hc']
        unfold answerW
        rw [(h.si to ht).missP]
        exact SimW.sends _ _ _ _ (h.setSite ((h.si to ht).knows _ _ _ _ _))
    · rw [if_neg q] at hc'
      refine ⟨G, ?_, by rw [hc']; exact h⟩
      show (if 0 ≤ site ∧ site < (G.n : Int) then G = answerW G to site.toNat v0 v1 v2 v3 else G = G)
      rw [← h.n, if_neg q]
theorem SimW.deliver (h : SimW base G W) (hg : GInv H G) {i : Nat} (hd : DeliverTo W i W') : ∃ G', DeliverTo G i G' ∧ SimW base G' W' := by
  obtain ⟨g, h1, h2⟩ := hd
  rw [h.net] at h1
  have hm := List.mem_of_getElem? h1
  obtain ⟨G', c1, c2⟩ := (h.drop i).come (hg.drop i) (hg.wf.to g hm) (hg.net g hm) h2
  exact ⟨G', ⟨g, h1, c1⟩, c2⟩
theorem SimW.bring (hb : BringTo W W') : ∀ {G : WoS}, SimW base G W → GInv H G → ∃ G', BringTo G G' ∧ SimW base G' W' := by
  induction hb with
  | none hn => exact fun {G} h _ => ⟨G, .none (by rw [← h.net]; exact hn), h⟩
  | step hn hd _ ih =>
    intro G h hg
    obtain ⟨G1, d1, d2⟩ := h.deliver hg hd
    obtain ⟨G', b1, b2⟩ := ih d2 (hg.deliver d1).1
    exact ⟨G', .step (by rw [← h.net]; exact hn) d1 b1, b2⟩
theorem SimW.ask (h : SimW base G W) {k o : Nat} (hk : k < G.n) : SimW base (askW G k o) (askW W k o) := by
  have s := h.si k hk
  unfold askW
  rw [s.ap0, s.ap1, s.ap2, s.ap3]
  exact h.send _
theorem SimW.asks {k m : Nat} (ha : AsksTo k m W W') : ∀ {G : WoS}, SimW base G W → GInv H G → k < G.n → m ≤ G.n → ∃ G', AsksTo k m G G' ∧ SimW base G' W' ∧ GInv H G' := by
  induction ha with
  | zero => exact fun {G} h hg _ _ => ⟨G, .zero, h, hg⟩
  | self _ e ih =>
    intro G h hg hk hm
    obtain ⟨G', a1, a2, a3⟩ := ih h hg hk (by omega)
    exact ⟨G', .self a1 e, a2, a3⟩
  | @ask W W1 W' m _ hne hb ih =>
    intro G h hg hk hm
    obtain ⟨G1, a1, a2, a3⟩ := ih h hg hk (by omega)
    have kn := a1.keep.n
    have g1 : GInv H (askW G1 k m) := a3.ask (k := k) (by omega)
    obtain ⟨G', b1, b2⟩ := SimW.bring hb (a2.ask (k := k) (o := m) (by omega)) g1
    exact ⟨G', .ask a1 hne b1, b2, (GInv.bring b1 g1).1⟩
theorem SimW.round {m : Nat} (hr : RoundTo m W W') : ∀ {G : WoS}, SimW base G W → GInv H G → m ≤ G.n → ∃ G', RoundTo m G G' ∧ SimW base G' W' ∧ GInv H G' := by
  induction hr with
  | zero => exact fun {G} h hg _ => ⟨G, .zero, h, hg⟩
  | @next W W1 W' m _ ha ih =>
    intro G h hg hm
    obtain ⟨G1, a1, a2, a3⟩ := ih h hg (by omega)
    have kn := a1.keep.n
    have en := a2.n
    obtain ⟨G', b1, b2, b3⟩ := SimW.asks ha a2 a3 (by omega) (by omega)
    exact ⟨G', .next a1 (by rw [← en]; exact b1), b2, b3⟩
theorem SimW.calm (h : SimW base G W) (hg : GInv H G) (hc : CalmTo W W') : ∃ G', CalmTo G G' ∧ SimW base G' W' ∧ GInv H G' := by
  obtain ⟨W1, h1, h2⟩ := hc
  obtain ⟨G1, a1, a2⟩ := SimW.bring h1 h hg
  have g1 := (GInv.bring a1 hg).1
  have en := a2.n
  obtain ⟨G', b1, b2, b3⟩ := SimW.round h2 a2 g1 (by omega)
  exact ⟨G', ⟨G1, a1, by rw [← en]; exact b1⟩, b2, b3⟩
end

end Go.Proofs.YtemiamjnhoeniaaGreatDoor


namespace Go.Proofs.YtemiamjnhoeniaaGreatDoor
open Go.RowKit

def pickN (a : Int) (n : Nat) : Nat := (wrap64 ((IntKind.u64.wrap a).tmod n)).toNat
structure ActS where
  what : Int
  k : Int
  n : Int
  data : ByteArray
  gone : Bool
structure TaleS where
  W : WoS
  H : List TxP
  own : Nat → List Wr
def newT (n c : Nat) : TaleS := ⟨newW n c, [], fun _ => []⟩
def actK (T : TaleS) (a : ActS) : Nat := pickN a.k T.W.c
def actI (T : TaleS) (a : ActS) : Nat := if 0 < T.W.net.length then pickN a.n T.W.net.length else 0
def begT (T : TaleS) (k : Nat) : TaleS := ⟨setSes T.W k (begS (T.W.S (T.W.at_ k)) (T.W.ses k)), T.H, if begE (T.W.S (T.W.at_ k)) (T.W.ses k) = 0 then setN T.own k [] else T.own⟩
def wriT (T : TaleS) (k : Nat) (x : Wr) : TaleS := ⟨setSes T.W k (wriS (T.W.ses k) x), T.H, if wriE (T.W.ses k) x = 0 then setN T.own k (T.own k ++ [x]) else T.own⟩
def comTa (T : TaleS) (k : Nat) : TaleS := ⟨wcW T.W k, if 0 < (wcT T.W k).seq then T.H ++ [wcT T.W k] else T.H, T.own⟩
def setW (T : TaleS) (W : WoS) : TaleS := ⟨W, T.H, T.own⟩
def DoesTo (T : TaleS) (a : ActS) (sw : Bool) (T' : TaleS) : Prop :=
  if a.what = 0 then T' = begT T (actK T a)
  else if a.what = 1 then T' = T
  else if a.what = 2 then T' = wriT T (actK T a) ⟨(pickN a.n 8 : Nat), a.data, a.gone⟩
  else if a.what = 3 then T' = comTa T (actK T a)
  else if a.what = 4 then T' = setW T (setSes T.W (actK T a) (aboS (T.W.ses (actK T a))))
  else if a.what = 5 then T' = setW T (moveW T.W (actK T a) (pickN a.n T.W.n))
  else if a.what = 6 then T' = setW T (goesW T.W (pickN a.k T.W.n) (pickN a.n 50 : Nat))
  else if a.what = 7 then T' = if pickN a.k T.W.n = pickN a.n T.W.n then T else setW T (askW T.W (pickN a.k T.W.n) (pickN a.n T.W.n))
  else if a.what = 8 then (T.W.net = [] ∧ T' = T) ∨ ∃ W', DeliverTo T.W (actI T a) W' ∧ T' = setW T W'
  else if a.what = 9 then T' = setW T (dropW' T.W (actI T a))
  else if a.what = 10 then T' = match T.W.net[actI T a]? with | some g => setW T (sendW T.W g) | none => T
  else if a.what = 11 then T' = if sw = true then setW T (sweepW T.W (pickN a.k T.W.n)) else T
  else if a.what = 12 then ∃ W', CalmTo T.W W' ∧ T' = setW T W'
  else T' = T

theorem pickN_lt (a : Int) {n : Nat} (h0 : 0 < n) : pickN a n < n := by
  have hw : 0 ≤ IntKind.u64.wrap a := by
    unfold IntKind.wrap
    simp [IntKind.signed, IntKind.bits]
    omega
  unfold pickN
  rw [Int.tmod_eq_emod_of_nonneg hw]
  have b0 := Int.emod_nonneg (IntKind.u64.wrap a) (b := n) (by omega)
  have b1 := Int.emod_lt_of_pos (IntKind.u64.wrap a) (b := n) (by omega)
  unfold wrap64
  by_cases h : (n : Int) ≤ 9223372036854775807 <;> omega

/-! ### one comes of it -/
theorem ComeTo.det {W A B : WoS} {g : GrS} (h : ComeTo W g A) (k : ComeTo W g B) : A = B := by
  obtain ⟨to, body⟩ := g
  cases body with
  | tx t =>
    obtain ⟨S1, h1, rfl⟩ := h
    obtain ⟨S2, k1, rfl⟩ := k
    rw [h1.det k1]
  | ask site v0 v1 v2 v3 =>
    have h' : if 0 ≤ site ∧ site < (W.n : Int) then A = answerW W to site.toNat v0 v1 v2 v3 else A = W := h
    have k' : if 0 ≤ site ∧ site < (W.n : Int) then B = answerW W to site.toNat v0 v1 v2 v3 else B = W := k
    by_cases q : 0 ≤ site ∧ site < (W.n : Int)
    · rw [if_pos q] at h' k'; rw [h', k']
    · rw [if_neg q] at h' k'; rw [h', k']
theorem DeliverTo.det {W A B : WoS} {i : Nat} (h : DeliverTo W i A) (k : DeliverTo W i B) : A = B := by
  obtain ⟨g, h1, h2⟩ := h
  obtain ⟨g', k1, k2⟩ := k
  rw [h1] at k1
  injection k1 with e
  subst e
  exact h2.det k2
theorem BringTo.det {W A B : WoS} (h : BringTo W A) : BringTo W B → A = B := by
  induction h with
  | none hn =>
    intro k
    cases k with
    | none _ => rfl
    | step h _ _ => exact absurd hn h
  | step hn hd _ ih =>
    intro k
    cases k with
    | none h => exact absurd h hn
    | step _ kd kb =>
      have e := hd.det kd
      subst e
      exact ih kb
theorem AsksTo.det {k m : Nat} {W A : WoS} (h : AsksTo k m W A) : ∀ {B : WoS}, AsksTo k m W B → A = B := by
  induction h with
  | zero => intro B h; cases h; rfl
  | self _ e ih =>
    intro B h
    cases h with
    | self h _ => exact ih h
    | ask _ hne _ => exact absurd e hne
  | ask _ hne hb ih =>
    intro B h
    cases h with
    | self _ e => exact absurd e hne
    | ask h _ hb2 =>
      have e := ih h
      subst e
      exact hb.det hb2
theorem RoundTo.det {m : Nat} {W A : WoS} (h : RoundTo m W A) : ∀ {B : WoS}, RoundTo m W B → A = B := by
  induction h with
  | zero => intro B h; cases h; rfl
  | next _ ha ih =>
    intro B h
    cases h with
    | next h hb =>
      have e := ih h
      subst e
      exact ha.det (B := B) hb
theorem CalmTo.det {W A B : WoS} (h : CalmTo W A) (k : CalmTo W B) : A = B := by
  obtain ⟨W1, h1, h2⟩ := h
  obtain ⟨W2, k1, k2⟩ := k
  have e := h1.det k1
  subst e
  exact h2.det k2
theorem DeliverTo.some {W A : WoS} {i : Nat} (h : DeliverTo W i A) : W.net ≠ [] := by
  obtain ⟨g, h1, _⟩ := h
  intro e
  rw [e] at h1
  simp at h1
theorem DoesTo.det {T A B : TaleS} {a : ActS} {sw : Bool} (h : DoesTo T a sw A) (k : DoesTo T a sw B) : A = B := by
  unfold DoesTo at h k
  by_cases q0 : a.what = 0
  · rw [if_pos q0] at h k; rw [h, k]
  rw [if_neg q0] at h k
  by_cases q1 : a.what = 1
  · rw [if_pos q1] at h k; rw [h, k]
  rw [if_neg q1] at h k
  by_cases q2 : a.what = 2
  · rw [if_pos q2] at h k; rw [h, k]
  rw [if_neg q2] at h k
  by_cases q3 : a.what = 3
  · rw [if_pos q3] at h k; rw [h, k]
  rw [if_neg q3] at h k
  by_cases q4 : a.what = 4
  · rw [if_pos q4] at h k; rw [h, k]
  rw [if_neg q4] at h k
  by_cases q5 : a.what = 5
  · rw [if_pos q5] at h k; rw [h, k]
  rw [if_neg q5] at h k
  by_cases q6 : a.what = 6
  · rw [if_pos q6] at h k; rw [h, k]
  rw [if_neg q6] at h k
  by_cases q7 : a.what = 7
  · rw [if_pos q7] at h k; rw [h, k]
  rw [if_neg q7] at h k
  by_cases q8 : a.what = 8
  · rw [if_pos q8] at h k
    rcases h with ⟨h1, h2⟩ | ⟨W1, h1, h2⟩
    · rcases k with ⟨k1, k2⟩ | ⟨W2, k1, k2⟩
      · rw [h2, k2]
      · exact absurd h1 k1.some
    · rcases k with ⟨k1, k2⟩ | ⟨W2, k1, k2⟩
      · exact absurd k1 h1.some
      · rw [h2, k2, h1.det k1]
  rw [if_neg q8] at h k
  by_cases q9 : a.what = 9
  · rw [if_pos q9] at h k; rw [h, k]
  rw [if_neg q9] at h k
  by_cases q10 : a.what = 10
  · rw [if_pos q10] at h k; rw [h, k]
  rw [if_neg q10] at h k
  by_cases q11 : a.what = 11
  · rw [if_pos q11] at h k; rw [h, k]
  rw [if_neg q11] at h k
  by_cases q12 : a.what = 12
  · rw [if_pos q12] at h k
    obtain ⟨W1, h1, h2⟩ := h
    obtain ⟨W2, k1, k2⟩ := k
    rw [h2, k2, h1.det k1]
  rw [if_neg q12] at h k
  rw [h, k]

end Go.Proofs.YtemiamjnhoeniaaGreatDoor


namespace Go.Proofs.YtemiamjnhoeniaaGreatDoor
open Go.RowKit

def mapP (bm : Nat) (l : List Wr) : Part := ⟨fun w G => WMap w bm l ∧ ∀ k, G k ↔ k = bm, fun _ _ h k hk => by rw [(h.2 k).1 hk]; exact h.1.lt, fun _ _ _ h hk _ => ⟨h.1.kept (hk bm ((h.2 bm).2 rfl)), h.2⟩⟩
structure TaM where
  wb : Nat
  tv : Value
  ov : Value
  all : List TxM
  bm : Nat → Nat
def footT (b : Nat) (M : TaM) (k : Nat) : Prop := k = b ∨ M.tv.ownBlock = some k ∨ M.ov.ownBlock = some k ∨ ∃ m ∈ M.all, m.blk k
def taParts (M : TaM) (T : TaleS) : Nat → Part := fun i => if i = 0 then woP M.wb T.W else mapP (M.bm (i - 1)) (T.own (i - 1))
def mapsC (bm : Nat → Nat) (c : Nat) : List Value := (List.range c).map (fun k => .map (some (bm k)))
theorem mapsC_length (bm : Nat → Nat) (c : Nat) : (mapsC bm c).length = c := by simp [mapsC]
theorem maps_at {bm : Nat → Nat} {c k : Nat} (hk : k < c) : (mapsC bm c)[k]? = some (.map (some (bm k))) := by
  unfold mapsC
  rw [List.getElem?_map, List.getElem?_range hk]
  rfl
theorem mapsC_set (bm : Nat → Nat) (c k u : Nat) (hk : k < c) : (mapsC bm c).set k (.map (some u)) = mapsC (setN bm k u) c := by
  apply List.ext_getElem?
  intro j
  by_cases hj : j < c
  · rw [maps_at hj]
    by_cases e : j = k
    · subst e
      rw [List.getElem?_set_self (by rw [mapsC_length]; exact hj), setN_same]
    · rw [List.getElem?_set_ne (Ne.symm e), maps_at hj, setN_ne _ _ e]
  · rw [List.getElem?_eq_none (by rw [List.length_set, mapsC_length]; omega), List.getElem?_eq_none (by rw [mapsC_length]; omega)]
theorem mapsC_snoc (bm : Nat → Nat) (c u : Nat) : mapsC (setN bm c u) (c + 1) = mapsC bm c ++ [.map (some u)] := by
  unfold mapsC
  rw [List.range_succ, List.map_append]
  congr 1
  · apply List.map_congr_left
    intro j hj
    rw [setN_ne _ _ (by have := List.mem_range.1 hj; omega)]
  · simp [setN_same]
structure PTa (w : World) (b : Nat) (M : TaM) (T : TaleS) (c : Nat) (Gs : Nat → Nat → Prop) : Prop where
  box : RowL w b [.pointer (some ⟨M.wb, 0, none⟩), .int .i64 T.W.n, .int .i64 T.W.c, M.tv, M.ov]
  tr : w.ownsRow 0 80 9 M.tv M.all.length (txsC M.all)
  mr : w.ownsRow 0 134 1 M.ov c (mapsC M.bm c)
  al : M.all.map (·.t) = T.H
  wi : ∀ m ∈ M.all, WrIn w m.wa m.wc m.t.ws
  fam : AsideAt w (c + 1) (taParts M T) Gs (footT b M) (c + 1) NoY
  sb : M.tv.ownBlock ≠ some b ∧ M.ov.ownBlock ≠ some b
  sr : ∀ k, M.tv.ownBlock = some k → M.ov.ownBlock ≠ some k
  sw : ∀ m ∈ M.all, ∀ k, m.blk k → k ≠ b ∧ M.tv.ownBlock ≠ some k ∧ M.ov.ownBlock ≠ some k
def allT (b : Nat) (M : TaM) (N : Nat) (Gs : Nat → Nat → Prop) (k : Nat) : Prop := footT b M k ∨ ∃ i, i < N ∧ Gs i k
section
variable {w w' : World} {b : Nat} {M : TaM} {T : TaleS} {c : Nat} {Gs : Nat → Nat → Prop} {G : Nat → Prop}
theorem PTa.world (h : PTa w b M T c Gs) : PW w M.wb (Gs 0) T.W := h.fam.is 0 (by omega)
theorem PTa.map (h : PTa w b M T c Gs) {k : Nat} (hk : k < c) : WMap w (M.bm k) (T.own k) ∧ ∀ j, Gs (k + 1) j ↔ j = M.bm k := by
  have := h.fam.is (k + 1) (by omega)
  unfold taParts at this
  rw [if_neg (by omega)] at this
  exact this
theorem PTa.ltF (h : PTa w b M T c Gs) : ∀ k, footT b M k → k < w.heap.size := fun k hk => (h.fam.free k hk).1
theorem PTa.ltG (h : PTa w b M T c Gs) {i k : Nat} (hi : i < c + 1) (hk : Gs i k) : k < w.heap.size := (taParts M T i).lt _ _ (h.fam.is i hi) k hk
theorem PTa.lt (h : PTa w b M T c Gs) : ∀ k, allT b M (c + 1) Gs k → k < w.heap.size := fun k hk => by
  rcases hk with q | ⟨i, hi, q⟩
  · exact h.ltF k q
  · exact h.ltG hi q
theorem PTa.keep (h : PTa w b M T c Gs) {T' : TaleS} {Gs' : Nat → Nat → Prop} (hk : Keeps (footT b M) w w') (hf : AsideAt w' (c + 1) (taParts M T') Gs' (footT b M) (c + 1) NoY) (en : T'.W.n = T.W.n) (ec : T'.W.c = T.W.c) (eH : T'.H = T.H) : PTa w' b M T' c Gs' := by
  refine ⟨?_, own_keptN h.tr (fun k e => hk.block k (.inr (.inl e))), own_keptN h.mr (fun k e => hk.block k (.inr (.inr (.inl e)))), by rw [eH]; exact h.al, fun m hm => WrIn.kept (h.wi m hm) (fun k e => hk.block k (.inr (.inr (.inr ⟨m, hm, e⟩)))), hf, h.sb, h.sr, h.sw⟩
  rw [en, ec]
  exact h.box.keeps hk (.inl rfl)
theorem PTa.kept (h : PTa w b M T c Gs) (hk : ∀ k, allT b M (c + 1) Gs k → w'.heap[k]? = w.heap[k]?) (hs : w.heap.size ≤ w'.heap.size) : PTa w' b M T c Gs := by
  have kF : ∀ k, footT b M k → w'.heap[k]? = w.heap[k]? := fun k q => hk k (.inl q)
  exact ⟨h.box.kept (kF b (.inl rfl)) hs, own_keptN h.tr (fun k e => kF k (.inr (.inl e))), own_keptN h.mr (fun k e => kF k (.inr (.inr (.inl e)))), h.al, fun m hm => WrIn.kept (h.wi m hm) (fun k e => kF k (.inr (.inr (.inr ⟨m, hm, e⟩)))), h.fam.to (fun j k hj e => hk k (.inr ⟨j, hj, e⟩)) hs (fun k e => ⟨.inl e, Nat.lt_of_lt_of_le (h.ltF k e) hs⟩), h.sb, h.sr, h.sw⟩
end
def TA (w : World) (b : Nat) (G : Nat → Prop) (T : TaleS) : Prop := ∃ M Gs, PTa w b M T T.W.c Gs ∧ ∀ k, G k ↔ allT b M (T.W.c + 1) Gs k
section
variable {w w' : World} {b : Nat} {G : Nat → Prop} {T : TaleS}
theorem TA.lt (h : TA w b G T) : ∀ k, G k → k < w.heap.size := by
  obtain ⟨M, Gs, h, hG⟩ := h
  exact fun k hk => h.lt k ((hG k).1 hk)
theorem TA.kept (h : TA w b G T) (hk : ∀ k, G k → w'.heap[k]? = w.heap[k]?) (hs : w.heap.size ≤ w'.heap.size) : TA w' b G T := by
  obtain ⟨M, Gs, h, hG⟩ := h
  exact ⟨M, Gs, h.kept (fun k e => hk k ((hG k).2 e)) hs, hG⟩
theorem TA.later (h : TA w b G T) (hb : Below w.heap.size w w') : TA w' b G T := h.kept (fun k hk => hb.block k (h.lt k hk)) hb.size
end
def taP (b : Nat) (T : TaleS) : Part := ⟨fun w G => TA w b G T, fun _ _ h => h.lt, fun _ _ _ h => h.kept⟩
def TAPo (w : World) (b : Nat) (G : Nat → Prop) (T' : TaleS) (w' : World) : Prop := Left (taP b T') w G w'
def TaAt (w0 : World) (G : Nat → Prop) (b : Nat) (M : TaM) (T : TaleS) (X : Nat → Prop) (w : World) : Prop :=
  ∃ Gs, PTa w b M T T.W.c Gs ∧ (∀ k, allT b M (T.W.c + 1) Gs k → G k ∨ w0.heap.size ≤ k) ∧ Touch G w0 w ∧ ∀ k, X k → w0.heap.size ≤ k ∧ k < w.heap.size ∧ ¬ allT b M (T.W.c + 1) Gs k
section
variable {w0 w w' : World} {b : Nat} {G X : Nat → Prop} {M : TaM} {T : TaleS}
theorem TA.start (h : TA w b G T) : ∃ M, TaAt w G b M T NoY w := by
  obtain ⟨M, Gs, h, hG⟩ := h
  exact ⟨M, Gs, h, fun k hk => .inl ((hG k).2 hk), Touch.ofBelow (Below.refl _ _), fun k hk => hk.elim⟩
theorem TaAt.done (h : TaAt w0 G b M T X w) : TAPo w0 b G T w := by
  obtain ⟨Gs, h, hG, tt, _⟩ := h
  exact ⟨allT b M (T.W.c + 1) Gs, ⟨M, Gs, h, fun _ => Iff.rfl⟩, hG, tt⟩
theorem TaAt.later (h : TaAt w0 G b M T X w) (hb : Below w.heap.size w w') : TaAt w0 G b M T X w' := by
  obtain ⟨Gs, h, hG, tt, hX⟩ := h
  exact ⟨Gs, h.kept (fun k hk => hb.block k (h.lt k hk)) hb.size, hG, tt.trans (Touch.ofBelow hb), fun k hk => ⟨(hX k hk).1, Nat.lt_of_lt_of_le (hX k hk).2.1 hb.size, (hX k hk).2.2⟩⟩
theorem TaAt.more (h : TaAt w0 G b M T X w) (hb : Below w.heap.size w w') : TaAt w0 G b M T (fun k => X k ∨ (w.heap.size ≤ k ∧ k < w'.heap.size)) w' := by
  obtain ⟨Gs, h, hG, tt, hX⟩ := h
  refine ⟨Gs, h.kept (fun k hk => hb.block k (h.lt k hk)) hb.size, hG, tt.trans (Touch.ofBelow hb), fun k hk => ?_⟩
  rcases hk with q | q
  · exact ⟨(hX k q).1, Nat.lt_of_lt_of_le (hX k q).2.1 hb.size, (hX k q).2.2⟩
  · have := tt.size
    exact ⟨by omega, q.2, fun e => by have := h.lt k e; omega⟩
theorem TaAt.sub {X' : Nat → Prop} (h : TaAt w0 G b M T X w) (hX : ∀ k, X' k → X k) : TaAt w0 G b M T X' w := by
  obtain ⟨Gs, h, hG, tt, hx⟩ := h
  exact ⟨Gs, h, hG, tt, fun k hk => hx k (hX k hk)⟩
theorem TaAt.box (h : TaAt w0 G b M T X w) : RowL w b [.pointer (some ⟨M.wb, 0, none⟩), .int .i64 T.W.n, .int .i64 T.W.c, M.tv, M.ov] := by
  obtain ⟨Gs, h, _⟩ := h
  exact h.box
theorem TaAt.txs (h : TaAt w0 G b M T X w) : ∃ a cap, M.tv = .slice a M.all.length cap ∧ TxsIn w a cap M.all ∧ M.all.map (·.t) = T.H ∧ ∀ m ∈ M.all, WrIn w m.wa m.wc m.t.ws := by
  obtain ⟨Gs, h, _⟩ := h
  obtain ⟨a, cap, e, r⟩ := txsIn_own h.tr
  exact ⟨a, cap, e, r, h.al, h.wi⟩
theorem TaAt.maps (h : TaAt w0 G b M T X w) {k : Nat} (hk : k < T.W.c) : ∃ ob oc, M.ov = .slice (some ⟨ob, 0, none⟩) T.W.c oc ∧ T.W.c ≤ oc ∧ ob < w.heap.size ∧ w.cell? ⟨ob, k, none⟩ = some (.map (some (M.bm k))) ∧ WMap w (M.bm k) (T.own k) := by
  obtain ⟨Gs, h, _⟩ := h
  obtain ⟨a, cap, e, r⟩ := rowIn_own h.mr
  rcases r.held with h0 | ⟨g, rfl, hg, hc⟩
  · omega
  · exact ⟨g, cap, e, r.len, hg, hc _ _ (maps_at hk), (h.map hk).1⟩
theorem TaAt.wo (h : TaAt w0 G b M T X w) : ∃ Gw, PW w M.wb Gw T.W ∧ ∀ W' w', PWPo w M.wb Gw W' w' → W'.n = T.W.n → W'.c = T.W.c → TaAt w0 G b M (setW T W') X w' ∧ Keeps X w w' := by
  obtain ⟨Gs, h, hG, tt, hX⟩ := h
  refine ⟨Gs 0, h.world, fun W' w' hl en ec => ?_⟩
  obtain ⟨Gs', f, g, kp, t1⟩ := h.fam.stepG (ps' := taParts M (setW T W')) (i := 0) (by omega) (p := woP M.wb W') hl rfl (fun j hj hji => by
    show (if j = 0 then _ else _) = (if j = 0 then _ else _)
    rw [if_neg hji, if_neg hji]
    rfl)
  have e : (setW T W').W.c = T.W.c := ec
  have hh : PTa w' b M (setW T W') T.W.c Gs' := h.keep kp f en ec rfl
  have sub : ∀ k, allT b M (T.W.c + 1) Gs' k → allT b M (T.W.c + 1) Gs k ∨ w.heap.size ≤ k := fun k hk => by
    rcases hk with q | ⟨j, hj, q⟩
    · exact .inl (.inl q)
    · rcases g j k q with r | r
      · exact .inl (.inr ⟨j, hj, r⟩)
      · exact .inr r
  have s1 := tt.size
  have s2 := t1.size
  refine ⟨⟨Gs', by rw [e]; exact hh, fun k hk => ?_, tt.more t1 (fun k hk => hG k (.inr ⟨0, by omega, hk⟩)), fun k hk => ⟨(hX k hk).1, by have := (hX k hk).2.1; omega, fun q => ?_⟩⟩, ⟨t1.os, t1.tape, t1.output, t1.size, fun k hk => t1.block k (hX k hk).2.1 (fun q => (hX k hk).2.2 (.inr ⟨0, by omega, q⟩))⟩⟩
  · rw [e] at hk
    rcases sub k hk with q | q
    · exact hG k q
    · exact .inr (by omega)
  · rw [e] at q
    rcases sub k q with r | r
    · exact (hX k hk).2.2 r
    · have := (hX k hk).2.1; omega
end

end Go.Proofs.YtemiamjnhoeniaaGreatDoor


namespace Go.Proofs.YtemiamjnhoeniaaGreatDoor
open Go.RowKit

section
variable {w0 w w' : World} {b : Nat} {G X : Nat → Prop} {M : TaM} {T : TaleS}
def setOwn (T : TaleS) (k : Nat) (l : List Wr) : TaleS := ⟨T.W, T.H, setN T.own k l⟩
theorem TaAt.put (h : TaAt w0 G b M T X w) {k : Nat} (hk : k < T.W.c) {l : List Wr} (hM : WMap w' (M.bm k) l) (gr : w.grownBy w' (some (M.bm k))) : TaAt w0 G b M (setOwn T k l) X w' ∧ Keeps X w w' := by
  obtain ⟨Gs, h, hG, tt, hX⟩ := h
  have hm := h.map hk
  have hl : Left (mapP (M.bm k) l) w (Gs (k + 1)) w' := ⟨Gs (k + 1), ⟨hM, hm.2⟩, fun j hj => .inl hj, Touch.grown gr (fun j e => (hm.2 j).2 (by injection e with e; exact e.symm))⟩
  obtain ⟨Gs', f, g, kp, t1⟩ := h.fam.stepG (ps' := taParts M (setOwn T k l)) (i := k + 1) (by omega) (p := mapP (M.bm k) l) hl (by
    show (if k + 1 = 0 then _ else mapP (M.bm (k + 1 - 1)) (setN T.own k l (k + 1 - 1))) = _
    rw [if_neg (by omega), show k + 1 - 1 = k by omega, setN_same]) (fun j hj hji => by
    show (if j = 0 then woP M.wb T.W else mapP (M.bm (j - 1)) (setN T.own k l (j - 1))) = (if j = 0 then _ else _)
    by_cases q : j = 0
    · rw [if_pos q, if_pos q]
    · rw [if_neg q, if_neg q, setN_ne _ _ (by omega)])
  have sub : ∀ k, allT b M (T.W.c + 1) Gs' k → allT b M (T.W.c + 1) Gs k ∨ w.heap.size ≤ k := fun k hk => by
    rcases hk with q | ⟨j, hj, q⟩
    · exact .inl (.inl q)
    · rcases g j k q with r | r
      · exact .inl (.inr ⟨j, hj, r⟩)
      · exact .inr r
  have s1 := tt.size
  have s2 := t1.size
  refine ⟨⟨Gs', h.keep kp f rfl rfl rfl, fun j hj => ?_, tt.more t1 (fun j hj => hG j (.inr ⟨k + 1, by omega, hj⟩)), fun j hj => ⟨(hX j hj).1, by have := (hX j hj).2.1; omega, fun q => ?_⟩⟩, ⟨t1.os, t1.tape, t1.output, t1.size, fun j hj => t1.block j (hX j hj).2.1 (fun q => (hX j hj).2.2 (.inr ⟨k + 1, by omega, q⟩))⟩⟩
  · rcases sub j hj with q | q
    · exact hG j q
    · exact .inr (by omega)
  · rcases sub j q with r | r
    · exact (hX j hj).2.2 r
    · have := (hX j hj).2.1; omega
theorem own_free {B k g n cap j : Nat} {Ty : TypeId} {xs : List Value} (o : w.ownsRow B Ty k (.slice (some ⟨g, 0, none⟩) n cap) n xs) : w.frozen? ⟨g, j, none⟩ = false := by
  rcases o.2 with ⟨q, _⟩ | ⟨g2, cap2, cur, q, _, hg, _⟩
  · cases q
  · injection q with q1 q2 q3
    injection q1 with q1
    injection q1 with q1
    subst q1
    unfold World.frozen?
    rw [hg]
    simp
theorem TaAt.mapFree (h : TaAt w0 G b M T X w) {ob c oc : Nat} (hov : M.ov = .slice (some ⟨ob, 0, none⟩) c oc) (j : Nat) : w.frozen? ⟨ob, j, none⟩ = false := by
  obtain ⟨Gs, h, _⟩ := h
  have o := h.mr
  rw [hov] at o
  have e : c = T.W.c := by
    rcases o.2 with ⟨q, _⟩ | ⟨g2, cap2, cur, q, _⟩
    · cases q
    · injection q
  subst e
  exact own_free o
theorem TaAt.fresh (h : TaAt w0 G b M T X w) {k : Nat} (hk : k < T.W.c) {ob oc bn : Nat} (hov : M.ov = .slice (some ⟨ob, 0, none⟩) T.W.c oc) {w2 : World} (hb : Below w.heap.size w w2) (hn : w.heap.size ≤ bn) (hM : WMap w2 bn []) : TaAt w0 G b { M with bm := setN M.bm k bn } (setOwn T k []) X (w2.setCell ⟨ob, k, none⟩ (.map (some bn))) ∧ Keeps X w (w2.setCell ⟨ob, k, none⟩ (.map (some bn))) := by
  obtain ⟨Gs, h0, hG, tt, hX⟩ := h
  have h2 : PTa w2 b M T T.W.c Gs := h0.kept (fun j hj => hb.block j (h0.lt j hj)) hb.size
  have gn : M.ov.ownBlock = some ob := by rw [hov]; rfl
  have lo : ob < w.heap.size := h0.ltF ob (.inr (.inr (.inl gn)))
  have kS : ∀ j, j ≠ ob → (w2.setCell ⟨ob, k, none⟩ (.map (some bn))).heap[j]? = w2.heap[j]? := fun j hj => Below.heap_setCell _ _ _ _ (fun e => hj e)
  have sS : (w2.setCell ⟨ob, k, none⟩ (.map (some bn))).heap.size = w2.heap.size := by simp [World.setCell]
  obtain ⟨w', hw'⟩ : ∃ w', w2.setCell ⟨ob, k, none⟩ (.map (some bn)) = w' := ⟨_, rfl⟩
  have o := h2.mr
  rw [hov] at o
  have o2 := (o.stored k (.map (some bn))).1
  rw [mapsC_set _ _ _ _ hk, ← hov] at o2
  have tS : Touch (fun j => j = ob) w2 (w2.setCell ⟨ob, k, none⟩ (.map (some bn))) := Touch.setCell _ _ _ rfl
  rw [hw'] at kS sS o2 tS ⊢
  have sz := hb.size
  have sz0 := tt.size
  have bl := hM.lt
  have off : ∀ i j, i < T.W.c + 1 → Gs i j → j ≠ ob := fun i j hi hj e => (h2.fam.free ob (.inr (.inr (.inl gn)))).2 i hi (e ▸ hj)
  have hh : PTa w' b { M with bm := setN M.bm k bn } (setOwn T k []) T.W.c (fun j => if j = k + 1 then (fun q => q = bn) else Gs j) := by
    refine ⟨h2.box.kept (kS b (fun e => h2.sb.2 (by rw [gn, e]))) (by omega), own_keptN h2.tr (fun j e => kS j (fun q => h2.sr j e (by rw [gn, q]))), o2, h2.al, fun m hm => WrIn.kept (h2.wi m hm) (fun j e => kS j (fun q => (h2.sw m hm j e).2.2 (by rw [gn, q]))), ⟨fun i hi => ?_, fun i j q hi hj hij hq hq2 => ?_, fun q hq => ⟨?_, fun i hi hg => ?_⟩, fun q hq => hq.elim⟩, h2.sb, h2.sr, h2.sw⟩
    · by_cases e : i = k + 1
      · subst e
        show (if k + 1 = 0 then _ else mapP (setN M.bm k bn (k + 1 - 1)) (setN T.own k [] (k + 1 - 1))).is w' (if k + 1 = k + 1 then _ else _)
        rw [if_neg (by omega), if_pos rfl, show k + 1 - 1 = k by omega, setN_same, setN_same]
        exact ⟨hM.kept (kS bn (by omega)), fun j => Iff.rfl⟩
      · have ep : taParts { M with bm := setN M.bm k bn } (setOwn T k []) i = taParts M T i := by
          show (if i = 0 then woP M.wb T.W else mapP (setN M.bm k bn (i - 1)) (setN T.own k [] (i - 1))) = (if i = 0 then _ else _)
          by_cases q : i = 0
          · rw [if_pos q, if_pos q]
          · rw [if_neg q, if_neg q, setN_ne _ _ (by omega), setN_ne _ _ (by omega)]
        rw [ep, if_neg e]
        exact (taParts M T i).kept _ _ _ (h2.fam.is i hi) (fun j hj => kS j (off i j hi hj)) (by omega)
    · by_cases e1 : i = k + 1
      · rw [if_pos e1] at hq
        by_cases e2 : j = k + 1
        · exact hij (e1.trans e2.symm)
        · rw [if_neg e2] at hq2
          have := h0.ltG hj hq2
          have e : q = bn := hq
          omega
      · rw [if_neg e1] at hq
        by_cases e2 : j = k + 1
        · rw [if_pos e2] at hq2
          have := h0.ltG hi hq
          have e : q = bn := hq2
          omega
        · rw [if_neg e2] at hq2
          exact h2.fam.apart i j q hi hj hij hq hq2
    · have := h2.ltF q hq; omega
    · by_cases e1 : i = k + 1
      · rw [if_pos e1] at hg
        have e : q = bn := hg
        have := h0.ltF q hq
        omega
      · rw [if_neg e1] at hg
        exact (h2.fam.free q hq).2 i hi hg
  have sub : ∀ j, allT b { M with bm := setN M.bm k bn } (T.W.c + 1) (fun j => if j = k + 1 then (fun q => q = bn) else Gs j) j → allT b M (T.W.c + 1) Gs j ∨ j = bn := fun j hj => by
    rcases hj with q | ⟨i, hi, q⟩
    · exact .inl (.inl q)
    · have q' : (if i = k + 1 then (fun q => q = bn) else Gs i) j := q
      by_cases e : i = k + 1
      · rw [if_pos e] at q'; exact .inr q'
      · rw [if_neg e] at q'; exact .inl (.inr ⟨i, hi, q'⟩)
  refine ⟨⟨_, hh, fun j hj => ?_, (tt.trans (Touch.ofBelow hb)).more tS (fun j hj => by rw [show j = ob from hj]; exact hG ob (.inl (.inr (.inr (.inl gn))))), fun j hj => ⟨(hX j hj).1, by have := (hX j hj).2.1; omega, fun q => ?_⟩⟩, ⟨tS.os.trans hb.os, tS.tape.trans hb.tape, tS.output.trans hb.output, by omega, fun j hj => (kS j (fun e => (hX j hj).2.2 (by rw [e]; exact .inl (.inr (.inr (.inl gn)))))).trans (hb.block j (hX j hj).2.1)⟩⟩
  · rcases sub j hj with q | q
    · exact hG j q
    · exact .inr (by omega)
  · rcases sub j q with r | r
    · exact (hX j hj).2.2 r
    · have := (hX j hj).2.1; omega
theorem TaAt.push {w3 wE : World} {g cap9 : Nat} {m : TxM} (h : TaAt w0 G b M T (fun k => X k ∨ m.blk k) w) (hW : WrIn w m.wa m.wc m.t.ws) (hXm : ∀ k, X k → ¬ m.blk k) (hb3 : Below w.heap.size w w3)
    (own : wE.ownsRow 0 80 9 (.slice (some ⟨g, 0, none⟩) (M.all.length + 1) cap9) (M.all.length + 1) (txsC M.all ++ txC m)) (gr : w3.grownBy wE M.tv.ownBlock) (eg : M.tv.ownBlock = some g ∨ g = w3.heap.size) (hlt : g < wE.heap.size) :
    TaAt w0 G b { M with tv := .slice (some ⟨g, 0, none⟩) (M.all.length + 1) cap9, all := M.all ++ [m] } ⟨T.W, T.H ++ [m.t], T.own⟩ X (wE.setCell ⟨b, 3, none⟩ (.slice (some ⟨g, 0, none⟩) (M.all.length + 1) cap9)) ∧ Keeps X w (wE.setCell ⟨b, 3, none⟩ (.slice (some ⟨g, 0, none⟩) (M.all.length + 1) cap9)) := by
  obtain ⟨Gs, h, hG, tt, hX⟩ := h
  have s3 := hb3.size
  have sE := gr.size
  have s0 := tt.size
  have lb : b < w.heap.size := h.ltF b (.inl rfl)
  have kE : ∀ k, k < w.heap.size → M.tv.ownBlock ≠ some k → wE.heap[k]? = w.heap[k]? := fun k hk hn => (gr.block k (by omega) (fun e => hn e.symm)).trans (hb3.block k hk)
  have kS : ∀ j, j ≠ b → (wE.setCell ⟨b, 3, none⟩ (.slice (some ⟨g, 0, none⟩) (M.all.length + 1) cap9)).heap[j]? = wE.heap[j]? := fun j hj => Below.heap_setCell _ _ _ _ (fun e => hj e)
  have sS : (wE.setCell ⟨b, 3, none⟩ (.slice (some ⟨g, 0, none⟩) (M.all.length + 1) cap9)).heap.size = wE.heap.size := by simp [World.setCell]
  have tS : Touch (fun j => j = b) wE (wE.setCell ⟨b, 3, none⟩ (.slice (some ⟨g, 0, none⟩) (M.all.length + 1) cap9)) := Touch.setCell _ _ _ rfl
  have bx := (h.box.kept (kE b lb h.sb.1) (by omega)).set 3 (.slice (some ⟨g, 0, none⟩) (M.all.length + 1) cap9) (by simp)
  obtain ⟨w', hw'⟩ : ∃ w', wE.setCell ⟨b, 3, none⟩ (.slice (some ⟨g, 0, none⟩) (M.all.length + 1) cap9) = w' := ⟨_, rfl⟩
  rw [hw'] at kS sS tS bx ⊢
  have kp : ∀ k, k < w.heap.size → M.tv.ownBlock ≠ some k → k ≠ b → w'.heap[k]? = w.heap[k]? := fun k h1 h2 h3 => (kS k h3).trans (kE k h1 h2)
  have gb : (Value.slice (some ⟨g, 0, none⟩) (M.all.length + 1) cap9).ownBlock = some g := rfl
  have gnb : g ≠ b := by
    rcases eg with q | q
    · exact fun e => h.sb.1 (by rw [q, e])
    · omega
  have mX : ∀ k, m.blk k → k < w.heap.size ∧ k ≠ b ∧ M.tv.ownBlock ≠ some k ∧ M.ov.ownBlock ≠ some k ∧ ∀ i, i < T.W.c + 1 → ¬ Gs i k := fun k hk => by
    have q := hX k (.inr hk)
    exact ⟨q.2.1, fun e => q.2.2 (.inl (.inl e)), fun e => q.2.2 (.inl (.inr (.inl e))), fun e => q.2.2 (.inl (.inr (.inr (.inl e)))), fun i hi e => q.2.2 (.inr ⟨i, hi, e⟩)⟩
  have offF : ∀ i j, i < T.W.c + 1 → Gs i j → ¬ footT b M j := fun i j hi hj e => (h.fam.free j e).2 i hi hj
  have foot : ∀ k, footT b { M with tv := .slice (some ⟨g, 0, none⟩) (M.all.length + 1) cap9, all := M.all ++ [m] } k → footT b M k ∨ (k = g ∧ g = w3.heap.size) ∨ m.blk k := fun k hk => by
    rcases hk with e | e | e | ⟨x, hx, e⟩
    · exact .inl (.inl e)
    · have e' : some g = some k := e
      injection e' with e'
      subst e'
      rcases eg with q | q
      · exact .inl (.inr (.inl q))
      · exact .inr (.inl ⟨rfl, q⟩)
    · exact .inl (.inr (.inr (.inl e)))
    · rcases List.mem_append.1 hx with q | q
      · exact .inl (.inr (.inr (.inr ⟨x, q, e⟩)))
      · rw [List.mem_singleton.1 q] at e
        exact .inr (.inr e)
  have hh : PTa w' b { M with tv := .slice (some ⟨g, 0, none⟩) (M.all.length + 1) cap9, all := M.all ++ [m] } ⟨T.W, T.H ++ [m.t], T.own⟩ T.W.c Gs := by
    refine ⟨bx, ?_, own_keptN h.mr (fun k e => kp k (h.ltF k (.inr (.inr (.inl e)))) (fun q => h.sr k q e) (fun q => h.sb.2 (by rw [← q]; exact e))), ?_, fun x hx => ?_, ⟨fun i hi => ?_, h.fam.apart, fun k hk => ⟨?_, fun i hi hg => ?_⟩, fun k hk => hk.elim⟩, ⟨fun e => ?_, h.sb.2⟩, fun k e => ?_, fun x hx k hk => ?_⟩
    · show w'.ownsRow 0 _ 9 (.slice (some ⟨g, 0, none⟩) (M.all.length + 1) cap9) (M.all ++ [m]).length (txsC (M.all ++ [m]))
      rw [txsC_snoc, List.length_append]
      exact own_keptN own (fun k e => kS k (fun q => by rw [gb] at e; injection e with e; exact gnb (e.trans q)))
    · show (M.all ++ [m]).map (·.t) = T.H ++ [m.t]
      rw [List.map_append, h.al]
      rfl
    · rcases List.mem_append.1 hx with q | q
      · exact WrIn.kept (h.wi x q) (fun k hk => kp k ((h.wi x q).blk_lt k hk) (h.sw x q k hk).2.1 (h.sw x q k hk).1)
      · rw [List.mem_singleton.1 q]
        exact WrIn.kept hW (fun k hk => kp k (mX k hk).1 (mX k hk).2.2.1 (mX k hk).2.1)
    · exact (taParts M T i).kept _ _ _ (h.fam.is i hi) (fun k hk => kp k (h.ltG hi hk) (fun e => offF i k hi hk (.inr (.inl e))) (fun e => offF i k hi hk (.inl e))) (by omega)
    · rcases foot k hk with q | q | q
      · have := h.ltF k q; omega
      · omega
      · have := (mX k q).1; omega
    · rcases foot k hk with q | q | q
      · exact offF i k hi hg q
      · have := h.ltG hi hg; omega
      · exact (mX k q).2.2.2.2 i hi hg
    · have e' : some g = some b := e
      injection e' with e'
      exact gnb e'
    · have e' : some g = some k := e
      injection e' with e'
      subst e'
      rcases eg with q | q
      · exact h.sr g q
      · exact fun e2 => by have := h.ltF g (.inr (.inr (.inl e2))); omega
    · have old : ∀ u, footT b M u → M.tv.ownBlock = some u ∨ (Value.slice (some ⟨g, 0, none⟩) (M.all.length + 1) cap9).ownBlock ≠ some u := fun u hu => by
        rcases eg with q | q
        · by_cases e : g = u
          · exact .inl (by rw [q, e])
          · exact .inr (fun e2 => by rw [gb] at e2; injection e2 with e2; exact e e2)
        · exact .inr (fun e2 => by rw [gb] at e2; injection e2 with e2; have := h.ltF u hu; omega)
      rcases List.mem_append.1 hx with q | q
      · refine ⟨(h.sw x q k hk).1, ?_, (h.sw x q k hk).2.2⟩
        rcases old k (.inr (.inr (.inr ⟨x, q, hk⟩))) with r | r
        · exact absurd r (h.sw x q k hk).2.1
        · exact r
      · rw [List.mem_singleton.1 q] at hk
        refine ⟨(mX k hk).2.1, fun e2 => ?_, (mX k hk).2.2.2.1⟩
        have e' : some g = some k := e2
        injection e' with e'
        subst e'
        rcases eg with r | r
        · exact (mX g hk).2.2.1 r
        · have := (mX g hk).1; omega
  refine ⟨⟨Gs, hh, fun j hj => ?_, ((tt.trans (Touch.ofBelow hb3)).more (Touch.grown (F := fun k => M.tv.ownBlock = some k) gr (fun k e => e)) (fun k hk => hG k (.inl (.inr (.inl hk))))).more tS (fun j hj => by rw [show j = b from hj]; exact hG b (.inl (.inl rfl))), fun j hj => ⟨(hX j (.inl hj)).1, by have := (hX j (.inl hj)).2.1; omega, fun q => ?_⟩⟩, ⟨tS.os.trans (gr.os.trans hb3.os), tS.tape.trans (gr.tape.trans hb3.tape), tS.output.trans (gr.output.trans hb3.output), by omega, fun j hj => kp j (hX j (.inl hj)).2.1 (fun e => (hX j (.inl hj)).2.2 (.inl (.inr (.inl e)))) (fun e => (hX j (.inl hj)).2.2 (.inl (.inl e)))⟩⟩
  · rcases hj with q | ⟨i, hi, q⟩
    · rcases foot j q with r | r | r
      · exact hG j (.inl r)
      · exact .inr (by omega)
      · exact .inr (hX j (.inr r)).1
    · exact hG j (.inr ⟨i, hi, q⟩)
  · rcases q with q | ⟨i, hi, q⟩
    · rcases foot j q with r | r | r
      · exact (hX j (.inl hj)).2.2 (.inl r)
      · have := (hX j (.inl hj)).2.1; omega
      · exact hXm j hj r
    · exact (hX j (.inl hj)).2.2 (.inr ⟨i, hi, q⟩)
def Part.off (p : Part) (Y : Nat → Prop) : Part := ⟨fun w G => p.is w G ∧ ∀ k, Y k → ¬ G k, fun w G h => p.lt w G h.1, fun w w' G h hk hs => ⟨p.kept w w' G h.1 hk hs, h.2⟩⟩
theorem wcW_n (W : WoS) (i : Nat) : (wcW W i).n = W.n ∧ (wcW W i).c = W.c := by
  unfold wcW
  by_cases h : 0 < (wcT W i).seq
  · rw [if_pos h]
    exact ⟨(tellW_same (wcT W i) W.n (wcW0 W i)).n, (tellW_same (wcT W i) W.n (wcW0 W i)).c⟩
  · rw [if_neg h]
    exact ⟨rfl, rfl⟩
def ComTa (w0 : World) (G : Nat → Prop) (b : Nat) (M : TaM) (T : TaleS) (X : Nat → Prop) (w : World) (i : Nat) (m : TxM) (w' : World) : Prop :=
  Hid (m.t = wcT T.W i ∧ WrIn w' m.wa m.wc m.t.ws ∧ TaAt w0 G b M (setW T (wcW T.W i)) (fun k => X k ∨ m.blk k) w' ∧ Keeps X w w' ∧ ∀ k, m.blk k → w.heap.size ≤ k)
theorem TaAt.commit (h : TaAt w0 G b M T X w) : ∃ Gw, PW w M.wb Gw T.W ∧ ∀ i e w', WCommit w M.wb Gw T.W i e w' → ∃ m : TxM, e = .returned (.tuple #[txV m, errV (wcE T.W i)]) ∧ ComTa w0 G b M T X w i m w' := by
  obtain ⟨Gs, h, hG, tt, hX⟩ := h
  refine ⟨Gs 0, h.world, fun i e w' ⟨m, he, hm, hh⟩ => ⟨m, he, hm, hh.out.1, ?_⟩⟩
  obtain ⟨hW, G', p1, p2, p3, p4⟩ := hh.out
  obtain ⟨en, ec⟩ := wcW_n T.W i
  obtain ⟨Gs', f, g, kp, t1⟩ := h.fam.stepG (ps' := fun j => if j = 0 then (woP M.wb (wcW T.W i)).off m.blk else taParts M T j) (i := 0) (by omega) (p := (woP M.wb (wcW T.W i)).off m.blk) ⟨G', ⟨p1, fun k hk => (p4 k hk).2⟩, p2, p3⟩ rfl (fun j hj hji => by
    show (if j = 0 then _ else _) = _
    rw [if_neg hji])
  have offm : ∀ k, m.blk k → ¬ Gs' 0 k := (f.is 0 (by omega)).2
  have f2 : AsideAt w' (T.W.c + 1) (taParts M (setW T (wcW T.W i))) Gs' (footT b M) (T.W.c + 1) NoY := ⟨fun j hj => by
    have q := f.is j hj
    by_cases e : j = 0
    · subst e; exact q.1
    · rw [if_neg e] at q
      unfold taParts at q ⊢
      rw [if_neg e] at q ⊢
      exact q, f.apart, f.free, f.half⟩
  have e : (setW T (wcW T.W i)).W.c = T.W.c := ec
  have s1 := tt.size
  have s2 := t1.size
  have sub : ∀ k, allT b M (T.W.c + 1) Gs' k → allT b M (T.W.c + 1) Gs k ∨ w.heap.size ≤ k := fun k hk => by
    rcases hk with q | ⟨j, hj, q⟩
    · exact .inl (.inl q)
    · rcases g j k q with r | r
      · exact .inl (.inr ⟨j, hj, r⟩)
      · exact .inr r
  refine ⟨⟨Gs', by rw [e]; exact h.keep kp f2 en ec rfl, fun k hk => ?_, tt.more t1 (fun k hk => hG k (.inr ⟨0, by omega, hk⟩)), fun k hk => ?_⟩, ⟨t1.os, t1.tape, t1.output, t1.size, fun k hk => t1.block k (hX k hk).2.1 (fun q => (hX k hk).2.2 (.inr ⟨0, by omega, q⟩))⟩, fun k hk => (p4 k hk).1⟩
  · rw [e] at hk
    rcases sub k hk with q | q
    · exact hG k q
    · exact .inr (by omega)
  rw [e]
  rcases hk with hk | hk
  · refine ⟨(hX k hk).1, by have := (hX k hk).2.1; omega, fun q => ?_⟩
    rcases sub k q with r | r
    · exact (hX k hk).2.2 r
    · have := (hX k hk).2.1; omega
  · refine ⟨by have := (p4 k hk).1; omega, hW.blk_lt k hk, fun q => ?_⟩
    have new := (p4 k hk).1
    rcases q with q | ⟨j, hj, q⟩
    · have := h.ltF k q; omega
    · by_cases ej : j = 0
      · subst ej; exact offm k hk q
      · rcases g j k q with r | r
        · have := h.ltG hj r; omega
        · have q2 := f2.is j hj
          unfold taParts at q2
          rw [if_neg ej] at q2
          have e3 : k = M.bm (j - 1) := (q2.2 k).1 q
          have := (h.map (k := j - 1) (by omega)).1.lt
          omega
end

end Go.Proofs.YtemiamjnhoeniaaGreatDoor


namespace Go.Proofs.YtemiamjnhoeniaaGreatDoor
open Go.RowKit

def snapOf (s : SesS) (x : Int) : Int := depOf x s.s0 s.s1 s.s2 s.s3
def baseOf (v : V4) (x : Int) : Int := depOf x v.v0 v.v1 v.v2 v.v3
structure CInv (base : Nat → V4) (T : TaleS) (k : Nat) : Prop where
  le : ∀ s, 0 ≤ s → s ≤ 3 → snapOf (T.W.ses k) s ≤ appl (T.W.S (T.W.at_ k)) s
  ge : ∀ s, 0 ≤ s → s ≤ 3 → baseOf (base (T.W.at_ k)) s ≤ snapOf (T.W.ses k) s
  clo : ∀ x ∈ T.H, x.seq ≤ snapOf (T.W.ses k) x.site → ∀ s, 0 ≤ s → s ≤ 3 → over x s ≤ snapOf (T.W.ses k) s
  own : T.own k = (T.W.ses k).ws
  key : ∀ x ∈ (T.W.ses k).ws, 0 ≤ x.key ∧ x.key < 8
structure TI (base : Nat → V4) (Tg T : TaleS) (m : Nat) : Prop where
  eH : T.H = Tg.H
  eo : T.own = Tg.own
  gi : GInv Tg.H Tg.W
  sim : SimW base Tg.W T.W
  wf : WfW T.W
  c1 : 1 ≤ Tg.W.c
  len : Tg.H.length ≤ m
  wall : ∀ i, i < Tg.W.n → 0 ≤ Tg.W.wall i ∧ Tg.W.wall i ≤ 1099511627776
  cl : ∀ k, k < Tg.W.c → (Tg.W.ses k).opn = true → CInv base Tg k
  bs : ∀ i, i < Tg.W.n → ∀ s, 0 ≤ s → s ≤ 3 → baseOf (base i) s ≤ appl (Tg.W.S i) s
theorem setN_self {α : Type} (f : Nat → α) (i : Nat) : setN f i (f i) = f := by
  funext j
  by_cases h : j = i
  · rw [h, setN_same]
  · rw [setN_ne _ _ h]
theorem setSite_self (W : WoS) (i : Nat) : setSite W i (W.S i) = W := by unfold setSite; rw [setN_self]
theorem setSes_self (W : WoS) (i : Nat) : setSes W i (W.ses i) = W := by unfold setSes; rw [setN_self]
section
variable {W W' : WoS} {H : List TxP} {base : Nat → V4} {G : WoS}
theorem WfW.ses (h : WfW W) (f : Nat → SesS) : WfW { W with ses := f } := ⟨h.n1, h.n4, h.c6, h.at_, h.inv, h.id, h.net, h.wt, h.lok, h.to⟩
theorem WfW.walls (h : WfW W) (f : Nat → Int) : WfW { W with wall := f } := ⟨h.n1, h.n4, h.c6, h.at_, h.inv, h.id, h.net, h.wt, h.lok, h.to⟩
theorem WfW.ats (h : WfW W) {f : Nat → Nat} (hf : ∀ k, k < W.c → f k < W.n) : WfW { W with at_ := f } := ⟨h.n1, h.n4, h.c6, hf, h.inv, h.id, h.net, h.wt, h.lok, h.to⟩
theorem GInv.ses (h : GInv H W) (f : Nat → SesS) : GInv H { W with ses := f } := ⟨h.hist, h.wf.ses f, h.len, h.ov, h.lg, h.nx, h.own, h.low, h.net⟩
theorem GInv.walls (h : GInv H W) (f : Nat → Int) : GInv H { W with wall := f } := ⟨h.hist, h.wf.walls f, h.len, h.ov, h.lg, h.nx, h.own, h.low, h.net⟩
theorem GInv.ats (h : GInv H W) {f : Nat → Nat} (hf : ∀ k, k < W.c → f k < W.n) : GInv H { W with at_ := f } := ⟨h.hist, h.wf.ats hf, h.len, h.ov, h.lg, h.nx, h.own, h.low, h.net⟩
theorem GInv.send (h : GInv H W) {g : GrS} (hg : g.to < W.n) (ht : ∀ t, g.body = .tx t → t ∈ H) : GInv H (sendW W g) :=
  h.same (sendW_same W g) (h.wf.send hg) (fun x hx t e => by
    rcases sendW_mem hx with q | q
    · exact h.net x q t e
    · rw [q] at e; exact ht t e)
theorem GInv.tell (h : GInv H W) {t : TxP} (ht : t ∈ H) {k : Nat} (hk : k ≤ W.n) : GInv H (tellW t k W) :=
  h.same (tellW_same t k W) (h.wf.tell k W hk) (fun x hx u e => by
    rcases tellW_mem k hx with q | ⟨_, q⟩
    · exact h.net x q u e
    · rw [q] at e
      injection e with e
      rw [← e]
      exact ht)
theorem WfW.bring (hb : BringTo W W') : WfW W → WfW W' := by
  induction hb with
  | none _ => exact fun h => h
  | step _ hd _ ih => exact fun h => ih (h.deliver hd)
theorem WfW.asks {k m : Nat} (ha : AsksTo k m W W') : WfW W → m ≤ W.n → WfW W' := by
  induction ha with
  | zero => exact fun h _ => h
  | self _ _ ih => exact fun h hm => ih h (by omega)
  | @ask W W1 W' m h1 hne hb ih =>
    intro h hm
    have kn := h1.keep.n
    exact WfW.bring hb ((ih h (by omega)).send (by show m < W1.n; omega))
theorem WfW.round {m : Nat} (hr : RoundTo m W W') : WfW W → WfW W' := by
  induction hr with
  | zero => exact fun h => h
  | next _ ha ih => exact fun h => WfW.asks ha (ih h) (Nat.le_refl _)
theorem WfW.calm (h : WfW W) (hc : CalmTo W W') : WfW W' := by
  obtain ⟨W1, h1, h2⟩ := hc
  exact WfW.round h2 (WfW.bring h1 h)
end

section
variable {base : Nat → V4} {Tg T T' : TaleS} {m : Nat}
theorem TI.more {m' : Nat} (h : TI base Tg T m) (hm : m ≤ m') : TI base Tg T m' := ⟨h.eH, h.eo, h.gi, h.sim, h.wf, h.c1, by have := h.len; omega, h.wall, h.cl, h.bs⟩
theorem TI.keep (h : TI base Tg T m) {G' W' : WoS} (k : KeepW Tg.W G') (hg : GInv Tg.H G') (hs : SimW base G' W') (hw : WfW W') (hm : ∀ i, i < Tg.W.n → ∀ s, 0 ≤ s → s ≤ 3 → appl (Tg.W.S i) s ≤ appl (G'.S i) s) : TI base (setW Tg G') (setW T W') m := by
  refine ⟨h.eH, h.eo, hg, hs, hw, ?_, h.len, ?_, ?_, ?_⟩
  · show 1 ≤ G'.c; rw [k.c]; exact h.c1
  · show ∀ i, i < G'.n → 0 ≤ G'.wall i ∧ G'.wall i ≤ 1099511627776; rw [k.n, k.wall]; exact h.wall
  · show ∀ j, j < G'.c → (G'.ses j).opn = true → _
    rw [k.c, k.ses]
    intro j hj ho
    have c := h.cl j hj ho
    refine ⟨?_, ?_, ?_, ?_, ?_⟩
    · show ∀ s, 0 ≤ s → s ≤ 3 → snapOf (G'.ses j) s ≤ appl (G'.S (G'.at_ j)) s
      rw [k.ses, k.at_]
      intro s h0 h3
      exact Int.le_trans (c.le s h0 h3) (hm _ (h.gi.wf.at_ j hj) s h0 h3)
    · show ∀ s, 0 ≤ s → s ≤ 3 → baseOf (base (G'.at_ j)) s ≤ snapOf (G'.ses j) s
      rw [k.ses, k.at_]
      exact c.ge
    · show ∀ x ∈ Tg.H, x.seq ≤ snapOf (G'.ses j) x.site → ∀ s, 0 ≤ s → s ≤ 3 → over x s ≤ snapOf (G'.ses j) s
      rw [k.ses]
      exact c.clo
    · show Tg.own j = (G'.ses j).ws
      rw [k.ses]
      exact c.own
    · show ∀ x ∈ (G'.ses j).ws, _
      rw [k.ses]
      exact c.key
  · show ∀ i, i < G'.n → _
    rw [k.n]
    exact fun i hi s h0 h3 => Int.le_trans (h.bs i hi s h0 h3) (hm i hi s h0 h3)
theorem TI.client (h : TI base Tg T m) {k : Nat} (hk : k < Tg.W.c) {s' : SesS} {l : List Wr} (hc : s'.opn = true → CInv base ⟨setSes Tg.W k s', Tg.H, setN Tg.own k l⟩ k) : TI base ⟨setSes Tg.W k s', Tg.H, setN Tg.own k l⟩ ⟨setSes T.W k s', T.H, setN T.own k l⟩ m := by
  refine ⟨h.eH, by show setN T.own k l = setN Tg.own k l; rw [h.eo], h.gi.ses _, ⟨h.sim.n, h.sim.c, h.sim.wall, ?_, h.sim.at_, h.sim.net, h.sim.lost, h.sim.si⟩, h.wf.ses _, h.c1, h.len, h.wall, ?_, h.bs⟩
  · show setN T.W.ses k s' = setN Tg.W.ses k s'
    rw [h.sim.ses]
  · intro j hj ho
    by_cases q : j = k
    · subst q
      have e : (setSes Tg.W j s').ses j = s' := setN_same _ _ _
      rw [e] at ho
      exact hc ho
    · have e : (setSes Tg.W k s').ses j = Tg.W.ses j := setN_ne _ _ q
      have e2 : setN Tg.own k l j = Tg.own j := setN_ne _ _ q
      rw [e] at ho
      have c := h.cl j hj ho
      refine ⟨?_, ?_, ?_, ?_, ?_⟩
      · show ∀ s, 0 ≤ s → s ≤ 3 → snapOf ((setSes Tg.W k s').ses j) s ≤ _
        rw [e]; exact c.le
      · show ∀ s, 0 ≤ s → s ≤ 3 → _ ≤ snapOf ((setSes Tg.W k s').ses j) s
        rw [e]; exact c.ge
      · show ∀ x ∈ Tg.H, x.seq ≤ snapOf ((setSes Tg.W k s').ses j) x.site → ∀ s, 0 ≤ s → s ≤ 3 → over x s ≤ snapOf ((setSes Tg.W k s').ses j) s
        rw [e]; exact c.clo
      · show setN Tg.own k l j = ((setSes Tg.W k s').ses j).ws
        rw [e, e2]; exact c.own
      · show ∀ x ∈ ((setSes Tg.W k s').ses j).ws, _
        rw [e]; exact c.key
theorem TI.ap (h : TI base Tg T m) {i : Nat} (hi : i < Tg.W.n) : (T.W.S i).a0 = (Tg.W.S i).a0 ∧ (T.W.S i).a1 = (Tg.W.S i).a1 ∧ (T.W.S i).a2 = (Tg.W.S i).a2 ∧ (T.W.S i).a3 = (Tg.W.S i).a3 := ⟨(h.sim.si i hi).ap0, (h.sim.si i hi).ap1, (h.sim.si i hi).ap2, (h.sim.si i hi).ap3⟩
theorem TI.begin (h : TI base Tg T m) {k : Nat} (hk : k < Tg.W.c) : TI base (begT Tg k) (begT T k) m := by
  have hat := h.gi.wf.at_ k hk
  obtain ⟨e0, e1, e2, e3⟩ := h.ap hat
  have eb : begE (T.W.S (T.W.at_ k)) (T.W.ses k) = begE (Tg.W.S (Tg.W.at_ k)) (Tg.W.ses k) := by
    rw [h.sim.ses, h.sim.at_]
    unfold begE
    rw [e0, e1, e2, e3]
  have es : begS (T.W.S (T.W.at_ k)) (T.W.ses k) = begS (Tg.W.S (Tg.W.at_ k)) (Tg.W.ses k) := by
    unfold begS
    rw [eb]
    rw [h.sim.ses, h.sim.at_, e0, e1, e2, e3]
  unfold begT
  rw [eb, es]
  by_cases q : begE (Tg.W.S (Tg.W.at_ k)) (Tg.W.ses k) = 0
  · rw [if_pos q, if_pos q]
    refine h.client hk (fun ho => ?_)
    have e : (setSes Tg.W k (begS (Tg.W.S (Tg.W.at_ k)) (Tg.W.ses k))).ses k = { Tg.W.ses k with opn := true, s0 := (Tg.W.S (Tg.W.at_ k)).a0, s1 := (Tg.W.S (Tg.W.at_ k)).a1, s2 := (Tg.W.S (Tg.W.at_ k)).a2, s3 := (Tg.W.S (Tg.W.at_ k)).a3, ws := [] } := by
      show setN _ k _ k = _
      rw [setN_same]
      unfold begS
      rw [if_pos q]
    have en : ∀ s, snapOf ((setSes Tg.W k (begS (Tg.W.S (Tg.W.at_ k)) (Tg.W.ses k))).ses k) s = appl (Tg.W.S (Tg.W.at_ k)) s := fun s => by rw [e]; rfl
    have ov := h.gi.ov _ hat
    refine ⟨fun s h0 h3 => ?_, fun s h0 h3 => ?_, fun x hx hs s h0 h3 => ?_, ?_, fun x hx => ?_⟩
    · show snapOf ((setSes Tg.W k _).ses k) s ≤ _
      rw [en]; exact Int.le_refl _
    · show _ ≤ snapOf ((setSes Tg.W k _).ses k) s
      rw [en]; exact h.bs _ hat s h0 h3
    · show over x s ≤ snapOf ((setSes Tg.W k _).ses k) s
      have hs' : x.seq ≤ snapOf ((setSes Tg.W k (begS (Tg.W.S (Tg.W.at_ k)) (Tg.W.ses k))).ses k) x.site := hs
      rw [en] at hs'
      rw [en]
      exact ov.clo x ((ov.has x hx).2 hs') s h0 h3
    · show setN Tg.own k [] k = ((setSes Tg.W k _).ses k).ws
      rw [setN_same, e]
    · have hx' : x ∈ ((setSes Tg.W k (begS (Tg.W.S (Tg.W.at_ k)) (Tg.W.ses k))).ses k).ws := hx
      rw [e] at hx'
      cases hx'
  · rw [if_neg q, if_neg q]
    have e : begS (Tg.W.S (Tg.W.at_ k)) (Tg.W.ses k) = Tg.W.ses k := by unfold begS; rw [if_neg q]
    rw [e, setSes_self, ← h.sim.ses, setSes_self]
    exact h
theorem TI.write (h : TI base Tg T m) {k : Nat} (hk : k < Tg.W.c) (x : Wr) : TI base (wriT Tg k x) (wriT T k x) m := by
  unfold wriT
  rw [h.sim.ses]
  by_cases q : wriE (Tg.W.ses k) x = 0
  · rw [if_pos q, if_pos q, h.eo]
    have es : wriS (Tg.W.ses k) x = { Tg.W.ses k with ws := (Tg.W.ses k).ws ++ [x] } := by unfold wriS; rw [if_pos q]
    have hop : (Tg.W.ses k).opn = true := by
      cases o : (Tg.W.ses k).opn with
      | true => rfl
      | false => unfold wriE at q; rw [if_pos o] at q; cases q
    have hkey : 0 ≤ x.key ∧ x.key < 8 := by
      unfold wriE at q
      rw [if_neg (by rw [hop]; decide)] at q
      by_cases c : x.key < 0 ∨ 8 ≤ x.key
      · rw [if_pos c] at q; cases q
      · omega
    have c := h.cl k hk hop
    have r := h.client (T := T) (s' := wriS (Tg.W.ses k) x) (l := Tg.own k ++ [x]) hk (fun _ => by
      have e : (setSes Tg.W k (wriS (Tg.W.ses k) x)).ses k = { Tg.W.ses k with ws := (Tg.W.ses k).ws ++ [x] } := by
        show setN _ k _ k = _
        rw [setN_same, es]
      refine ⟨?_, ?_, ?_, ?_, ?_⟩
      · show ∀ s, 0 ≤ s → s ≤ 3 → snapOf ((setSes Tg.W k (wriS (Tg.W.ses k) x)).ses k) s ≤ _
        rw [e]; exact c.le
      · show ∀ s, 0 ≤ s → s ≤ 3 → _ ≤ snapOf ((setSes Tg.W k (wriS (Tg.W.ses k) x)).ses k) s
        rw [e]; exact c.ge
      · show ∀ y ∈ Tg.H, y.seq ≤ snapOf ((setSes Tg.W k (wriS (Tg.W.ses k) x)).ses k) y.site → ∀ s, 0 ≤ s → s ≤ 3 → over y s ≤ snapOf ((setSes Tg.W k (wriS (Tg.W.ses k) x)).ses k) s
        rw [e]; exact c.clo
      · show setN Tg.own k (Tg.own k ++ [x]) k = ((setSes Tg.W k (wriS (Tg.W.ses k) x)).ses k).ws
        rw [setN_same, e, c.own]
      · show ∀ y ∈ ((setSes Tg.W k (wriS (Tg.W.ses k) x)).ses k).ws, _
        rw [e]
        intro y hy
        rcases List.mem_append.1 hy with u | u
        · exact c.key y u
        · rw [List.mem_singleton.1 u]; exact hkey)
    rw [h.eo] at r
    exact r
  · rw [if_neg q, if_neg q]
    have e : wriS (Tg.W.ses k) x = Tg.W.ses k := by unfold wriS; rw [if_neg q]
    rw [e, setSes_self, ← h.sim.ses, setSes_self]
    exact h
theorem TI.shut (h : TI base Tg T m) {k : Nat} (hk : k < Tg.W.c) {s' : SesS} (ho : s'.opn = false) : TI base (setW Tg (setSes Tg.W k s')) (setW T (setSes T.W k s')) m := by
  have r := h.client (T := T) (s' := s') (l := Tg.own k) hk (fun q => by rw [ho] at q; cases q)
  rw [setN_self, ← h.eo, setN_self] at r
  have e : (⟨setSes Tg.W k s', Tg.H, T.own⟩ : TaleS) = setW Tg (setSes Tg.W k s') := by unfold setW; rw [h.eo]
  rw [e] at r
  exact r
theorem TI.abort (h : TI base Tg T m) {k : Nat} (hk : k < Tg.W.c) : TI base (setW Tg (setSes Tg.W k (aboS (Tg.W.ses k)))) (setW T (setSes T.W k (aboS (T.W.ses k)))) m := by
  rw [h.sim.ses]
  exact h.shut hk (by
    unfold aboS
    split
    · rename_i q; exact q
    · rfl)
theorem TI.move (h : TI base Tg T m) {k to : Nat} (ht : to < Tg.W.n) : TI base (setW Tg (moveW Tg.W k to)) (setW T (moveW T.W k to)) m := by
  have es : (T.W.ses k).opn = (Tg.W.ses k).opn := by rw [h.sim.ses]
  unfold moveW
  rw [es]
  cases o : (Tg.W.ses k).opn with
  | true =>
    rw [if_pos rfl, if_pos rfl]
    exact h
  | false =>
    rw [if_neg (by decide), if_neg (by decide)]
    have hf : ∀ j, j < Tg.W.c → setN Tg.W.at_ k to j < Tg.W.n := fun j hj => by
      by_cases q : j = k
      · rw [q, setN_same]; exact ht
      · rw [setN_ne _ _ q]; exact h.gi.wf.at_ j hj
    refine ⟨h.eH, h.eo, h.gi.ats hf, ⟨h.sim.n, h.sim.c, h.sim.wall, h.sim.ses, ?_, h.sim.net, h.sim.lost, h.sim.si⟩, h.wf.ats (f := setN T.W.at_ k to) (by rw [h.sim.c, h.sim.n, h.sim.at_]; exact hf), h.c1, h.len, h.wall, fun j hj ho => ?_, h.bs⟩
    · show setN T.W.at_ k to = setN Tg.W.at_ k to
      rw [h.sim.at_]
    · have hne : j ≠ k := fun q => by
        have ho' : (Tg.W.ses j).opn = true := ho
        rw [q, o] at ho'
        cases ho'
      have c := h.cl j hj ho
      have e : setN Tg.W.at_ k to j = Tg.W.at_ j := setN_ne _ _ hne
      refine ⟨?_, ?_, c.clo, c.own, c.key⟩
      · show ∀ s, 0 ≤ s → s ≤ 3 → _ ≤ appl (Tg.W.S (setN Tg.W.at_ k to j)) s
        rw [e]; exact c.le
      · show ∀ s, 0 ≤ s → s ≤ 3 → baseOf (base (setN Tg.W.at_ k to j)) s ≤ _
        rw [e]; exact c.ge
theorem minT_le (x : Int) : minT x ≤ 1099511627776 := by unfold minT; split <;> omega
theorem TI.goes (h : TI base Tg T m) {i : Nat} (hi : i < Tg.W.n) {y : Int} (hy : 0 ≤ y) : TI base (setW Tg (goesW Tg.W i y)) (setW T (goesW T.W i y)) m := by
  unfold goesW
  refine ⟨h.eH, h.eo, h.gi.walls _, ⟨h.sim.n, h.sim.c, ?_, h.sim.ses, h.sim.at_, h.sim.net, h.sim.lost, h.sim.si⟩, h.wf.walls _, h.c1, h.len, fun j hj => ?_, fun j hj ho => ?_, h.bs⟩
  · show setN T.W.wall i _ = setN Tg.W.wall i _
    rw [h.sim.wall]
  · show 0 ≤ setN Tg.W.wall i (minT (Tg.W.wall i + y)) j ∧ _ ≤ _
    by_cases q : j = i
    · have := h.wall i hi
      rw [q]
      show 0 ≤ setN Tg.W.wall i (minT (Tg.W.wall i + y)) i ∧ setN Tg.W.wall i (minT (Tg.W.wall i + y)) i ≤ _
      rw [setN_same]
      refine ⟨?_, minT_le _⟩
      unfold minT
      split <;> omega
    · show 0 ≤ setN Tg.W.wall i (minT (Tg.W.wall i + y)) j ∧ setN Tg.W.wall i (minT (Tg.W.wall i + y)) j ≤ _
      rw [setN_ne _ _ q]; exact h.wall j hj
  · have c := h.cl j hj ho
    exact ⟨c.le, c.ge, c.clo, c.own, c.key⟩
theorem TI.same (h : TI base Tg T m) {G' W' : WoS} (k : SameW Tg.W G') (hg : GInv Tg.H G') (hs : SimW base G' W') (hw : WfW W') : TI base (setW Tg G') (setW T W') m :=
  h.keep k.keep hg hs hw (fun i hi s h0 h3 => by rw [k.S]; exact Int.le_refl _)
theorem TI.ask (h : TI base Tg T m) {k o : Nat} (hk : k < Tg.W.n) (ho : o < Tg.W.n) : TI base (setW Tg (askW Tg.W k o)) (setW T (askW T.W k o)) m :=
  h.same (sendW_same _ _) (h.gi.ask ho) (h.sim.ask hk) (h.wf.send (by rw [h.sim.n]; exact ho))
theorem TI.twice (h : TI base Tg T m) {g : GrS} {i : Nat} (hi : T.W.net[i]? = some g) : TI base (setW Tg (sendW Tg.W g)) (setW T (sendW T.W g)) m := by
  have hi' := hi
  rw [h.sim.net] at hi'
  have hm := List.mem_of_getElem? hi'
  have hm2 := List.mem_of_getElem? hi
  exact h.same (sendW_same _ _) (h.gi.send (h.gi.wf.to g hm) (h.gi.net g hm)) (h.sim.send g) (h.wf.send (h.wf.to g hm2))
theorem TI.lose (h : TI base Tg T m) (i : Nat) : TI base (setW Tg (dropW' Tg.W i)) (setW T (dropW' T.W i)) m :=
  h.same ⟨rfl, rfl, rfl, rfl, rfl, rfl⟩ (h.gi.drop i) (h.sim.drop i) (h.wf.drop i)
theorem TI.deliver (h : TI base Tg T m) {i : Nat} {W' : WoS} (hd : DeliverTo T.W i W') : ∃ G', DeliverTo Tg.W i G' ∧ TI base (setW Tg G') (setW T W') m := by
  obtain ⟨G', d1, d2⟩ := h.sim.deliver h.gi hd
  obtain ⟨g1, g2⟩ := h.gi.deliver d1
  have kn := d1.keep.n
  exact ⟨G', d1, h.keep d1.keep g1 d2 (h.wf.deliver hd) (fun j hj s h0 h3 => Over.mono h.gi.hist (h.gi.ov j hj) (g1.ov j (by omega)) (g2 j hj) s h0 h3)⟩
theorem TI.calm (h : TI base Tg T m) {W' : WoS} (hc : CalmTo T.W W') : ∃ G', CalmTo Tg.W G' ∧ TI base (setW Tg G') (setW T W') m := by
  obtain ⟨G', c1, c2, c3⟩ := h.sim.calm h.gi hc
  obtain ⟨_, _, _, m4⟩ := calm_meets h.gi c1
  exact ⟨G', c1, h.keep c1.keep c3 c2 (h.wf.calm hc) (fun j hj s h0 h3 => by
    rw [(m4 j hj).2.2 s h0 h3]
    exact ((h.gi.ov j hj).le s h0 h3).2)⟩
end

end Go.Proofs.YtemiamjnhoeniaaGreatDoor


namespace Go.Proofs.YtemiamjnhoeniaaGreatDoor
open Go.RowKit

theorem minZ_l (x y : Int) : minZ x y ≤ x := by unfold minZ; split <;> omega
theorem minZ_r (x y : Int) : minZ x y ≤ y := by unfold minZ; split <;> omega
theorem dep4 {a0 a1 a2 a3 b0 b1 b2 b3 : Int} (h0 : a0 ≤ b0) (h1 : a1 ≤ b1) (h2 : a2 ≤ b2) (h3 : a3 ≤ b3) (s : Int) : depOf s a0 a1 a2 a3 ≤ depOf s b0 b1 b2 b3 := by
  unfold depOf
  split
  · exact h0
  · split
    · exact h1
    · split
      · exact h2
      · exact h3
theorem depM_le {a0 a1 a2 a3 b0 b1 b2 b3 c0 c1 c2 c3 : Int} {s : Int} (h1 : depOf s a0 a1 a2 a3 ≤ depOf s c0 c1 c2 c3) (h2 : depOf s b0 b1 b2 b3 ≤ depOf s c0 c1 c2 c3) : depOf s (maxZ a0 b0) (maxZ a1 b1) (maxZ a2 b2) (maxZ a3 b3) ≤ depOf s c0 c1 c2 c3 := by
  have mx : ∀ x y z : Int, x ≤ z → y ≤ z → maxZ x y ≤ z := fun x y z p q => by unfold maxZ; split <;> omega
  unfold depOf at *
  split
  · rename_i e; rw [if_pos e, if_pos e] at h1 h2; exact mx _ _ _ h1 h2
  · rename_i e
    rw [if_neg e, if_neg e] at h1 h2
    split
    · rename_i e; rw [if_pos e, if_pos e] at h1 h2; exact mx _ _ _ h1 h2
    · rename_i e
      rw [if_neg e, if_neg e] at h1 h2
      split
      · rename_i e; rw [if_pos e, if_pos e] at h1 h2; exact mx _ _ _ h1 h2
      · rename_i e
        rw [if_neg e, if_neg e] at h1 h2
        exact mx _ _ _ h1 h2
theorem swV_le {W : WoS} {k j : Nat} (ha : W.at_ j = k) (ho : (W.ses j).opn = true) : ∀ n, j < n → (swV W k n).v0 ≤ (W.ses j).s0 ∧ (swV W k n).v1 ≤ (W.ses j).s1 ∧ (swV W k n).v2 ≤ (W.ses j).s2 ∧ (swV W k n).v3 ≤ (W.ses j).s3
  | 0, h => by omega
  | n + 1, h => by
    by_cases e : j = n
    · subst e
      have e2 : swV W k (j + 1) = ⟨minZ (swV W k j).v0 (W.ses j).s0, minZ (swV W k j).v1 (W.ses j).s1, minZ (swV W k j).v2 (W.ses j).s2, minZ (swV W k j).v3 (W.ses j).s3⟩ := if_pos ⟨ha, ho⟩
      rw [e2]
      exact ⟨minZ_r _ _, minZ_r _ _, minZ_r _ _, minZ_r _ _⟩
    · have ih := swV_le ha ho n (by omega)
      unfold swV
      split
      · exact ⟨Int.le_trans (minZ_l _ _) ih.1, Int.le_trans (minZ_l _ _) ih.2.1, Int.le_trans (minZ_l _ _) ih.2.2.1, Int.le_trans (minZ_l _ _) ih.2.2.2⟩
      · exact ih
section
variable {base : Nat → V4} {Tg T T' : TaleS} {m : Nat}
def sweepV (W : WoS) (k : Nat) : V4 := ⟨minZ (swV W k W.c).v0 (W.S k).a0, minZ (swV W k W.c).v1 (W.S k).a1, minZ (swV W k W.c).v2 (W.S k).a2, minZ (swV W k W.c).v3 (W.S k).a3⟩
def baseS (base : Nat → V4) (W : WoS) (k : Nat) : Nat → V4 := setN base k ⟨maxZ (base k).v0 (sweepV W k).v0, maxZ (base k).v1 (sweepV W k).v1, maxZ (base k).v2 (sweepV W k).v2, maxZ (base k).v3 (sweepV W k).v3⟩
theorem WfW.sweep {W : WoS} (h : WfW W) {k : Nat} (hk : k < W.n) : WfW (sweepW W k) :=
  h.setSite ((h.inv k hk).swept _ _ _ _) (h.id k hk) (h.wt k hk) (h.lok k hk)
theorem TI.sweep (h : TI base Tg T m) {k : Nat} (hk : k < Tg.W.n) : TI (baseS base T.W k) Tg (setW T (sweepW T.W k)) m := by
  have hk' : k < T.W.n := by rw [h.sim.n]; exact hk
  obtain ⟨e0, e1, e2, e3⟩ := h.ap hk
  have le1 : ∀ s, 0 ≤ s → s ≤ 3 → baseOf (baseS base T.W k k) s ≤ appl (Tg.W.S k) s := fun s h0 h3 => by
    show depOf s _ _ _ _ ≤ depOf s _ _ _ _
    have hb := h.bs k hk s h0 h3
    unfold baseS
    rw [setN_same]
    refine depM_le hb (dep4 ?_ ?_ ?_ ?_ s)
    · rw [← e0]; exact minZ_r _ _
    · rw [← e1]; exact minZ_r _ _
    · rw [← e2]; exact minZ_r _ _
    · rw [← e3]; exact minZ_r _ _
  refine ⟨h.eH, h.eo, h.gi, ⟨h.sim.n, h.sim.c, h.sim.wall, h.sim.ses, h.sim.at_, h.sim.net, h.sim.lost, fun i hi => ?_⟩, h.wf.sweep hk', h.c1, h.len, h.wall, fun j hj ho => ?_, fun i hi => ?_⟩
  · show SimS _ _ _ _ (Tg.W.S i) (setN T.W.S k _ i)
    by_cases q : i = k
    · subst q
      rw [setN_same]
      unfold baseS
      rw [setN_same]
      exact (h.sim.si i hi).sweep (h.wf.inv i hk').apart _ _ _ _
    · rw [setN_ne _ _ q]
      unfold baseS
      rw [setN_ne _ _ q]
      exact h.sim.si i hi
  · have c := h.cl j hj ho
    refine ⟨c.le, fun s h0 h3 => ?_, c.clo, c.own, c.key⟩
    have cg := c.ge s h0 h3
    by_cases q : Tg.W.at_ j = k
    · rw [q] at cg ⊢
      have hj' : j < T.W.c := by rw [h.sim.c]; exact hj
      have sv := swV_le (W := T.W) (k := k) (j := j) (by rw [h.sim.at_]; exact q) (by rw [h.sim.ses]; exact ho) T.W.c hj'
      rw [h.sim.ses] at sv
      show depOf s _ _ _ _ ≤ depOf s _ _ _ _
      unfold baseS
      rw [setN_same]
      exact depM_le cg (dep4 (Int.le_trans (minZ_l _ _) sv.1) (Int.le_trans (minZ_l _ _) sv.2.1) (Int.le_trans (minZ_l _ _) sv.2.2.1) (Int.le_trans (minZ_l _ _) sv.2.2.2) s)
    · show baseOf (setN base k _ (Tg.W.at_ j)) s ≤ _
      rw [setN_ne _ _ q]
      exact cg
  · by_cases q : i = k
    · subst q; exact le1
    · intro s h0 h3
      show baseOf (setN base k _ i) s ≤ _
      rw [setN_ne _ _ q]
      exact h.bs i hi s h0 h3
theorem wc_yes {W : WoS} {k : Nat} (h : 0 < (wcT W k).seq) : (W.ses k).opn = true ∧ (allW (W.ses k).ws).length ≠ 0 ∧ comE (W.S (W.at_ k)) (W.wall (W.at_ k)) (W.ses k).s0 (W.ses k).s1 (W.ses k).s2 (W.ses k).s3 (allW (W.ses k).ws) = 0 ∧ wcT W k = commitT (W.S (W.at_ k)) (W.wall (W.at_ k)) (W.ses k).s0 (W.ses k).s1 (W.ses k).s2 (W.ses k).s3 (allW (W.ses k).ws) ∧ wcE W k = 0 := by
  unfold wcT at h
  by_cases q : (W.ses k).opn = false ∨ (allW (W.ses k).ws).length = 0
  · unfold scomT at h
    rw [if_pos q] at h
    exact absurd h (by decide)
  · have q1 : (W.ses k).opn = true := by
      cases o : (W.ses k).opn with
      | true => rfl
      | false => exact absurd (.inl o) q
    have q2 : (allW (W.ses k).ws).length ≠ 0 := fun e => q (.inr e)
    have y := scom_yes (S := W.S (W.at_ k)) (now := W.wall (W.at_ k)) q1 q2
    rw [y.2.1] at h
    unfold comT at h
    by_cases e : comE (W.S (W.at_ k)) (W.wall (W.at_ k)) (W.ses k).s0 (W.ses k).s1 (W.ses k).s2 (W.ses k).s3 (allW (W.ses k).ws) = 0
    · refine ⟨q1, q2, e, ?_, ?_⟩
      · unfold wcT
        rw [y.2.1]
        unfold comT
        rw [if_pos e]
      · unfold wcE
        rw [y.1, e]
    · rw [if_neg e] at h
      exact absurd h (by decide)
theorem wc_no {W : WoS} {k : Nat} (hI : InvS (W.S (W.at_ k))) (h : ¬ 0 < (wcT W k).seq) : scomS (W.S (W.at_ k)) (W.ses k) (W.wall (W.at_ k)) = W.S (W.at_ k) ∧ (scomSes (W.S (W.at_ k)) (W.ses k) (W.wall (W.at_ k)) = W.ses k ∨ scomSes (W.S (W.at_ k)) (W.ses k) (W.wall (W.at_ k)) = endS (W.ses k)) := by
  by_cases e : scomE (W.S (W.at_ k)) (W.ses k) (W.wall (W.at_ k)) = 0
  · cases o : (W.ses k).opn with
    | false => have := (scom_shut (S := W.S (W.at_ k)) (now := W.wall (W.at_ k)) o).1; omega
    | true =>
      by_cases l : (allW (W.ses k).ws).length = 0
      · have := scom_none (S := W.S (W.at_ k)) (now := W.wall (W.at_ k)) o l
        exact ⟨this.2.2.1, .inr this.2.2.2⟩
      · exfalso
        have y := scom_yes (S := W.S (W.at_ k)) (now := W.wall (W.at_ k)) o l
        rw [y.1] at e
        apply h
        unfold wcT
        rw [y.2.1]
        unfold comT
        rw [if_pos e]
        show 0 < depOf _ _ _ _ _ + 1
        have := (hI.dep (W.S (W.at_ k)).id).1
        omega
  · have := scom_err e
    exact ⟨this.2.1, .inl this.2.2⟩
theorem TI.wc (h : TI base Tg T m) {k : Nat} (hk : k < Tg.W.c) : wcE T.W k = wcE Tg.W k ∧ wcT T.W k = wcT Tg.W k ∧ scomSes (T.W.S (T.W.at_ k)) (T.W.ses k) (T.W.wall (T.W.at_ k)) = scomSes (Tg.W.S (Tg.W.at_ k)) (Tg.W.ses k) (Tg.W.wall (Tg.W.at_ k)) := by
  have si := h.sim.si _ (h.gi.wf.at_ k hk)
  have hE : scomE (T.W.S (T.W.at_ k)) (T.W.ses k) (T.W.wall (T.W.at_ k)) = scomE (Tg.W.S (Tg.W.at_ k)) (Tg.W.ses k) (Tg.W.wall (Tg.W.at_ k)) := by
    rw [h.sim.ses, h.sim.at_, h.sim.wall]
    unfold scomE
    rw [si.comE]
  have hT : scomT (T.W.S (T.W.at_ k)) (T.W.ses k) (T.W.wall (T.W.at_ k)) = scomT (Tg.W.S (Tg.W.at_ k)) (Tg.W.ses k) (Tg.W.wall (Tg.W.at_ k)) := by
    rw [h.sim.ses, h.sim.at_, h.sim.wall]
    unfold scomT
    rw [si.comT]
  refine ⟨hE, hT, ?_⟩
  unfold scomSes
  rw [hE, hT, h.sim.ses]
theorem TI.commit (h : TI base Tg T m) {k : Nat} (hk : k < Tg.W.c) (hm : m < 120) : TI base (comTa Tg k) (comTa T k) (m + 1) := by
  have hat := h.gi.wf.at_ k hk
  have hat' : T.W.at_ k < T.W.n := by rw [h.sim.at_, h.sim.n]; exact hat
  obtain ⟨w1, w2, w3⟩ := h.wc hk
  have IG := h.gi.wf.inv _ hat
  have IW := h.wf.inv _ hat'
  by_cases q : 0 < (wcT Tg.W k).seq
  · have q' : 0 < (wcT T.W k).seq := by rw [w2]; exact q
    obtain ⟨y1, y2, y3, y4, y5⟩ := wc_yes q
    obtain ⟨z1, z2, z3, z4, z5⟩ := wc_yes q'
    have sy := scom_yes (S := Tg.W.S (Tg.W.at_ k)) (now := Tg.W.wall (Tg.W.at_ k)) y1 y2
    have sz := scom_yes (S := T.W.S (T.W.at_ k)) (now := T.W.wall (T.W.at_ k)) z1 z2
    have hl := h.len
    have gc := h.gi.commit hat y3 (by omega)
    have c0 := h.cl k hk y1
    obtain ⟨t, et⟩ : ∃ t, wcT Tg.W k = t := ⟨_, rfl⟩
    have ey : commitT (Tg.W.S (Tg.W.at_ k)) (Tg.W.wall (Tg.W.at_ k)) (Tg.W.ses k).s0 (Tg.W.ses k).s1 (Tg.W.ses k).s2 (Tg.W.ses k).s3 (allW (Tg.W.ses k).ws) = t := y4.symm.trans et
    have ez : commitT (T.W.S (T.W.at_ k)) (T.W.wall (T.W.at_ k)) (T.W.ses k).s0 (T.W.ses k).s1 (T.W.ses k).s2 (T.W.ses k).s3 (allW (T.W.ses k).ws) = t := z4.symm.trans (w2.trans et)
    have sS : scomS (Tg.W.S (Tg.W.at_ k)) (Tg.W.ses k) (Tg.W.wall (Tg.W.at_ k)) = applyS (Tg.W.S (Tg.W.at_ k)) t := by
      rw [sy.2.2]
      unfold comS
      rw [if_pos y3, ey]
    have sT : scomS (T.W.S (T.W.at_ k)) (T.W.ses k) (T.W.wall (T.W.at_ k)) = applyS (T.W.S (T.W.at_ k)) t := by
      rw [sz.2.2]
      unfold comS
      rw [if_pos z3, ez]
    obtain ⟨s', es'⟩ : ∃ s', scomSes (Tg.W.S (Tg.W.at_ k)) (Tg.W.ses k) (Tg.W.wall (Tg.W.at_ k)) = s' := ⟨_, rfl⟩
    have ho' : s'.opn = false := by
      rw [← es']
      have e0 : scomE (Tg.W.S (Tg.W.at_ k)) (Tg.W.ses k) (Tg.W.wall (Tg.W.at_ k)) = 0 := y5
      unfold scomSes
      rw [if_neg (by rw [e0]; decide), if_neg y2]
      rfl
    rw [ey] at gc
    -- the two worlds behind it
    have eG : wcW Tg.W k = tellW t Tg.W.n (setSes (setSite Tg.W (Tg.W.at_ k) (applyS (Tg.W.S (Tg.W.at_ k)) t)) k s') := by
      unfold wcW
      rw [if_pos q]
      unfold wcW0
      rw [et, sS, es']
    have eW : wcW T.W k = tellW t T.W.n (setSes (setSite T.W (T.W.at_ k) (applyS (T.W.S (T.W.at_ k)) t)) k s') := by
      unfold wcW
      rw [if_pos q']
      unfold wcW0
      rw [w2, et, sT, w3, es']
    have tin : t ∈ Tg.H ++ [t] := List.mem_append.2 (.inr (List.mem_singleton.2 rfl))
    have es : t.site = ((Tg.W.at_ k : Nat) : Int) := by
      rw [← ey]
      show (Tg.W.S (Tg.W.at_ k)).id = _
      exact h.gi.wf.id _ hat
    have cn : appl (Tg.W.S (Tg.W.at_ k)) t.site = cnt Tg.H t.site := by
      rw [es, ← h.gi.wf.id _ hat]
      exact (h.gi.ov _ hat).own h.gi.hist IG (fun x hx e => h.gi.own _ hat x hx (by rw [e]; exact h.gi.wf.id _ hat))
    have tq : t.seq = cnt Tg.H t.site + 1 := by
      rw [← cn, ← ey]
      rfl
    have nl : t ∉ (Tg.W.S (Tg.W.at_ k)).log := fun e => by
      have := (h.gi.hist.seq t ((h.gi.ov _ hat).lin t e)).2
      omega
    have gc2 := gc.ses (setN Tg.W.ses k s')
    have gc3 : GInv (Tg.H ++ [t]) (tellW t Tg.W.n (setSes (setSite Tg.W (Tg.W.at_ k) (applyS (Tg.W.S (Tg.W.at_ k)) t)) k s')) := GInv.tell (W := setSes (setSite Tg.W (Tg.W.at_ k) (applyS (Tg.W.S (Tg.W.at_ k)) t)) k s') gc2 tin (Nat.le_refl _)
    have sm := tellW_same t Tg.W.n (setSes (setSite Tg.W (Tg.W.at_ k) (applyS (Tg.W.S (Tg.W.at_ k)) t)) k s')
    have ss : SimS (base (Tg.W.at_ k)).v0 (base (Tg.W.at_ k)).v1 (base (Tg.W.at_ k)).v2 (base (Tg.W.at_ k)).v3 (applyS (Tg.W.S (Tg.W.at_ k)) t) (applyS (T.W.S (Tg.W.at_ k)) t) := by
      have c1 := gc.hist
      have hov : Over (Tg.H ++ [t]) (Tg.W.S (Tg.W.at_ k)) := (h.gi.ov _ hat).grow h.gi.hist tq (by rw [es]; have := h.gi.wf.n4; omega)
      exact (h.sim.si _ hat).apply c1 hov tin nl
    have sw : SimW base (setSes (setSite Tg.W (Tg.W.at_ k) (applyS (Tg.W.S (Tg.W.at_ k)) t)) k s') (setSes (setSite T.W (T.W.at_ k) (applyS (T.W.S (T.W.at_ k)) t)) k s') := by
      have r := h.sim.setSite (i := Tg.W.at_ k) ss
      rw [h.sim.at_]
      exact ⟨r.n, r.c, r.wall, by show setN T.W.ses k s' = setN Tg.W.ses k s'; rw [h.sim.ses], r.at_, r.net, r.lost, r.si⟩
    have wfT : WfW (setSes (setSite T.W (T.W.at_ k) (applyS (T.W.S (T.W.at_ k)) t)) k s') := by
      have I2 := (commitT_ok IW z3).1
      rw [ez] at I2
      exact (h.wf.setSite I2 (h.wf.id _ hat') (h.wf.wt _ hat') (fun x hx => by
        rcases List.mem_append.1 (show x ∈ (T.W.S (T.W.at_ k)).log ++ [t] from hx) with u | u
        · exact h.wf.lok _ hat' x u
        · rw [List.mem_singleton.1 u]; exact gc.hist.ok t tin)).ses _
    have up : ∀ i, i < Tg.W.n → ∀ s, 0 ≤ s → s ≤ 3 → appl (Tg.W.S i) s ≤ appl (setN Tg.W.S (Tg.W.at_ k) (applyS (Tg.W.S (Tg.W.at_ k)) t) i) s := fun i hi s h0 h3 => by
      by_cases u : i = Tg.W.at_ k
      · rw [u, setN_same, appl_apply s h0 h3]
        split
        · rename_i v
          rw [v, cn, tq]
          omega
        · exact Int.le_refl _
      · rw [setN_ne _ _ u]; exact Int.le_refl _
    unfold comTa
    rw [if_pos q, if_pos q', w2, et, eG, eW]
    refine ⟨by show T.H ++ [t] = Tg.H ++ [t]; rw [h.eH], h.eo, gc3, ?_, WfW.tell _ _ wfT (Nat.le_refl _), ?_, ?_, ?_, ?_, ?_⟩
    · show SimW base (tellW t Tg.W.n _) (tellW t T.W.n _)
      rw [h.sim.n]
      exact SimW.tell t _ _ _ sw
    · show 1 ≤ (tellW t Tg.W.n _).c
      rw [sm.c]; exact h.c1
    · show (Tg.H ++ [t]).length ≤ m + 1
      simp
      omega
    · show ∀ i, i < (tellW t Tg.W.n _).n → 0 ≤ (tellW t Tg.W.n _).wall i ∧ (tellW t Tg.W.n _).wall i ≤ _
      rw [sm.n, sm.wall]; exact h.wall
    · show ∀ j, j < (tellW t Tg.W.n _).c → ((tellW t Tg.W.n _).ses j).opn = true → _
      rw [sm.c, sm.ses]
      intro j hj ho
      have ho2 : (setN Tg.W.ses k s' j).opn = true := ho
      have hne : j ≠ k := fun u => by
        rw [u, setN_same, ho'] at ho2
        cases ho2
      rw [setN_ne _ _ hne] at ho2
      have c := h.cl j hj ho2
      have e1 : (tellW t Tg.W.n (setSes (setSite Tg.W (Tg.W.at_ k) (applyS (Tg.W.S (Tg.W.at_ k)) t)) k s')).ses j = Tg.W.ses j := by
        rw [sm.ses]
        exact setN_ne _ _ hne
      have e2 : (tellW t Tg.W.n (setSes (setSite Tg.W (Tg.W.at_ k) (applyS (Tg.W.S (Tg.W.at_ k)) t)) k s')).at_ j = Tg.W.at_ j := by rw [sm.at_]; rfl
      have e3 : (tellW t Tg.W.n (setSes (setSite Tg.W (Tg.W.at_ k) (applyS (Tg.W.S (Tg.W.at_ k)) t)) k s')).S = setN Tg.W.S (Tg.W.at_ k) (applyS (Tg.W.S (Tg.W.at_ k)) t) := by rw [sm.S]; rfl
      have hatj := h.gi.wf.at_ j hj
      refine ⟨fun s h0 h3 => ?_, fun s h0 h3 => ?_, fun x hx hs s h0 h3 => ?_, ?_, ?_⟩
      · show snapOf ((tellW t Tg.W.n _).ses j) s ≤ appl ((tellW t Tg.W.n _).S ((tellW t Tg.W.n _).at_ j)) s
        rw [e1, e2, e3]
        exact Int.le_trans (c.le s h0 h3) (up _ hatj s h0 h3)
      · show baseOf (base ((tellW t Tg.W.n _).at_ j)) s ≤ snapOf ((tellW t Tg.W.n _).ses j) s
        rw [e1, e2]
        exact c.ge s h0 h3
      · show over x s ≤ snapOf ((tellW t Tg.W.n _).ses j) s
        have hs' : x.seq ≤ snapOf ((tellW t Tg.W.n (setSes (setSite Tg.W (Tg.W.at_ k) (applyS (Tg.W.S (Tg.W.at_ k)) t)) k s')).ses j) x.site := hs
        rw [e1] at hs' ⊢
        rcases List.mem_append.1 (show x ∈ Tg.H ++ [t] from hx) with u | u
        · exact c.clo x u hs' s h0 h3
        · exfalso
          rw [List.mem_singleton.1 u] at hs'
          have n4 := h.gi.wf.n4
          have v1 := c.le t.site (by rw [es]; omega) (by rw [es]; omega)
          have v2 := ((h.gi.ov _ hatj).le t.site (by rw [es]; omega) (by rw [es]; omega)).2
          omega
      · show Tg.own j = ((tellW t Tg.W.n _).ses j).ws
        rw [e1]; exact c.own
      · show ∀ x ∈ ((tellW t Tg.W.n _).ses j).ws, _
        rw [e1]; exact c.key
    · show ∀ i, i < (tellW t Tg.W.n _).n → ∀ s, 0 ≤ s → s ≤ 3 → baseOf (base i) s ≤ appl ((tellW t Tg.W.n _).S i) s
      rw [sm.n, sm.S]
      exact fun i hi s h0 h3 => Int.le_trans (h.bs i hi s h0 h3) (up i hi s h0 h3)
  · have q' : ¬ 0 < (wcT T.W k).seq := by rw [w2]; exact q
    obtain ⟨y1, y2⟩ := wc_no IG q
    obtain ⟨z1, _⟩ := wc_no IW q'
    have eG : wcW Tg.W k = setSes Tg.W k (scomSes (Tg.W.S (Tg.W.at_ k)) (Tg.W.ses k) (Tg.W.wall (Tg.W.at_ k))) := by
      unfold wcW
      rw [if_neg q]
      unfold wcW0
      rw [y1, setSite_self]
    have eW : wcW T.W k = setSes T.W k (scomSes (Tg.W.S (Tg.W.at_ k)) (Tg.W.ses k) (Tg.W.wall (Tg.W.at_ k))) := by
      unfold wcW
      rw [if_neg q']
      unfold wcW0
      rw [z1, setSite_self, w3]
    unfold comTa
    rw [if_neg q, if_neg q', eG, eW]
    rcases y2 with y2 | y2
    · rw [y2, setSes_self]
      have : setSes T.W k (Tg.W.ses k) = T.W := by rw [← h.sim.ses, setSes_self]
      rw [this]
      exact h.more (by omega)
    · rw [y2]
      exact (h.shut hk rfl).more (by omega)
theorem TI.does (h : TI base Tg T m) (hm : m < 120) {a : ActS} {sw : Bool} (hd : DoesTo T a sw T') : ∃ base' Tg', DoesTo Tg a false Tg' ∧ TI base' Tg' T' (m + 1) := by
  have hk : actK Tg a < Tg.W.c := pickN_lt _ h.c1
  have ek : actK T a = actK Tg a := by unfold actK; rw [h.sim.c]
  have ei : actI T a = actI Tg a := by unfold actI; rw [h.sim.net]
  have n1 := h.gi.wf.n1
  have en := h.sim.n
  unfold DoesTo at hd ⊢
  by_cases q0 : a.what = 0
  · simp only [if_pos q0] at hd ⊢
    refine ⟨base, _, rfl, ?_⟩
    rw [hd, ek]
    exact (h.begin hk).more (by omega)
  simp only [if_neg q0] at hd ⊢
  by_cases q1 : a.what = 1
  · simp only [if_pos q1] at hd ⊢
    refine ⟨base, _, rfl, ?_⟩
    rw [hd]
    exact h.more (by omega)
  simp only [if_neg q1] at hd ⊢
  by_cases q2 : a.what = 2
  · simp only [if_pos q2] at hd ⊢
    refine ⟨base, _, rfl, ?_⟩
    rw [hd, ek]
    exact (h.write hk _).more (by omega)
  simp only [if_neg q2] at hd ⊢
  by_cases q3 : a.what = 3
  · simp only [if_pos q3] at hd ⊢
    refine ⟨base, _, rfl, ?_⟩
    rw [hd, ek]
    exact h.commit hk hm
  simp only [if_neg q3] at hd ⊢
  by_cases q4 : a.what = 4
  · simp only [if_pos q4] at hd ⊢
    refine ⟨base, _, rfl, ?_⟩
    rw [hd, ek]
    exact (h.abort hk).more (by omega)
  simp only [if_neg q4] at hd ⊢
  by_cases q5 : a.what = 5
  · simp only [if_pos q5] at hd ⊢
    refine ⟨base, _, rfl, ?_⟩
    rw [hd, ek, en]
    exact (h.move (pickN_lt _ (by omega))).more (by omega)
  simp only [if_neg q5] at hd ⊢
  by_cases q6 : a.what = 6
  · simp only [if_pos q6] at hd ⊢
    refine ⟨base, _, rfl, ?_⟩
    rw [hd, en]
    exact (h.goes (pickN_lt _ (by omega)) (by omega)).more (by omega)
  simp only [if_neg q6] at hd ⊢
  by_cases q7 : a.what = 7
  · simp only [if_pos q7] at hd ⊢
    refine ⟨base, _, rfl, ?_⟩
    rw [hd, en]
    by_cases e : pickN a.k Tg.W.n = pickN a.n Tg.W.n
    · rw [if_pos e, if_pos e]; exact h.more (by omega)
    · rw [if_neg e, if_neg e]
      exact (h.ask (pickN_lt _ (by omega)) (pickN_lt _ (by omega))).more (by omega)
  simp only [if_neg q7] at hd ⊢
  by_cases q8 : a.what = 8
  · simp only [if_pos q8] at hd ⊢
    rcases hd with ⟨h1, h2⟩ | ⟨W', h1, h2⟩
    · exact ⟨base, Tg, .inl ⟨by rw [← h.sim.net]; exact h1, rfl⟩, by rw [h2]; exact h.more (by omega)⟩
    · rw [ei] at h1
      obtain ⟨G', d1, d2⟩ := h.deliver h1
      exact ⟨base, _, .inr ⟨G', d1, rfl⟩, by rw [h2]; exact d2.more (by omega)⟩
  simp only [if_neg q8] at hd ⊢
  by_cases q9 : a.what = 9
  · simp only [if_pos q9] at hd ⊢
    refine ⟨base, _, rfl, ?_⟩
    rw [hd, ei]
    exact (h.lose _).more (by omega)
  simp only [if_neg q9] at hd ⊢
  by_cases q10 : a.what = 10
  · simp only [if_pos q10] at hd ⊢
    refine ⟨base, _, rfl, ?_⟩
    rw [hd, ei, h.sim.net]
    cases g : Tg.W.net[actI Tg a]? with
    | none => exact h.more (by omega)
    | some g' => exact (h.twice (i := actI Tg a) (by rw [h.sim.net]; exact g)).more (by omega)
  simp only [if_neg q10] at hd ⊢
  by_cases q11 : a.what = 11
  · simp only [if_pos q11] at hd ⊢
    cases sw with
    | true =>
      refine ⟨baseS base T.W (pickN a.k Tg.W.n), _, rfl, ?_⟩
      rw [if_pos rfl] at hd
      rw [hd, if_neg (by decide), en]
      exact (h.sweep (pickN_lt a.k (by omega))).more (by omega)
    | false =>
      refine ⟨base, _, rfl, ?_⟩
      rw [if_neg (by decide)] at hd ⊢
      rw [hd]
      exact h.more (by omega)
  simp only [if_neg q11] at hd ⊢
  by_cases q12 : a.what = 12
  · simp only [if_pos q12] at hd ⊢
    obtain ⟨W', h1, h2⟩ := hd
    obtain ⟨G', c1, c2⟩ := h.calm h1
    exact ⟨base, _, ⟨G', c1, rfl⟩, by rw [h2]; exact c2.more (by omega)⟩
  simp only [if_neg q12] at hd ⊢
  exact ⟨base, _, rfl, by rw [hd]; exact h.more (by omega)⟩
end

end Go.Proofs.YtemiamjnhoeniaaGreatDoor


namespace Go.Proofs.YtemiamjnhoeniaaGreatDoor
open Go.RowKit

theorem mem_histL {H : List TxP} {h : Hd} : h ∈ histL H ↔ ∃ t ∈ H, ∃ x ∈ t.ws, h = ⟨x.key, verOf t x⟩ := by
  unfold histL verL1
  rw [List.mem_flatMap]
  constructor
  · rintro ⟨t, ht, q⟩
    obtain ⟨x, hx, e⟩ := List.mem_map.1 q
    exact ⟨t, ht, x, hx, e.symm⟩
  · rintro ⟨t, ht, x, hx, e⟩
    exact ⟨t, ht, List.mem_map.2 ⟨x, hx, e.symm⟩⟩
theorem rise_one : ∀ {l : List Wr}, l.Pairwise (fun x y => x.key < y.key) → ∀ x ∈ l, ∀ y ∈ l, x.key = y.key → x = y
  | [], _, x, hx, _, _, _ => by cases hx
  | a :: l, h, x, hx, y, hy, e => by
    obtain ⟨h1, h2⟩ := List.pairwise_cons.1 h
    rcases List.mem_cons.1 hx with ex | ex
    · rcases List.mem_cons.1 hy with ey | ey
      · rw [ex, ey]
      · have := h1 y ey
        rw [ex] at e
        omega
    · rcases List.mem_cons.1 hy with ey | ey
      · have := h1 x ex
        rw [ey] at e
        omega
      · exact rise_one h2 x ex y ey e
theorem apart_hist {H : List TxP} (hH : Hist H) : Apart (histL H) := by
  intro x hx y hy ek et
  obtain ⟨t, ht, a, ha, rfl⟩ := mem_histL.1 hx
  obtain ⟨u, hu, b, hb, rfl⟩ := mem_histL.1 hy
  have e : t = u := hH.stamp t ht u hu et.2.2 et.1 et.2.1
  subst e
  have e2 : a = b := rise_one (okWs_rise (okT_ws (hH.ok t ht)).1) a ha b hb ek
  rw [e2]
theorem Over.lasts {H : List TxP} {S : SiteS} (h : Over H S) (hH : Hist H) (hI : InvS S) {key a0 a1 a2 a3 : Int} (hl : ∀ s, 0 ≤ s → s ≤ 3 → depOf s a0 a1 a2 a3 ≤ appl S s) : lastV key a0 a1 a2 a3 S.l = lastV key a0 a1 a2 a3 (histL H) := by
  apply Option.ext
  intro v
  rw [lastV_iff hI.apart, lastV_iff (apart_hist hH)]
  have sub : ∀ x ∈ S.l, x ∈ histL H := fun x hx => by
    obtain ⟨t, ht, a, ha, e⟩ := (h.vs x).1 hx
    exact mem_histL.2 ⟨t, h.lin t ht, a, ha, e⟩
  have back : ∀ x ∈ histL H, hasV a0 a1 a2 a3 x.v = true → x ∈ S.l := fun x hx hv => by
    obtain ⟨t, ht, a, ha, e⟩ := mem_histL.1 hx
    refine (h.vs x).2 ⟨t, (h.has t ht).2 ?_, a, ha, e⟩
    have hs := hH.site ht
    rw [e] at hv
    have hv' : t.seq ≤ depOf t.site a0 a1 a2 a3 := of_decide_eq_true hv
    exact Int.le_trans hv' (hl t.site hs.1 hs.2)
  constructor
  · rintro ⟨⟨x, hx, e⟩, a⟩
    exact ⟨⟨x, sub x hx, e⟩, fun y hy k hv => a y (back y hy hv) k hv⟩
  · rintro ⟨⟨x, hx, e1, e2, e3⟩, a⟩
    exact ⟨⟨x, back x hx (by rw [e1]; exact e3), e1, e2, e3⟩, fun y hy => a y (sub y hy)⟩
theorem SimS.lasts {H : List TxP} {b0 b1 b2 b3 : Int} {G S : SiteS} (h : SimS b0 b1 b2 b3 G S) (ho : Over H G) (hH : Hist H) (hG : InvS G) (hS : InvS S) {key a0 a1 a2 a3 : Int} (hb : ∀ s, 0 ≤ s → s ≤ 3 → depOf s b0 b1 b2 b3 ≤ depOf s a0 a1 a2 a3) : lastV key a0 a1 a2 a3 S.l = lastV key a0 a1 a2 a3 G.l := by
  refine (h.sw.last (fun x hx hv => ?_) hG.apart hS.apart).symm
  obtain ⟨t, ht, a, ha, e⟩ := (ho.vs x).1 hx
  have hs := hH.site (ho.lin t ht)
  have hv' : x.v.seq ≤ depOf x.v.site b0 b1 b2 b3 := of_decide_eq_true hv
  have es : x.v.site = t.site := by rw [e]; rfl
  exact decide_eq_true (Int.le_trans hv' (by rw [es]; exact hb t.site hs.1 hs.2))
section
variable {base : Nat → V4} {Tg T : TaleS} {m : Nat}
theorem dep_le4 {a0 a1 a2 a3 b0 b1 b2 b3 : Int} (h : ∀ s, 0 ≤ s → s ≤ 3 → depOf s b0 b1 b2 b3 ≤ depOf s a0 a1 a2 a3) : covB a0 a1 a2 a3 b0 b1 b2 b3 = true :=
  covB_iff.2 ⟨h 0 (by decide) (by decide), h 1 (by decide) (by decide), h 2 (by decide) (by decide), h 3 (by decide) (by decide)⟩
theorem TI.lastAt (h : TI base Tg T m) {k : Nat} (hk : k < Tg.W.c) (ho : (T.W.ses k).opn = true) (key : Int) : covB (T.W.S (T.W.at_ k)).a0 (T.W.S (T.W.at_ k)).a1 (T.W.S (T.W.at_ k)).a2 (T.W.S (T.W.at_ k)).a3 (T.W.ses k).s0 (T.W.ses k).s1 (T.W.ses k).s2 (T.W.ses k).s3 = true ∧ lastV key (T.W.ses k).s0 (T.W.ses k).s1 (T.W.ses k).s2 (T.W.ses k).s3 (T.W.S (T.W.at_ k)).l = lastV key (T.W.ses k).s0 (T.W.ses k).s1 (T.W.ses k).s2 (T.W.ses k).s3 (histL T.H) := by
  have hat := h.gi.wf.at_ k hk
  have hat' : Tg.W.at_ k < T.W.n := by rw [h.sim.n]; exact hat
  rw [h.sim.ses] at ho
  have c := h.cl k hk ho
  obtain ⟨e0, e1, e2, e3⟩ := h.ap hat
  rw [h.sim.ses, h.sim.at_, e0, e1, e2, e3, h.eH]
  refine ⟨dep_le4 c.le, ?_⟩
  rw [(h.sim.si _ hat).lasts (h.gi.ov _ hat) h.gi.hist (h.gi.wf.inv _ hat) (h.wf.inv _ hat') c.ge, (h.gi.ov _ hat).lasts h.gi.hist (h.gi.wf.inv _ hat) c.le]
theorem TI.reads (h : TI base Tg T m) {k : Nat} (hk : k < Tg.W.c) (ho : (T.W.ses k).opn = true) {key : Int} (h0 : 0 ≤ key) (h8 : key < 8) : sreadV (T.W.S (T.W.at_ k)) (T.W.ses k) key = match ownW (T.own k) key with
    | some x => if x.gone = true then (⟨#[]⟩, 8) else (x.data, 0)
    | none => if (lastT T.H key (T.W.ses k).s0 (T.W.ses k).s1 (T.W.ses k).s2 (T.W.ses k).s3).2 = true then ((lastT T.H key (T.W.ses k).s0 (T.W.ses k).s1 (T.W.ses k).s2 (T.W.ses k).s3).1, 0) else (⟨#[]⟩, 8) := by
  obtain ⟨r1, r2⟩ := h.lastAt hk ho key
  have eo : T.own k = (T.W.ses k).ws := by
    rw [h.eo, h.sim.ses]
    rw [h.sim.ses] at ho
    exact (h.cl k hk ho).own
  rw [eo]
  unfold sreadV
  rw [if_neg (by rw [ho]; decide)]
  cases ownW (T.W.ses k).ws key with
  | some x => rfl
  | none =>
    have hin : inB key 0 7 = true := inB_iff.2 ⟨h0, by omega⟩
    show ((readS _ key _ _ _ _).1.data, (readS _ key _ _ _ _).2) = _
    unfold readS
    rw [if_pos r1]
    unfold readV
    rw [if_pos hin, r2]
    unfold lastT
    cases lastV key (T.W.ses k).s0 (T.W.ses k).s1 (T.W.ses k).s2 (T.W.ses k).s3 (histL T.H) with
    | none => rfl
    | some v =>
      obtain ⟨vw, vc, vs, vq, vd, vg⟩ := v
      cases vg <;> rfl
theorem TI.told (h : TI base Tg T m) {i : Nat} (hi : i < Tg.W.n) (key : Int) : toldV (T.W.S i).a0 (T.W.S i).a1 (T.W.S i).a2 (T.W.S i).a3 (T.W.S i).l key = toldV (Tg.W.S i).a0 (Tg.W.S i).a1 (Tg.W.S i).a2 (Tg.W.S i).a3 (histL T.H) key := by
  obtain ⟨e0, e1, e2, e3⟩ := h.ap hi
  have hi' : i < T.W.n := by rw [h.sim.n]; exact hi
  rw [e0, e1, e2, e3, h.eH]
  unfold toldV readV
  rw [(h.sim.si i hi).lasts (h.gi.ov i hi) h.gi.hist (h.gi.wf.inv i hi) (h.wf.inv i hi') (h.bs i hi), (h.gi.ov i hi).lasts h.gi.hist (h.gi.wf.inv i hi) (fun s _ _ => Int.le_refl _)]
end
theorem TI.new {n c : Nat} (h1 : 1 ≤ n) (h4 : n ≤ 4) (hc : 1 ≤ c) (h6 : c ≤ 6) : TI (fun _ => ⟨0, 0, 0, 0⟩) (newT n c) (newT n c) 0 := by
  have wf : WfW (newW n c) := ⟨h1, h4, h6, fun k _ => (show (0 : Nat) < n by omega), fun i hi => InvS.new (show (0 : Int) ≤ (i : Int) by omega) (show (i : Int) ≤ 3 by have : i < n := hi; omega), fun i _ => rfl, (Nat.zero_le _ : 0 ≤ 300), fun i _ => (Nat.zero_le _ : 0 ≤ 40), fun i _ x hx => (by cases hx), fun g hg => (by cases hg)⟩
  refine ⟨rfl, rfl, ⟨.nil, wf, Nat.zero_le _, fun i hi => Over.new [] .nil i, fun i hi => LogH.new i, fun i hi => rfl, fun i hi x hx => (by cases hx), fun x hx => (by cases hx), fun g hg => (by cases hg)⟩, SimW.refl _ _, wf, hc, Nat.le_refl _, fun i _ => ⟨Int.le_refl _, (by decide : (0 : Int) ≤ 1099511627776)⟩, fun k _ ho => (by cases ho), fun i hi s h0 h3 => ?_⟩
  have e : appl ((newT n c).W.S i) s = 0 := depOf_zero s
  rw [e]
  show depOf s 0 0 0 0 ≤ 0
  rw [depOf_zero]
  exact Int.le_refl _

end Go.Proofs.YtemiamjnhoeniaaGreatDoor


namespace Go.Proofs.YtemiamjnhoeniaaGreatDoor
open Go.RowKit

def pastLe (s s' : SesS) : Prop := s.p0 ≤ s'.p0 ∧ s.p1 ≤ s'.p1 ∧ s.p2 ≤ s'.p2 ∧ s.p3 ≤ s'.p3
theorem pastLe.refl (s : SesS) : pastLe s s := ⟨Int.le_refl _, Int.le_refl _, Int.le_refl _, Int.le_refl _⟩
theorem pastLe.cov {s s' : SesS} (h : pastLe s s') : covB s'.p0 s'.p1 s'.p2 s'.p3 s.p0 s.p1 s.p2 s.p3 = true := covB_iff.2 h
theorem end_past (s : SesS) : pastLe s (endS s) := ⟨maxZ_l _ _, maxZ_l _ _, maxZ_l _ _, maxZ_l _ _⟩
theorem beg_past (S : SiteS) (s : SesS) : pastLe s (begS S s) := by
  unfold begS
  split <;> exact pastLe.refl _
theorem wri_past (s : SesS) (x : Wr) : pastLe s (wriS s x) := by
  unfold wriS
  split <;> exact pastLe.refl _
theorem abo_past (s : SesS) : pastLe s (aboS s) := by
  unfold aboS
  split
  · exact pastLe.refl _
  · exact end_past s
theorem scom_past (S : SiteS) (s : SesS) (now : Int) : pastLe s (scomSes S s now) := by
  have e := end_past s
  have up : ∀ (c : Prop) [Decidable c] (x y : Int), x ≤ if c then maxZ x y else x := fun c _ x y => by
    split
    · exact maxZ_l _ _
    · exact Int.le_refl _
  unfold scomSes
  split
  · exact pastLe.refl _
  · split
    · exact e
    · exact ⟨Int.le_trans e.1 (up _ _ _), Int.le_trans e.2.1 (up _ _ _), Int.le_trans e.2.2.1 (up _ _ _), Int.le_trans e.2.2.2 (up _ _ _)⟩
theorem setSes_past {W : WoS} {j : Nat} {s' : SesS} (h : pastLe (W.ses j) s') (k : Nat) : pastLe (W.ses k) ((setSes W j s').ses k) := by
  by_cases e : k = j
  · subst e
    have : (setSes W k s').ses k = s' := setN_same _ _ _
    rw [this]
    exact h
  · have : (setSes W j s').ses k = W.ses k := setN_ne _ _ e
    rw [this]
    exact pastLe.refl _
theorem ses_past {W W' : WoS} (h : W'.ses = W.ses) (k : Nat) : pastLe (W.ses k) (W'.ses k) := by rw [h]; exact pastLe.refl _
theorem wc_past (W : WoS) (j k : Nat) : pastLe (W.ses k) ((wcW W j).ses k) := by
  have e : (wcW W j).ses = (wcW0 W j).ses := by
    unfold wcW
    split
    · exact (tellW_same _ _ _).ses
    · rfl
  rw [e]
  exact setSes_past (W := setSite W (W.at_ j) (scomS (W.S (W.at_ j)) (W.ses j) (W.wall (W.at_ j)))) (scom_past _ _ _) k
theorem DoesTo.past {T T' : TaleS} {a : ActS} {sw : Bool} (hd : DoesTo T a sw T') (k : Nat) : pastLe (T.W.ses k) (T'.W.ses k) := by
  unfold DoesTo at hd
  by_cases q0 : a.what = 0
  · rw [if_pos q0] at hd; rw [hd]; exact setSes_past (beg_past _ _) k
  rw [if_neg q0] at hd
  by_cases q1 : a.what = 1
  · rw [if_pos q1] at hd; rw [hd]; exact pastLe.refl _
  rw [if_neg q1] at hd
  by_cases q2 : a.what = 2
  · rw [if_pos q2] at hd; rw [hd]; exact setSes_past (wri_past _ _) k
  rw [if_neg q2] at hd
  by_cases q3 : a.what = 3
  · rw [if_pos q3] at hd; rw [hd]; exact wc_past _ _ k
  rw [if_neg q3] at hd
  by_cases q4 : a.what = 4
  · rw [if_pos q4] at hd; rw [hd]; exact setSes_past (abo_past _) k
  rw [if_neg q4] at hd
  by_cases q5 : a.what = 5
  · rw [if_pos q5] at hd; rw [hd]
    refine ses_past ?_ k
    show (moveW T.W _ _).ses = T.W.ses
    unfold moveW
    split <;> rfl
  rw [if_neg q5] at hd
  by_cases q6 : a.what = 6
  · rw [if_pos q6] at hd; rw [hd]; exact ses_past rfl k
  rw [if_neg q6] at hd
  by_cases q7 : a.what = 7
  · rw [if_pos q7] at hd
    by_cases e : pickN a.k T.W.n = pickN a.n T.W.n
    · rw [if_pos e] at hd; rw [hd]; exact pastLe.refl _
    · rw [if_neg e] at hd; rw [hd]; exact ses_past (sendW_same _ _).ses k
  rw [if_neg q7] at hd
  by_cases q8 : a.what = 8
  · rw [if_pos q8] at hd
    rcases hd with ⟨_, rfl⟩ | ⟨W', h1, rfl⟩
    · exact pastLe.refl _
    · exact ses_past h1.keep.ses k
  rw [if_neg q8] at hd
  by_cases q9 : a.what = 9
  · rw [if_pos q9] at hd; rw [hd]; exact ses_past rfl k
  rw [if_neg q9] at hd
  by_cases q10 : a.what = 10
  · rw [if_pos q10] at hd
    rw [hd]
    cases T.W.net[actI T a]? with
    | none => exact pastLe.refl _
    | some g => exact ses_past (sendW_same _ _).ses k
  rw [if_neg q10] at hd
  by_cases q11 : a.what = 11
  · rw [if_pos q11] at hd
    cases sw with
    | true => rw [if_pos rfl] at hd; rw [hd]; exact ses_past rfl k
    | false => rw [if_neg (by decide)] at hd; rw [hd]; exact pastLe.refl _
  rw [if_neg q11] at hd
  by_cases q12 : a.what = 12
  · rw [if_pos q12] at hd
    obtain ⟨W', h1, rfl⟩ := hd
    exact ses_past h1.keep.ses k
  rw [if_neg q12] at hd
  rw [hd]
  exact pastLe.refl _
theorem DoesTo.many {T T' : TaleS} {a : ActS} {sw : Bool} (hd : DoesTo T a sw T') : T'.W.n = T.W.n ∧ T'.W.c = T.W.c := by
  unfold DoesTo at hd
  by_cases q0 : a.what = 0
  · rw [if_pos q0] at hd; rw [hd]; exact ⟨rfl, rfl⟩
  rw [if_neg q0] at hd
  by_cases q1 : a.what = 1
  · rw [if_pos q1] at hd; rw [hd]; exact ⟨rfl, rfl⟩
  rw [if_neg q1] at hd
  by_cases q2 : a.what = 2
  · rw [if_pos q2] at hd; rw [hd]; exact ⟨rfl, rfl⟩
  rw [if_neg q2] at hd
  by_cases q3 : a.what = 3
  · rw [if_pos q3] at hd; rw [hd]
    show (wcW T.W _).n = _ ∧ (wcW T.W _).c = _
    unfold wcW
    split
    · exact ⟨(tellW_same _ _ _).n, (tellW_same _ _ _).c⟩
    · exact ⟨rfl, rfl⟩
  rw [if_neg q3] at hd
  by_cases q4 : a.what = 4
  · rw [if_pos q4] at hd; rw [hd]; exact ⟨rfl, rfl⟩
  rw [if_neg q4] at hd
  by_cases q5 : a.what = 5
  · rw [if_pos q5] at hd; rw [hd]
    show (moveW T.W _ _).n = _ ∧ (moveW T.W _ _).c = _
    unfold moveW
    split <;> exact ⟨rfl, rfl⟩
  rw [if_neg q5] at hd
  by_cases q6 : a.what = 6
  · rw [if_pos q6] at hd; rw [hd]; exact ⟨rfl, rfl⟩
  rw [if_neg q6] at hd
  by_cases q7 : a.what = 7
  · rw [if_pos q7] at hd
    by_cases e : pickN a.k T.W.n = pickN a.n T.W.n
    · rw [if_pos e] at hd; rw [hd]; exact ⟨rfl, rfl⟩
    · rw [if_neg e] at hd; rw [hd]; exact ⟨(sendW_same _ _).n, (sendW_same _ _).c⟩
  rw [if_neg q7] at hd
  by_cases q8 : a.what = 8
  · rw [if_pos q8] at hd
    rcases hd with ⟨_, rfl⟩ | ⟨W', h1, rfl⟩
    · exact ⟨rfl, rfl⟩
    · exact ⟨h1.keep.n, h1.keep.c⟩
  rw [if_neg q8] at hd
  by_cases q9 : a.what = 9
  · rw [if_pos q9] at hd; rw [hd]; exact ⟨rfl, rfl⟩
  rw [if_neg q9] at hd
  by_cases q10 : a.what = 10
  · rw [if_pos q10] at hd
    rw [hd]
    cases T.W.net[actI T a]? with
    | none => exact ⟨rfl, rfl⟩
    | some g => exact ⟨(sendW_same _ _).n, (sendW_same _ _).c⟩
  rw [if_neg q10] at hd
  by_cases q11 : a.what = 11
  · rw [if_pos q11] at hd
    cases sw with
    | true => rw [if_pos rfl] at hd; rw [hd]; exact ⟨rfl, rfl⟩
    | false => rw [if_neg (by decide)] at hd; rw [hd]; exact ⟨rfl, rfl⟩
  rw [if_neg q11] at hd
  by_cases q12 : a.what = 12
  · rw [if_pos q12] at hd
    obtain ⟨W', h1, rfl⟩ := hd
    exact ⟨h1.keep.n, h1.keep.c⟩
  rw [if_neg q12] at hd
  rw [hd]
  exact ⟨rfl, rfl⟩
section
variable {base : Nat → V4} {Tg T : TaleS} {m : Nat}
theorem TI.tells (h : TI base Tg T m) {k : Nat} (hk : k < Tg.W.c) (hm : m < 120) (hq : 0 < (wcT T.W k).seq) : okT (wcT T.W k) = true ∧ (0 ≤ (wcT T.W k).site ∧ (wcT T.W k).site ≤ 3) ∧ (wcT T.W k).seq ≤ depOf (wcT T.W k).site ((wcW T.W k).ses k).p0 ((wcW T.W k).ses k).p1 ((wcW T.W k).ses k).p2 ((wcW T.W k).ses k).p3 ∧ (wcT T.W k).ws.length = (allW (T.own k)).length := by
  obtain ⟨z1, z2, z3, z4, z5⟩ := wc_yes hq
  have c := h.commit hk hm
  have hmem : wcT T.W k ∈ (comTa Tg k).H := by
    rw [← c.eH]
    unfold comTa
    rw [if_pos hq]
    exact List.mem_append.2 (.inr (List.mem_singleton.2 rfl))
  have ok := c.gi.hist.ok _ hmem
  have hs := c.gi.hist.site hmem
  refine ⟨ok, hs, ?_, ?_⟩
  · have e : (wcW T.W k).ses k = atLeast (wcT T.W k).site (wcT T.W k).seq (endS (T.W.ses k)) := by
      unfold wcW
      rw [if_pos hq, (tellW_same _ _ _).ses]
      show setN T.W.ses k _ k = _
      rw [setN_same]
      have e0 : scomE (T.W.S (T.W.at_ k)) (T.W.ses k) (T.W.wall (T.W.at_ k)) = 0 := z5
      unfold scomSes
      rw [if_neg (by rw [e0]; decide), if_neg z2]
      rfl
    rw [e]
    obtain ⟨t, ht⟩ : ∃ t, wcT T.W k = t := ⟨_, rfl⟩
    rw [ht] at hs ⊢
    have h4 : t.site = 0 ∨ t.site = 1 ∨ t.site = 2 ∨ t.site = 3 := by omega
    unfold atLeast depOf
    rcases h4 with e | e | e | e <;> (rw [e]; exact maxZ_r _ _)
  · have eo : T.own k = (T.W.ses k).ws := by
      rw [h.eo, h.sim.ses]
      rw [h.sim.ses] at z1
      exact (h.cl k hk z1).own
    rw [eo, z4]
    rfl
end

end Go.Proofs.YtemiamjnhoeniaaGreatDoor


namespace Go.Proofs.YtemiamjnhoeniaaGreatDoor
open Go.RowKit

theorem Touch.belowF {F : Nat → Prop} {n : Nat} {w w1 w2 : World} (hb : Below n w w1) (h : Touch F w1 w2) (hF : ∀ k, F k → n ≤ k) (hn : n ≤ w1.heap.size) : Below n w w2 :=
  ⟨h.os.trans hb.os, h.tape.trans hb.tape, h.output.trans hb.output, Nat.le_trans hb.size h.size, fun k hk => (h.block k (by omega) (fun e => by have := hF k e; omega)).trans (hb.block k hk)⟩
def NewPW (w0 : World) (b : Nat) (W : WoS) (w : World) : Prop := Below w0.heap.size w0 w ∧ ∃ G, PW w b G W ∧ ∀ k, G k → w0.heap.size ≤ k
theorem NewPW.later {w0 w w' : World} {b : Nat} {W : WoS} (h : NewPW w0 b W w) (hb : Below w.heap.size w w') : NewPW w0 b W w' := by
  obtain ⟨h1, G, h2, h3⟩ := h
  exact ⟨behind h1 hb, G, h2.later hb, h3⟩
theorem NewPW.calls {w0 w : World} {b : Nat} {W : WoS} (h : NewPW w0 b W w) : ∃ G, PW w b G W ∧ ∀ W' w', PWPo w b G W' w' → NewPW w0 b W' w' := by
  obtain ⟨h1, G, h2, h3⟩ := h
  refine ⟨G, h2, fun W' w' hp => ?_⟩
  obtain ⟨G', p1, p2, tt⟩ := hp
  have s := h1.size
  refine ⟨Touch.belowF h1 tt h3 h1.size, G', p1, fun k hk => ?_⟩
  rcases p2 k hk with q | q
  · exact h3 k q
  · omega
def lvX : Wr := ⟨3, ⟨#[120]⟩, false⟩
def lvT : TxP := ⟨0, 1, 0, 1, 0, 0, 0, 0, [lvX]⟩
def lt0 : TaleS := newT 2 2
def lt1 : TaleS := begT lt0 0
def lt2 : TaleS := wriT lt1 0 lvX
def lt3 : TaleS := comTa lt2 0
def lt4 : TaleS := setW lt3 (moveW lt3.W 1 1)
def lvS : SiteS := goneS { newS 1 with waits := [lvT] } lvT
def lt5 : TaleS := setW lt4 (setSite (dropW' lt4.W 0) 1 lvS)
def lt6 : TaleS := begT lt5 1
theorem lv_0 : TI (fun _ => ⟨0, 0, 0, 0⟩) lt0 lt0 0 := TI.new (by decide) (by decide) (by decide) (by decide)
theorem lv_1 : TI (fun _ => ⟨0, 0, 0, 0⟩) lt1 lt1 0 := lv_0.begin (by decide)
theorem lv_2 : TI (fun _ => ⟨0, 0, 0, 0⟩) lt2 lt2 0 := lv_1.write (by decide) lvX
theorem lv_3 : TI (fun _ => ⟨0, 0, 0, 0⟩) lt3 lt3 1 := lv_2.commit (by decide) (by decide)
theorem lv_n3 : lt3.W.n = 2 ∧ lt3.W.c = 2 := ⟨by rfl, by rfl⟩
theorem lv_4 : TI (fun _ => ⟨0, 0, 0, 0⟩) lt4 lt4 1 := lv_3.move (by rw [lv_n3.1]; decide)
theorem lv_b0 : begE (lt0.W.S (lt0.W.at_ 0)) (lt0.W.ses 0) = 0 := by rfl
theorem lv_w : wriE (lt1.W.ses 0) lvX = 0 := by rfl
theorem lv_ce : wcE lt2.W 0 = 0 := by rfl
theorem lv_ct : wcT lt2.W 0 = lvT := by rfl
theorem lv_me : moveE lt3.W 1 = 0 := by rfl
theorem lv_net : lt4.W.net[0]? = some ⟨1, .tx lvT⟩ := by rfl
theorem lv_takeE : takeE (newS 1) lvT = 0 := by rfl
theorem lv_takes {S' : SiteS} (h : TakesTo (newS 1) lvT S') : S' = lvS :=
  h.det (.inr ⟨lv_takeE, .step (x := lvT) (by decide) (by rfl) (.none (by rfl))⟩)
theorem lv_come {W' : WoS} (h : DeliverTo lt4.W 0 W') : W' = lt5.W := by
  obtain ⟨g, h1, h2⟩ := h
  rw [lv_net] at h1
  injection h1 with h1
  subst h1
  obtain ⟨S', h3, rfl⟩ := h2
  have e : (dropW' lt4.W 0).S 1 = newS 1 := by rfl
  rw [show (⟨1, .tx lvT⟩ : GrS).to = 1 from rfl, e] at h3
  rw [lv_takes h3]
  rfl
theorem lv_deliver : DeliverTo lt4.W 0 lt5.W := ⟨⟨1, .tx lvT⟩, lv_net, lvS, .inr ⟨lv_takeE, .step (x := lvT) (by decide) (by rfl) (.none (by rfl))⟩, rfl⟩
theorem lv_5 : ∃ Tg, TI (fun _ => ⟨0, 0, 0, 0⟩) Tg lt5 1 := by
  obtain ⟨G', _, h⟩ := lv_4.deliver lv_deliver
  exact ⟨_, h⟩
theorem lv_b1 : begE (lt5.W.S (lt5.W.at_ 1)) (lt5.W.ses 1) = 0 := by rfl
theorem lv_r : sreadV (lt6.W.S (lt6.W.at_ 1)) (lt6.W.ses 1) 3 = (⟨#[120]⟩, 0) := by rfl
theorem lv_6 : ∃ Tg, TI (fun _ => ⟨0, 0, 0, 0⟩) Tg lt6 1 := by
  obtain ⟨Tg, h⟩ := lv_5
  have hc : (1 : Nat) < Tg.W.c := by
    rw [← h.sim.c]
    decide
  exact ⟨_, h.begin hc⟩
set_option maxRecDepth 100000 in
set_option maxHeartbeats 8000000 in
theorem lived_any (w : World) : Calls Tryz.prog 18 #[] w fun e w' => e = .returned (.bool true) ∧ Below w.heap.size w w' := by
  have N1 := pw_new (n := 2) (c := 2) (by decide) (by decide) (by decide) w
  go_enter Tryz.func18, Tryz.ntmps18
  go_wp2_with fail
  refine N1.mono ?_
  rintro e w1 ⟨rfl, G1, P1, hG1, hb1⟩
  obtain ⟨b, hb⟩ : ∃ b, w.heap.size = b := ⟨_, rfl⟩
  have Q1 : NewPW w b lt0.W w1 := ⟨hb1, G1, by rw [← hb]; exact P1, hG1⟩
  rw [hb]
  clear P1 hG1 hb1 N1 hb
  obtain ⟨Ga, Pa, fa⟩ := Q1.calls
  have B1 := pw_begin (i := 0) w1 Pa lv_0.wf (by decide)
  rw [lv_b0, show errV 0 = .nilIface from rfl] at B1
  clear Q1
  go_wp2_with fail
  refine B1.mono ?_
  rintro e w2 ⟨rfl, hp2⟩
  have Q2 : NewPW w b lt1.W w2 := fa _ _ hp2
  obtain ⟨Gb, Pb, fb⟩ := Q2.calls
  have B2 := pw_write (i := 0) 3 ⟨#[120]⟩ false w2 Pb (by decide)
  rw [show (⟨3, ⟨#[120]⟩, false⟩ : Wr) = lvX from rfl, lv_w, show errV 0 = .nilIface from rfl] at B2
  clear B1 Q2 hp2 Pa fa
  go_wp2_with fail
  refine B2.mono ?_
  rintro e w3 ⟨rfl, hp3⟩
  have Q3 : NewPW w b lt2.W w3 := fb _ _ hp3
  obtain ⟨hb3, Gc, Pc, hGc⟩ := Q3
  have B3 := pw_commit (i := 0) w3 Pc lv_2.wf (by decide) (fun _ => (lv_2.tells (by decide) (by decide) (by rw [lv_ct]; decide)).1)
  clear B2 hp3 Pb fb
  go_wp2_with fail
  refine B3.mono ?_
  rintro e w4 ⟨⟨mt, ma, mc⟩, rfl, hmt, hh⟩
  rw [lv_ct] at hmt
  simp only at hmt
  subst hmt
  obtain ⟨_, G4, P4, sub4, t4, _⟩ := hh.out
  have s3 := hb3.size
  have Q4 : NewPW w b lt3.W w4 := ⟨Touch.belowF hb3 t4 hGc hb3.size, G4, P4, fun k hk => by
    rcases sub4 k hk with q | q
    · exact hGc k q
    · omega⟩
  rw [lv_ce, show errV 0 = .nilIface from rfl, show txV ⟨lvT, ma, mc⟩ = .agg #[.int .i64 0, .int .i64 1, .int .i64 0, .int .i64 1, .int .i64 0, .int .i64 0, .int .i64 0, .int .i64 0, .slice ma 1 mc] from rfl]
  have bm := boxed (Below.refl _ w4) (.cells #[.int .i64 0, .int .i64 1, .int .i64 0, .int .i64 1, .int .i64 0, .int .i64 0, .int .i64 0, .int .i64 0, .slice ma 1 mc] 80)
  have RM := RowL.new (w := w4) (T := 80) [.int .i64 0, .int .i64 1, .int .i64 0, .int .i64 1, .int .i64 0, .int .i64 0, .int .i64 0, .int .i64 0, .slice ma 1 mc] rfl
  have x1 := RM.cell 1 _ rfl
  have Q5 := Q4.later bm
  obtain ⟨Gd, Pd, fd⟩ := Q5.calls
  have B4 := pw_move (i := 1) (to := 1) _ Pd (by rw [lv_n3.2]; decide) (by rw [lv_n3.1]; decide)
  rw [lv_me, show errV 0 = .nilIface from rfl] at B4
  clear B3 hh P4 sub4 t4 Q4 Q5 Pc hGc hb3 s3
  go_wp2_with fail
  refine B4.mono ?_
  rintro e w6 ⟨rfl, hp6⟩
  have Q6 : NewPW w b lt4.W w6 := fd _ _ hp6
  obtain ⟨Ge, Pe, fe⟩ := Q6.calls
  have B5 := pw_deliver (i := 0) w6 Pe lv_4.wf lv_net
  rw [show errV 0 = .nilIface from rfl] at B5
  clear B4 Q6 hp6 Pd fd x1 RM
  go_wp2_with fail
  refine B5.mono ?_
  rintro e w7 ⟨rfl, W', hd, hp7⟩
  have ew := lv_come hd.out
  subst ew
  have Q7 : NewPW w b lt5.W w7 := fe _ _ hp7
  obtain ⟨Gf, Pf, ff⟩ := Q7.calls
  obtain ⟨Tg5, I5⟩ := lv_5
  have B6 := pw_begin (i := 1) w7 Pf I5.wf (by decide)
  rw [lv_b1, show errV 0 = .nilIface from rfl] at B6
  clear B5 Q7 hp7 Pe fe hd
  go_wp2_with fail
  refine B6.mono ?_
  rintro e w8 ⟨rfl, hp8⟩
  have Q8 : NewPW w b lt6.W w8 := ff _ _ hp8
  obtain ⟨Tg6, I6⟩ := lv_6
  obtain ⟨hb8, Gg, Pg, hGg⟩ := Q8
  have B7 := pw_read (i := 1) 3 (by decide) w8 Pg I6.wf (by decide)
  rw [lv_r, show errV ((⟨#[120]⟩, 0) : ByteArray × Int).2 = .nilIface from rfl] at B7
  clear B6 hp8 Pf ff hGg
  go_wp2_with fail
  refine B7.mono ?_
  rintro e w9 ⟨rfl, hb9⟩
  clear B7
  go_wp2_with fail
  go_ret
  exact ⟨rfl, behind hb8 hb9⟩

end Go.Proofs.YtemiamjnhoeniaaGreatDoor

