import Derived.Test.YtoanjdndmlffdaaGreatDoorDkM3
namespace Go.Proofs.YtoanjdndmlffdaaGreatDoor
open Go.RowKit
set_option maxRecDepth 100000
set_option maxHeartbeats 4000000
section
variable {cb mb b j cap : Nat} {Gw G : Nat → Prop} {W : WoS} {a : Option Addr} {l : List ByteArray}
theorem ints_new {w : World} {T : TypeId} (l : List Int) : ∀ (q : Nat) x, l[q]? = some x → (w.alloc (.cells (intsV l).toArray T)).cell? ⟨w.heap.size, 0 + q, none⟩ = some (.int .i64 x) := fun q x hx => by
  rw [Nat.zero_add]
  exact (RowL.new (w := w) (T := T) (intsV l) rfl).cell q _ (by unfold intsV; rw [List.getElem?_map, hx]; rfl)
theorem do_many (w : World) (h : DoPre w cb mb b Gw G W j a cap l) : Calls Tryz.prog 57 #[.pointer (some ⟨cb, 0, none⟩), .slice a l.length cap] w (DoPost 11 W l w cb mb G) := by
  have HH : Hid (DoPre w cb mb b Gw G W j a cap l) := h
  have N1 := none_any h.sm w h.gl h.st
  clear h
  go_enter Tryz.func57, Tryz.ntmps57
  go_wp2_with fail
  refine N1.mono ?_
  rintro e w1 ⟨hb1, (⟨hv, rfl⟩ | ⟨hv, rfl⟩)⟩
  · have c1 := (HH.out.ck.later hb1).cell0
    have pw1 := (HH.out.ck.later hb1).pw.later (Below.refl _ w1).drew
    have PM := pw_many w1.drew pw1
    have PL := pw_lost w1.drew pw1
    have hbx : Below w.heap.size w ((w1.alloc (.cells #[.int .i64 W.net.length, .int .i64 W.lost] 3)).drew) := (boxed hb1 _).drew
    have BL := blanked_any (b := w1.heap.size) (o := 0) (cap := 2) (l := [(W.net.length : Int), W.lost]) (by simp) (by simp) (fun x hx => by
      simp at hx
      rcases hx with rfl | rfl
      · have := HH.out.wi.wf.net; exact ⟨by omega, by omega⟩
      · exact HH.out.di.lost) ((w1.alloc (.cells #[.int .i64 W.net.length, .int .i64 W.lost] 3)).drew) (HH.out.gl.later hbx) (by simp) (ints_new (w := w1) (T := 3) [(W.net.length : Int), W.lost])
    have HF : Hid (∀ w3, Below ((w1.alloc (.cells #[.int .i64 W.net.length, .int .i64 W.lost] 3)).drew).heap.size ((w1.alloc (.cells #[.int .i64 W.net.length, .int .i64 W.lost] 3)).drew) w3 → DoPost 11 W l w cb mb G (.returned (.string (bya (blkd [(W.net.length : Int), W.lost])))) w3) := fun w3 hb3 => HH.out.told (by decide) hv.out ⟨rfl, rfl, rfl⟩ (behind hbx hb3) (.inl ⟨rfl, rfl⟩)
    dsimp only [List.length_cons, List.length_nil, Nat.reduceAdd] at BL
    clear hbx pw1 N1
    go_wp2
    go_region_with (first | (go_at_call 110; refine PM.mono ?_; rintro e w2 ⟨rfl, rfl⟩) | (go_at_call 111; refine PL.mono ?_; rintro e w2 ⟨rfl, rfl⟩) | (go_at_call 102; refine BL.mono ?_; rintro e w3 ⟨rfl, hb3⟩))
    all_goals
      go_wp2
      go_ret
      exact HF.out _ hb3
  · exact ⟨rfl, HH.out.no (by decide) hv.out hb1⟩
end
end Go.Proofs.YtoanjdndmlffdaaGreatDoor
