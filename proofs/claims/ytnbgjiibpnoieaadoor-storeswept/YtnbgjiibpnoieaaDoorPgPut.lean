/-
  What store.Put does, as the model runs it.
-/
import Derived.Test.YtnbgjiibpnoieaaDoorPgSt
import Derived.Deep.RegionHeld3
namespace Go.Proofs.YtnbgjiibpnoieaaDoor
open Go.RowKit

/-- what is left of a store that is changed to hold l' -/
def PPost (w : World) (b : Nat) (F : Nat → Prop) (l' : List Hd) (w' : World) : Prop := ∃ F', StP w' b F' l' ∧ (∀ k, F' k → F k ∨ w.heap.size ≤ k) ∧ Touch F w w'
theorem StP.kept {w w' : World} {b : Nat} {F : Nat → Prop} {l : List Hd} (h : StP w b F l) (hk : ∀ k, F k → w'.heap[k]? = w.heap[k]?) (hs : w.heap.size ≤ w'.heap.size) : StP w' b F l := by
  obtain ⟨vs, Ls, R, H, hF⟩ := h
  exact ⟨vs, Ls, R.kept (fun k hk' => hk k ((hF k).2 hk')) hs, H, hF⟩
theorem StP.lt {w : World} {b : Nat} {F : Nat → Prop} {l : List Hd} (h : StP w b F l) : ∀ k, F k → k < w.heap.size := by
  obtain ⟨vs, Ls, R, H, hF⟩ := h
  exact fun k hk => R.lt k ((hF k).1 hk)
theorem PPost.same {w w' : World} {b : Nat} {F : Nat → Prop} {l : List Hd} (h : StP w b F l) (hb : Below w.heap.size w w') : PPost w b F l w' :=
  ⟨F, h.kept (fun k hk => hb.block k (h.lt k hk)) hb.size, fun _ hk => .inl hk, Touch.ofBelow hb⟩

set_option maxHeartbeats 4000000 in
theorem pgPut_range {b : Nat} {F : Nat → Prop} {l : List Hd} {key : Int} (h : inB key 0 7 = false) (v : Ver) (w : World) (hS : StP w b F l) :
    Calls Tryd.prog 30 #[.pointer (some ⟨b, 0, none⟩), .int .i64 key, .agg #[.int .i64 v.wall, .int .i64 v.count, .int .i64 v.site, .int .i64 v.seq, .string v.data, .bool v.gone]] w fun e w' => e = .returned (errV (putE l key v)) ∧ PPost w b F (putL l key v) w' := by
  have e : putE l key v = 2 := by unfold putE; rw [h]; rfl
  have e2 : putL l key v = l := by unfold putL; rw [e]; rfl
  rw [e, e2]
  have H : Hid (inB key 0 7 = false) := h
  clear h e e2
  go_enter Tryd.func30, Tryd.ntmps30
  go_wp2_with fail
  refine (isKey_is H.out _).mono ?_
  rintro e w1 ⟨rfl, rfl⟩
  go_wp2_with fail
  go_ret
  exact ⟨rfl, PPost.same hS (boxed (Below.refl _ _) _)⟩

set_option maxHeartbeats 4000000 in
theorem pgPut_arg {b : Nat} {F : Nat → Prop} {l : List Hd} {key : Int} (h : inB key 0 7 = true) (v : Ver) (hv : okVer v = false) (w : World) (hS : StP w b F l) :
    Calls Tryd.prog 30 #[.pointer (some ⟨b, 0, none⟩), .int .i64 key, .agg #[.int .i64 v.wall, .int .i64 v.count, .int .i64 v.site, .int .i64 v.seq, .string v.data, .bool v.gone]] w fun e w' => e = .returned (errV (putE l key v)) ∧ PPost w b F (putL l key v) w' := by
  have e : putE l key v = 1 := by unfold putE; rw [h, hv]; rfl
  have e2 : putL l key v = l := by unfold putL; rw [e]; rfl
  rw [e, e2]
  have H : Hid (inB key 0 7 = true) := h
  have HV : Hid (okVer v = false) := hv
  clear h hv e e2
  go_enter Tryd.func30, Tryd.ntmps30
  go_wp2_with fail
  refine (isKey_is H.out _).mono ?_
  rintro e w1 ⟨rfl, rfl⟩
  go_wp2_with fail
  refine (isRight_is HV.out _).mono ?_
  rintro e w1 ⟨rfl, hb1⟩
  go_wp2_with fail
  go_ret
  exact ⟨rfl, PPost.same hS (behind (boxed (Below.refl _ _) _) hb1)⟩

set_option maxRecDepth 100000 in
set_option maxHeartbeats 8000000 in
theorem pgPut_ok {b : Nat} {F : Nat → Prop} {l : List Hd} {key : Int} (h : inB key 0 7 = true) (v : Ver) (hv : okVer v = true) (w : World) (hS : StP w b F l) (hl : l.length ≤ 1000) :
    Calls Tryd.prog 30 #[.pointer (some ⟨b, 0, none⟩), .int .i64 key, .agg #[.int .i64 v.wall, .int .i64 v.count, .int .i64 v.site, .int .i64 v.seq, .string v.data, .bool v.gone]] w fun e w' => e = .returned (errV (putE l key v)) ∧ PPost w b F (putL l key v) w' := by
  have hne := Later.one
  obtain ⟨vs, Ls, R, PH, hF⟩ := id hS
  have hk := inB_iff.1 h
  obtain ⟨k, rfl⟩ : ∃ k : Nat, key = (k : Int) := ⟨key.toNat, by omega⟩
  have hk8 : k < 8 := by omega
  have hkz : (k : Int) < 8 := by omega
  obtain ⟨p, hp⟩ := bsAt_some v (R.sorted k hk8)
  have FI := found_iff (R.sorted k hk8) hp
  rw [← twin_any PH hk8 v] at FI
  obtain ⟨a, cap, hvk, hV⟩ := vsIn_own (R.own k hk8)
  have hlk : (Ls k).length ≤ 1000 := Nat.le_trans (PH.len hk8) hl
  have RX := RowL.new (w := w) (T := 71) (verL v) rfl
  have hb := boxed (Below.refl _ w) (.cells #[.int .i64 v.wall, .int .i64 v.count, .int .i64 v.site, .int .i64 v.seq, .string v.data, .bool v.gone] 71)
  change RowL (w.alloc (.cells #[.int .i64 v.wall, .int .i64 v.count, .int .i64 v.site, .int .i64 v.seq, .string v.data, .bool v.gone] 71)) w.heap.size (verL v) at RX
  have H : Hid (inB (k : Int) 0 7 = true) := h
  have HV : Hid (okVer v = true) := hv
  clear h hv hk
  go_enter Tryd.func30, Tryd.ntmps30
  go_wp2_with fail
  refine (isKey_is H.out _).mono ?_
  rintro e w1 ⟨rfl, rfl⟩
  go_wp2_with fail
  refine (isRight_is HV.out _).mono ?_
  rintro e w1 ⟨rfl, hb1⟩
  replace RX := RX.later hb1
  replace hb := behind hb hb1
  clear hb1
  have R1 := R.later hb
  have k0 : w1.cell? ⟨b, k, none⟩ = some (.slice a (Ls k).length cap) := by rw [← hvk]; exact R1.cell hk8
  have l0 := Later.cell k0
  have x0 := Later.cell (RX.cell 0 _ rfl)
  have x1 := Later.cell (RX.cell 1 _ rfl)
  have x2 := Later.cell (RX.cell 2 _ rfl)
  have x3 := Later.cell (RX.cell 3 _ rfl)
  have x4 := Later.cell (RX.cell 4 _ rfl)
  have x5 := Later.cell (RX.cell 5 _ rfl)
  have SE : Hid (∀ x : Later w1, Calls Tryd.prog 62 #[.slice a (Ls k).length cap, .agg #[.int .i64 v.wall, .int .i64 v.count, .int .i64 v.site, .int .i64 v.seq, .string v.data, .bool v.gone], .func (.func 63) #[] #[]] x.val fun e w' => e = .returned (.tuple #[.int .i64 p, .bool (foundB (Ls k) v p)]) ∧ Below x.val.heap.size x.val w') :=
    fun x => search_is hp x.val ((hV.later hb).later x.below) (R.sorted k hk8) hlk
  obtain ⟨fb, hfb⟩ : ∃ fb, foundB (Ls k) v p = fb := ⟨_, rfl⟩
  rw [hfb] at SE FI
  have FB : Hid (foundB (Ls k) v p = fb) := hfb
  have HP : Hid (BsAt (Ls k) v p) := hp
  clear hfb hp
  cases fb
  · have PE : Hid (putE l k v = 0) := by
      show putE l k v = 0
      unfold putE
      have : l.any (twinB k v) = false := by
        cases hq : l.any (twinB k v)
        · rfl
        · have := FI.2 hq; cases this
      rw [H.out, HV.out, this]; rfl
    have PL : Hid (putL l k v = l ++ [⟨k, v⟩]) := by show putL l k v = _; unfold putL; rw [PE.out]; rfl
    clear FI
    go_wp2_with fail
    refine wp_region_later (by kernel_rfl) (by kernel_rfl) ?_
    repeat (go_big_quiet_step ((go_at_call 62; with_reducible exact calls_later (SE.out _))))
    refine wpQuiet_nil ?_
    rintro w5 ⟨⟨_, hb7⟩, rfl⟩
    have hb5 := behind hb hb7
    have RX5 := RX.later hb7
    have R5 := R1.later hb7
    have k5 : w5.cell? ⟨b, k, none⟩ = some (.slice a (Ls k).length cap) := by rw [← hvk]; exact R5.cell hk8
    have y0 := RX5.cell 0 _ rfl
    have y1 := RX5.cell 1 _ rfl
    have y2 := RX5.cell 2 _ rfl
    have y3 := RX5.cell 3 _ rfl
    have y4 := RX5.cell 4 _ rfl
    have y5 := RX5.cell 5 _ rfl
    have ownA : (w5.drew.alloc (.cells #[.int .i64 v.wall, .int .i64 v.count, .int .i64 v.site, .int .i64 v.seq, .string v.data, .bool v.gone] 71)).ownsRow 0 71 6 (.slice a (Ls k).length cap) (Ls k).length (versL (Ls k)) := by
      rw [← hvk]
      exact World.ownsRow.alloc (show w5.drew.ownsRow 0 71 6 (vs k) (Ls k).length (versL (Ls k)) from R5.own k hk8) _
    have vbne : (Value.slice a (Ls k).length cap).ownBlock ≠ some w5.heap.size := by
      rw [← hvk]
      intro e
      have := ((R5.own k hk8).lt _ e).2
      omega
    have IN : Hid (Calls Tryd.prog 64 #[.slice a (Ls k).length cap, .int .i64 p, .slice (some ⟨w5.heap.size, 0, none⟩) 1 1] (w5.drew.alloc (.cells #[.int .i64 v.wall, .int .i64 v.count, .int .i64 v.site, .int .i64 v.seq, .string v.data, .bool v.gone] 71)) fun e w' =>
      ∃ g cap', e = .returned (.slice (some ⟨g, 0, none⟩) ((Ls k).length + 1) cap') ∧ InsPost (w5.drew.alloc (.cells #[.int .i64 v.wall, .int .i64 v.count, .int .i64 v.site, .int .i64 v.seq, .string v.data, .bool v.gone] 71)) (.slice a (Ls k).length cap) (insL (Ls k) p v) g cap' w') :=
      insert_any v w5.heap.size _ ownA HP.out.1 hlk (heap_alloc_new w5.drew _) vbne
    have bfree := R5.free hk8
    have hbl := R5.box.lt
    have hap := R5.apart k hk8
    rw [hvk] at hap
    clear ownA vbne x0 x1 x2 x3 x4 x5 l0 k0 SE
    go_wp2_with fail
    go_region_law (
      refine step_call rfl 64 #[.slice a (Ls k).length cap, .int .i64 p, .slice (some ⟨w5.heap.size, 0, none⟩) 1 1] (by go_simp) IN.out ?_
      rintro e w8 ⟨g, cap', rfl, IP⟩
      refine ⟨_, rfl, ?_⟩
      have HI : Hid (InsPost (w5.drew.alloc (.cells #[.int .i64 v.wall, .int .i64 v.count, .int .i64 v.site, .int .i64 v.seq, .string v.data, .bool v.gone] 71)) (.slice a (Ls k).length cap) (insL (Ls k) p v) g cap' w8) := IP
      have B8 := ((R5.box.drew).boxed (.cells #[.int .i64 v.wall, .int .i64 v.count, .int .i64 v.site, .int .i64 v.seq, .string v.data, .bool v.gone] 71)).grown IP.2.1 (fun e => hap e.symm)
      have c8 : w8.cell? ⟨b, k, none⟩ = some (.slice a (Ls k).length cap) := by rw [World.cell?_of_block (w := w5) ((IP.2.1.block b (by simp; omega) (fun e => hap e.symm)).trans (Below.heap_alloc w5.drew _ b hbl)), k5]
      have f8 : w8.frozen? ⟨b, k, none⟩ = false := B8.free k (by simpa using hk8)
      clear IP)
    all_goals
      have TW : Touch (fun j => (vs k).ownBlock = some j) w w8 := by
        rw [hvk]
        exact ((Touch.ofBelow hb5).trans (Touch.ofBelow (boxed ((Below.refl _ w5).drew) _))).trans (Touch.grown HI.out.2.1 (fun j hj => hj))
      have ownN := HI.out.1
      rw [insL_length v HP.out.1] at ownN
      have CH := R.change hk8 (v' := .slice (some ⟨g, 0, none⟩) ((Ls k).length + 1) cap') (L' := insL (Ls k) p v) TW (by rw [insL_length v HP.out.1]; exact ownN) (fun j hj => by
        have e : g = j := by simpa [Value.ownBlock] using hj
        subst e
        rcases HI.out.2.2 with h1 | h1
        · left
          rw [hvk]
          exact h1
        · right
          have := hb5.size
          simp at h1
          omega) (sorted_ins (R.sorted k hk8) HP.out FB.out)
      have FIN : Hid (PPost w b F (l ++ [⟨k, v⟩]) (w8.setCell ⟨b, k, none⟩ (.slice (some ⟨g, 0, none⟩) ((Ls k).length + 1) cap'))) :=
        ⟨footP b (upd vs k (.slice (some ⟨g, 0, none⟩) ((Ls k).length + 1) cap')), ⟨_, _, CH.1, PH.put hk8 v p, fun _ => Iff.rfl⟩, fun j hj => (CH.2.2 j hj).imp_left (hF j).2, ⟨CH.2.1.os, CH.2.1.tape, CH.2.1.output, CH.2.1.size, fun j hj hn => CH.2.1.block j hj (fun e => hn ((hF j).2 e))⟩⟩
      clear CH ownN TW
      go_wp2_with fail
      go_ret
      rw [PE.out, PL.out]
      exact ⟨rfl, FIN.out⟩
  · have PE : Hid (putE l k v = 9) := by
      show putE l k v = 9
      unfold putE
      rw [H.out, HV.out, FI.1 rfl]; rfl
    have PL : Hid (putL l k v = l) := by show putL l k v = _; unfold putL; rw [PE.out]; rfl
    clear FI
    go_wp2_with fail
    refine wp_region_later (by kernel_rfl) (by kernel_rfl) ?_
    repeat (go_big_quiet_step ((go_at_call 62; with_reducible exact calls_later (SE.out _))))
    refine wpQuiet_nil ?_
    rintro w5 ⟨⟨_, hb7⟩, rfl⟩
    go_wp2_with fail
    go_ret
    rw [PE.out, PL.out]
    exact ⟨rfl, PPost.same hS (behind hb hb7)⟩

theorem pgPut_any {b : Nat} {F : Nat → Prop} {l : List Hd} (key : Int) (v : Ver) (w : World) (hS : StP w b F l) (hl : l.length ≤ 1000) :
    Calls Tryd.prog 30 #[.pointer (some ⟨b, 0, none⟩), .int .i64 key, .agg #[.int .i64 v.wall, .int .i64 v.count, .int .i64 v.site, .int .i64 v.seq, .string v.data, .bool v.gone]] w fun e w' => e = .returned (errV (putE l key v)) ∧ PPost w b F (putL l key v) w' := by
  cases h : inB key 0 7
  · exact pgPut_range h v w hS
  · cases hv : okVer v
    · exact pgPut_arg h v hv w hS
    · exact pgPut_ok h v hv w hS hl

end Go.Proofs.YtnbgjiibpnoieaaDoor
