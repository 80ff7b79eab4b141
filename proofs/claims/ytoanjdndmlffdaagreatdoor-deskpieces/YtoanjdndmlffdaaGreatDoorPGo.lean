import Derived.Test.YtoanjdndmlffdaaGreatDoorPNext
import Derived.Test.YtoanjdndmlffdaaGreatDoorPApply
namespace Go.Proofs.YtoanjdndmlffdaaGreatDoor
open Go.RowKit
/-- a site of the program in memory: all that it holds lies in blocks of G -/
def PS (w : World) (b : Nat) (G : Nat → Prop) (S : SiteS) : Prop :=
  ∃ lv bm F log waits, PMem w b lv bm F S log waits ∧ log.map (·.t) = S.log ∧ waits.map (·.t) = S.waits ∧ ∀ k, G k ↔ (footQ b lv bm F k ∨ ∃ m ∈ log ++ waits, m.blk k)
theorem PS.lt {w : World} {b : Nat} {G : Nat → Prop} {S : SiteS} (h : PS w b G S) : ∀ k, G k → k < w.heap.size := by
  obtain ⟨lv, bm, F, log, waits, h, _, _, hG⟩ := h
  intro k hk
  rcases (hG k).1 hk with h1 | ⟨m, hm, h1⟩
  · exact h.lt k h1
  · exact (h.hold m hm).1.blk_lt k h1
theorem PS.kept {w w' : World} {b : Nat} {G : Nat → Prop} {S : SiteS} (h : PS w b G S) (hk : ∀ k, G k → w'.heap[k]? = w.heap[k]?) (hs : w.heap.size ≤ w'.heap.size) : PS w' b G S := by
  obtain ⟨lv, bm, F, log, waits, h, h1, h2, hG⟩ := h
  exact ⟨lv, bm, F, log, waits, h.kept (fun k e => hk k ((hG k).2 e)) hs, h1, h2, hG⟩
theorem PS.later {w w' : World} {b : Nat} {G : Nat → Prop} {S : SiteS} (h : PS w b G S) (hb : Below w.heap.size w w') : PS w' b G S := h.kept (fun k hk => hb.block k (h.lt k hk)) hb.size
/-- what is left of it: another site, in its blocks and new ones -/
def PPo (w : World) (b : Nat) (G : Nat → Prop) (S' : SiteS) (w' : World) : Prop := ∃ G', PS w' b G' S' ∧ (∀ k, G' k → G k ∨ w.heap.size ≤ k) ∧ Touch G w w'
theorem PPo.trans {w w1 w2 : World} {b : Nat} {G G1 : Nat → Prop} {S' : SiteS} (hG : ∀ k, G1 k → G k ∨ w.heap.size ≤ k) (ht : Touch G w w1) (h : PPo w1 b G1 S' w2) : PPo w b G S' w2 := by
  obtain ⟨G', h1, h2, h3⟩ := h
  refine ⟨G', h1, fun k hk => ?_, ht.more h3 hG⟩
  rcases h2 k hk with h4 | h4
  · exact hG k h4
  · exact .inr (by have := ht.size; omega)
theorem PPo.same {w w' : World} {b : Nat} {G : Nat → Prop} {S : SiteS} (h : PS w b G S) (hb : Below w.heap.size w w') : PPo w b G S w' := ⟨G, h.later hb, fun _ hk => .inl hk, Touch.ofBelow hb⟩

theorem gone_mem {S : SiteS} {log waits : List TxM} {m : TxM} (hS : waits.map (·.t) = S.waits) 
    (hlog : log.map (·.t) = S.log) : (log ++ [m]).map (·.t) = (goneS S m.t).log ∧ (dropM waits m.t).map (·.t) = (goneS S m.t).waits := by
  constructor
  · rw [List.map_append, hlog]; rfl
  · rw [dropM_map, hS]; rfl

/-- while it goes on: what is to come of it is what was to come at first -/
structure GoM (w0 : World) (b : Nat) (G : Nat → Prop) (S0 S : SiteS) (wr : World) : Prop where
  mem : ∃ G', PS wr b G' S ∧ (∀ k, G' k → G k ∨ w0.heap.size ≤ k)
  touch : Touch G w0 wr
  inv : InvS S
  wn : S.waits.length ≤ 1000
  go : ∀ X, Goes S X → Goes S0 X
theorem GoM.later {w0 : World} {b : Nat} {G : Nat → Prop} {S0 S : SiteS} {wr w' : World} (h : GoM w0 b G S0 S wr) (hb : Below wr.heap.size wr w') : GoM w0 b G S0 S w' := by
  obtain ⟨G', h1, h2⟩ := h.mem
  exact ⟨⟨G', h1.later hb, h2⟩, h.touch.trans (Touch.ofBelow hb), h.inv, h.wn, h.go⟩

theorem gone_round {w w1 w2 : World} {b : Nat} {G : Nat → Prop} {S0 S : SiteS} {wr : World} {lv lv' : Value} {bm : Nat} {F F' : Nat → Prop} {log waits : List TxM} {G' : Nat → Prop} (hM : GoM w b G S0 S wr) (hl : log.map (·.t) = S.log) (hw : waits.map (·.t) = S.waits)
    (hG : ∀ k, G' k ↔ (footQ b lv bm F k ∨ ∃ m ∈ log ++ waits, m.blk k)) (hGG : ∀ k, G' k → G k ∨ w.heap.size ≤ k) {m : TxM} (hm : m ∈ waits) (hlog : S.log.length < 200) (hx : nextS S = some m.t)
    (gr1 : wr.grownBy w1 (some bm)) (ap : PMem w2 b lv' bm F' (applyS { S with waits := dropW S.waits m.t } m.t) (log ++ [m]) (dropM waits m.t)) (nf : ∀ k, footQ b lv' bm F' k → footQ b lv bm F k ∨ w1.heap.size ≤ k) (ht : Touch (footQ b lv bm F) w1 w2) : GoM w b G S0 (goneS S m.t) w2 := by
  have tm : Touch G' wr w2 := ⟨ht.os.trans gr1.os, ht.tape.trans gr1.tape, ht.output.trans gr1.output, Nat.le_trans gr1.size ht.size, fun k hk hn => (ht.block k (Nat.lt_of_lt_of_le hk gr1.size) (fun e => hn ((hG k).2 (.inl e)))).trans (gr1.block k hk (fun e => hn ((hG k).2 (.inl (.inr (.inr (.inl (by injection e))))))))⟩
  have hmm : m.t ∈ S.waits := by rw [← hw]; exact List.mem_map.2 ⟨m, hm, rfl⟩
  refine ⟨⟨fun k => footQ b lv' bm F' k ∨ ∃ x ∈ (log ++ [m]) ++ dropM waits m.t, x.blk k, ⟨lv', bm, F', log ++ [m], dropM waits m.t, ap, (gone_mem hw hl).1, (gone_mem hw hl).2, fun k => Iff.rfl⟩, fun k hk => ?_⟩, hM.touch.more tm hGG, hM.inv.gone hmm hlog, ?_, fun X hX => hM.go X (.step hlog hx hX)⟩
  · rcases hk with h1 | ⟨x, hx, h1⟩
    · rcases nf k h1 with h2 | h2
      · exact hGG k ((hG k).2 (.inl h2))
      · exact .inr (by have := hM.touch.size; have := gr1.size; omega)
    · refine hGG k ((hG k).2 (.inr ⟨x, ?_, h1⟩))
      rcases List.mem_append.1 hx with h2 | h2
      · rcases List.mem_append.1 h2 with h3 | h3
        · exact List.mem_append.2 (.inl h3)
        · rw [List.mem_singleton.1 h3]; exact List.mem_append.2 (.inr hm)
      · exact List.mem_append.2 (.inr (mem_dropM.1 h2).1)
  · have := dropW_length hM.inv.nums hmm
    have := hM.wn
    show (dropW S.waits m.t).length ≤ 1000
    omega

/-- what is read while one is applied -/
structure NxA (A b bm : Nat) (w : World) : Prop where
  c : w.cell? ⟨A, 0, none⟩ = some (.pointer (some ⟨b, 0, none⟩))
  m : w.cell? ⟨b, 8, none⟩ = some (.map (some bm))
/-- how much room there is -/
def logLeft (w : World) (b : Nat) : Nat := match w.cell? ⟨b, 7, none⟩ with | some (.slice _ n _) => 200 - n | _ => 0
theorem PS.left {w : World} {b : Nat} {G : Nat → Prop} {S : SiteS} (h : PS w b G S) : logLeft w b = 200 - S.log.length := by
  obtain ⟨lv, bm, F, log, waits, h, h1, _, _⟩ := h
  obtain ⟨la, lc, rfl, hT⟩ := txsIn_own h.rlog
  unfold logLeft
  rw [h.box.cell 7 _ rfl, ← h1]
  simp
theorem PMem.waits {w : World} {b : Nat} {lv : Value} {bm : Nat} {F : Nat → Prop} {S : SiteS} {log waits : List TxM} (h : PMem w b lv bm F S log waits) (l : List TxP) : PMem w b lv bm F { S with waits := l } log waits :=
  ⟨h.box, h.st, h.rlog, h.map, h.nl, h.nm, h.lm, h.lf, h.mf, h.hold⟩

set_option maxRecDepth 100000 in
set_option maxHeartbeats 8000000 in
theorem applyReady_any {b : Nat} {G : Nat → Prop} {S : SiteS} (w : World) (h : PS w b G S) (hI : InvS S) (hw : S.waits.length ≤ 1000) :
    Calls Tryz.prog 256 #[.pointer (some ⟨b, 0, none⟩)] w fun e w' => e = .returned (.tuple #[]) ∧ ∃ S', Goes S S' ∧ PPo w b G S' w' := by
  have hb := boxed (Below.refl _ w) (.cells #[.pointer (some ⟨b, 0, none⟩)] 163)
  have RA := RowL.new (w := w) (T := 163) [.pointer (some ⟨b, 0, none⟩)] rfl
  have HG : Hid (∀ k, G k → k < w.heap.size) := h.lt
  have hWs : (w.alloc (.cells #[.pointer (some ⟨b, 0, none⟩)] 163)).heap.size = w.heap.size + 1 := by simp
  have FINI : ∀ S' w', PPo (w.alloc (.cells #[.pointer (some ⟨b, 0, none⟩)] 163)) b G S' w' → PPo w b G S' w' := fun S' w' hp => PPo.trans (fun k hk => .inl hk) (Touch.ofBelow hb) hp
  have P0 := h.later hb
  change RowL (w.alloc (.cells #[.pointer (some ⟨b, 0, none⟩)] 163)) w.heap.size [.pointer (some ⟨b, 0, none⟩)] at RA
  clear h hb
  go_enter Tryz.func256, Tryz.ntmps256
  go_wp2_with fail
  obtain ⟨W, hWW⟩ : ∃ W, w.alloc (.cells #[.pointer (some ⟨b, 0, none⟩)] 163) = W := ⟨_, rfl⟩
  rw [hWW] at P0 RA hWs FINI ⊢
  have HFI : Hid (∀ S' w', PPo W b G S' w' → PPo w b G S' w') := FINI
  have HWS : Hid (W.heap.size = w.heap.size + 1) := hWs
  have M0 : GoM W b G S S W := ⟨⟨G, P0, fun k hk => .inl hk⟩, ⟨rfl, rfl, rfl, Nat.le_refl _, fun _ _ _ => rfl⟩, hI, hw, fun X hX => hX⟩
  clear hWW hI hw P0 FINI hWs
  go_loopw [3] (fun _ wr => ∃ (S1 : SiteS), Hid (GoM W b G S S1 wr) ∧ Hid (RowL wr w.heap.size [.pointer (some ⟨b, 0, none⟩)])) (fun _ wr => logLeft wr b)
  case atStart => exact ⟨S, M0, RA⟩
  case round =>
    clear M0 RA
    obtain ⟨S1, HM, HR⟩ := hrel
    obtain ⟨G', PG, hGG⟩ := HM.out.mem
    have LE : Hid (logLeft wr b = 200 - S1.log.length) := PG.left
    obtain ⟨lv, bm, F, log, waits, PM, hl, hw, hG⟩ := PG
    have HPM : Hid (PMem wr b lv bm F S1 log waits ∧ log.map (·.t) = S1.log ∧ waits.map (·.t) = S1.waits ∧ (∀ k, G' k ↔ (footQ b lv bm F k ∨ ∃ m ∈ log ++ waits, m.blk k)) ∧ ∀ k, G' k → G k ∨ W.heap.size ≤ k) := ⟨PM, hl, hw, hG, hGG⟩
    have hll : log.length = S1.log.length := by rw [← hl]; simp
    have nA : ¬ footQ b lv bm F w.heap.size := fun hf => by
      rcases hGG _ ((hG _).2 (.inl hf)) with h1 | h1
      · exact Nat.lt_irrefl _ (HG.out _ h1)
      · have := HWS.out; omega
    have HNA : Hid (¬ footQ b lv bm F w.heap.size) := nA
    have a0 := HR.out.cell 0 _ rfl
    clear PM hl hw hG hGG nA
    by_cases hf : 200 ≤ log.length
    · have IF := isFull_any (decide_eq_true hf) wr HPM.out.1
      have HF : Hid (200 ≤ S1.log.length) := by show _ ≤ _; omega
      clear hf hll
      go_wp2_with fail
      refine IF.mono ?_
      rintro e w2 ⟨rfl, hb2⟩
      have HM2 : Hid (GoM W b G S S1 w2) := HM.out.later hb2
      go_wp2_with fail
      go_end0
      refine ⟨rfl, S1, HM.out.go S1 (.full HF.out), HFI.out _ _ ?_⟩
      obtain ⟨G2, p1, p2⟩ := HM2.out.mem
      exact ⟨G2, p1, p2, HM2.out.touch⟩
    · have IF := isFull_any (decide_eq_false hf) wr HPM.out.1
      have HF : Hid (S1.log.length < 200) := by show _ < _; omega
      clear hf hll
      go_wp2_with fail
      refine IF.mono ?_
      rintro e w2 ⟨rfl, hb2⟩
      have HM2 : Hid (GoM W b G S S1 w2) := HM.out.later hb2
      have HR2 : Hid (RowL w2 w.heap.size [.pointer (some ⟨b, 0, none⟩)]) := HR.out.later hb2
      have PM2 : Hid (PMem w2 b lv bm F S1 log waits) := HPM.out.1.later hb2
      have LS := least_any w2 (HR2.out.cell 0 _ rfl) PM2.out HPM.out.2.2.1 HM.out.inv
      clear hb2 a0
      go_wp2_with fail
      refine LS.mono ?_
      rintro e w3 ⟨(⟨x, hx, rfl⟩ | ⟨hx, rfl⟩), hb3⟩
      · have HX : Hid (nextS S1 = some x) := hx
        have HM3 : Hid (GoM W b G S S1 w3) := HM2.out.later hb3
        have HR3 : Hid (RowL w3 w.heap.size [.pointer (some ⟨b, 0, none⟩)]) := HR2.out.later hb3
        have PM3 : Hid (PMem w3 b lv bm F S1 log waits) := PM2.out.later hb3
        obtain ⟨hxm, hxr⟩ := nextS_mem hx
        rw [← HPM.out.2.2.1] at hxm
        obtain ⟨m, hm, rfl⟩ := List.mem_map.1 hxm
        have hmo := HM.out.inv.wt m.t (by rw [← HPM.out.2.2.1]; exact hxm)
        obtain ⟨⟨s0, s3⟩, hsq, hw5⟩ := okT_parts hmo.1
        have hd := HM.out.inv.dep m.t.site
        have hq := (readyS_seq hxr).1
        have hw2 : IntKind.i64.wrap (depOf m.t.site S1.a0 S1.a1 S1.a2 S1.a3 + 1) = m.t.seq := by rw [hq, ← wrap_next hd]; unfold wrap64 IntKind.wrap; simp [IntKind.signed, IntKind.bits]; omega
        have NB : NxB w.heap.size b bm m.t.site (depOf m.t.site S1.a0 S1.a1 S1.a2 S1.a3) w3.drew := ⟨HR3.out.cell 0 _ rfl, PM3.out.box.cell 8 _ rfl, PM3.out.box.cell _ _ (app_at s0 s3)⟩
        have nbm : bm ≠ b := PM3.out.nm
        have TK : Hid (Calls Tryz.prog 279 #[.map (some bm), .int .i64 m.t.site, .int .i64 (IntKind.i64.wrap (depOf m.t.site S1.a0 S1.a1 S1.a2 S1.a3 + 1))] w3.drew fun e w' => e = .returned (txV m) ∧ NxA w.heap.size b bm w' ∧ Hid (PMap w' bm (dropM waits m.t) ∧ w3.grownBy w' (some bm))) := by
          rw [hw2]
          refine (take_any hm w3.drew (PM3.out.map.kept rfl)).mono fun e w' ⟨he, h1, h2⟩ => ⟨he, ?_, h1, ⟨h2.os, h2.tape, h2.output, h2.size, h2.block⟩⟩
          have hbb : w'.heap[b]? = w3.drew.heap[b]? := h2.block b PM3.out.box.lt (fun e => nbm (by injection e with e; exact e.symm))
          have haa : w'.heap[w.heap.size]? = w3.drew.heap[w.heap.size]? := h2.block w.heap.size HR3.out.lt (fun e => HNA.out (.inr (.inr (.inl (by injection e)))))
          exact ⟨by rw [World.cell?_of_block (w := w3.drew) haa]; exact NB.c, by rw [World.cell?_of_block (w := w3.drew) hbb]; exact NB.m⟩
        have AP : Hid (∀ w4, PMap w4 bm (dropM waits m.t) → w3.grownBy w4 (some bm) → Calls Tryz.prog 244 #[.pointer (some ⟨b, 0, none⟩), txV m] w4 fun e w' => e = .returned (.tuple #[]) ∧ Hid (GoM W b G S (goneS S1 m.t) w') ∧ Hid (RowL w' w.heap.size [.pointer (some ⟨b, 0, none⟩)]) ∧ NxA w.heap.size b bm w') := fun w4 h1 h2 => by
          have hold := PM3.out.hold m (List.mem_append.2 (.inr hm))
          have PM4 : PMem w4 b lv bm F { S1 with waits := dropW S1.waits m.t } log (dropM waits m.t) := (PM3.out.turn h2 h1 (fun y hy => .inl (mem_dropM.1 hy).1)).waits _
          have hm4 : WrIn w4 m.wa m.wc m.t.ws ∧ ∀ k, m.blk k → ¬ footQ b lv bm F k := ⟨hold.1.kept (fun k e => h2.block k (hold.1.blk_lt k e) (fun e2 => hold.2 k e (.inr (.inr (.inl (by injection e2)))))), hold.2⟩
          have hlen := HM.out.inv.len
          have hl2 : log.length = S1.log.length := by rw [← HPM.out.2.1]; simp
          have hF := HF.out
          refine (apply_any m w4 PM4 hm4 s0 s3 (by show S1.l.length + _ ≤ _; omega) (by omega)).mono fun e w' ⟨he, lv', F', p1, p2, p3⟩ => by
            have hRR : RowL w' w.heap.size [.pointer (some ⟨b, 0, none⟩)] := HR3.out.kept ((p3.block _ (Nat.lt_of_lt_of_le HR3.out.lt h2.size) HNA.out).trans (h2.block _ HR3.out.lt (fun e => HNA.out (.inr (.inr (.inl (by injection e))))))) (Nat.le_trans h2.size p3.size)
            exact ⟨he, gone_round HM3.out HPM.out.2.1 HPM.out.2.2.1 HPM.out.2.2.2.1 HPM.out.2.2.2.2 hm hF HX.out h2 p1 p2 p3, hRR, hRR.cell 0 _ rfl, p1.box.cell 8 _ rfl⟩
        have h4 : m.t.site < 4 := by omega
        have Y0 := fun (w' : World) (h : NxA w.heap.size b bm w') => h.c
        have Y1 := fun (w' : World) (h : NxA w.heap.size b bm w') => h.m
        have NA : NxA w.heap.size b bm w3.drew := ⟨NB.c, NB.m⟩
        have c3 := NB.d
        clear hx hxm hxr hmo hsq hw5 hd hq hw2 hb3 s3
        go_wp2_with fail
        have c1 := NB.c
        have c2 := NB.m
        clear Y0 Y1
        go_region_law (first
          | (refine step_call rfl 279 #[.map (some bm), .int .i64 m.t.site, .int .i64 (IntKind.i64.wrap (depOf m.t.site S1.a0 S1.a1 S1.a2 S1.a3 + 1))] (by go_simp) TK.out ?_
             rintro e w4 ⟨rfl, N4, T4⟩
             refine ⟨_, rfl, ?_⟩
             have n1 := N4.c)
          | (refine step_call rfl 244 #[.pointer (some ⟨b, 0, none⟩), txV m] (by go_simp) (AP.out _ T4.out.1 T4.out.2) ?_
             rintro e w5 ⟨rfl, HM5, HR5, N5⟩
             refine ⟨_, rfl, ?_⟩))
        all_goals
          go_wp2_with fail
          go_roundw
          case rel => exact ⟨_, HM5, HR5⟩
          case measure =>
            obtain ⟨G5, p5, _⟩ := HM5.out.mem
            rw [p5.left, LE.out]
            have := HF.out
            simp [goneS, applyS]
            omega
      · have HX : Hid (nextS S1 = none) := hx
        have HM3 : Hid (GoM W b G S S1 w3) := HM2.out.later hb3
        clear hx
        go_wp2_with fail
        refine bodyPost_ret (v := .tuple #[]) (by simp [results, Tryz.results256, go_sem]) rfl ⟨rfl, S1, HM.out.go S1 (.none HX.out), HFI.out _ _ ?_⟩
        obtain ⟨G2, p1, p2⟩ := HM3.out.mem
        exact ⟨G2, p1, p2, HM3.out.touch⟩
end Go.Proofs.YtoanjdndmlffdaaGreatDoor
