/-
  A tale is begun (copsekeep.tells), as the model runs it.
-/
import Derived.Test.YtemiamjnhoeniaaGreatDoorSiteJ
import Derived.Test.YtemiamjnhoeniaaGreatDoorSiteC
import Derived.Test.YtemiamjnhoeniaaGreatDoorWoP
namespace Go.Proofs.YtemiamjnhoeniaaGreatDoor
open Go.RowKit

theorem pickN_eq (a : Int) {n : Nat} (h0 : 0 < n) (h1 : n ≤ 1000000) : wrap64 ((IntKind.u64.wrap a).tmod n) = (pickN a n : Nat) := by
  obtain ⟨r, hr, _⟩ := pick_num a n h0 h1
  unfold pickN
  rw [hr]
  simp
set_option maxHeartbeats 1000000 in
theorem pickN_any (a : Int) (n : Nat) (h0 : 0 < n) (h1 : n ≤ 1000000) (w : World) :
    Calls Tryz.prog 64 #[.int .i64 a, .int .i64 n] w fun e w' => e = .returned (.int .i64 (pickN a n : Nat)) ∧ w' = w := by
  have hr := pickN_eq a h0 h1
  go_enter Tryz.func64, Tryz.ntmps64
  go_wp2_with fail
  go_ret
  exact ⟨by rw [← hr]; rfl, rfl⟩
theorem mapInfo : (Tryz.prog.info? 134).map (fun i => (i.zero, i.size, i.bytes)) = some (some (.map none), 1, 8) := by kernel_rfl
section
variable {w w3 wE : World} {b : Nat} {M : TaM} {T : TaleS} {c : Nat} {Gs : Nat → Nat → Prop}
theorem PTa.addMap (h : PTa w b M T c Gs) {bn g cap9 : Nat} (hb : Below w.heap.size w w3) (hn : w.heap.size ≤ bn) (hM : WMap w3 bn []) (hT : T.own c = [])
    (own : wE.ownsRow 0 134 1 (.slice (some ⟨g, 0, none⟩) (c + 1) cap9) (c + 1) (mapsC M.bm c ++ [.map (some bn)])) (gr : w3.grownBy wE M.ov.ownBlock) (eg : M.ov.ownBlock = some g ∨ g = w3.heap.size) (hlt : g < wE.heap.size) :
    PTa (wE.setCell ⟨b, 4, none⟩ (.slice (some ⟨g, 0, none⟩) (c + 1) cap9)) b { M with ov := .slice (some ⟨g, 0, none⟩) (c + 1) cap9, bm := setN M.bm c bn } T (c + 1) (fun j => if j = c + 1 then (fun q => q = bn) else Gs j) := by
  have s3 := hb.size
  have sE := gr.size
  have lb : b < w.heap.size := h.ltF b (.inl rfl)
  have ln := hM.lt
  have kE : ∀ k, k < w.heap.size → M.ov.ownBlock ≠ some k → wE.heap[k]? = w.heap[k]? := fun k hk hn => (gr.block k (by omega) (fun e => hn e.symm)).trans (hb.block k hk)
  have kS : ∀ j, j ≠ b → (wE.setCell ⟨b, 4, none⟩ (.slice (some ⟨g, 0, none⟩) (c + 1) cap9)).heap[j]? = wE.heap[j]? := fun j hj => Below.heap_setCell _ _ _ _ (fun e => hj e)
  have sS : (wE.setCell ⟨b, 4, none⟩ (.slice (some ⟨g, 0, none⟩) (c + 1) cap9)).heap.size = wE.heap.size := by simp [World.setCell]
  have bx := (h.box.kept (kE b lb h.sb.2) (by omega)).set 4 (.slice (some ⟨g, 0, none⟩) (c + 1) cap9) (by simp)
  obtain ⟨w', hw'⟩ : ∃ w', wE.setCell ⟨b, 4, none⟩ (.slice (some ⟨g, 0, none⟩) (c + 1) cap9) = w' := ⟨_, rfl⟩
  rw [hw'] at kS sS bx ⊢
  have kp : ∀ k, k < w.heap.size → M.ov.ownBlock ≠ some k → k ≠ b → w'.heap[k]? = w.heap[k]? := fun k h1 h2 h3 => (kS k h3).trans (kE k h1 h2)
  have gb : (Value.slice (some ⟨g, 0, none⟩) (c + 1) cap9).ownBlock = some g := rfl
  have gnb : g ≠ b := by
    rcases eg with q | q
    · exact fun e => h.sb.2 (by rw [q, e])
    · omega
  have gold : ∀ k, M.ov.ownBlock = some g ∨ g ≠ k ∨ w.heap.size ≤ k := fun k => by
    rcases eg with q | q
    · exact .inl q
    · by_cases e : g = k
      · exact .inr (.inr (by omega))
      · exact .inr (.inl e)
  have onb : M.ov.ownBlock ≠ some bn := fun e => by have := h.ltF bn (.inr (.inr (.inl e))); omega
  have foot : ∀ k, footT b { M with ov := .slice (some ⟨g, 0, none⟩) (c + 1) cap9, bm := setN M.bm c bn } k → footT b M k ∨ (k = g ∧ g = w3.heap.size) := fun k hk => by
    rcases hk with e | e | e | e
    · exact .inl (.inl e)
    · exact .inl (.inr (.inl e))
    · have e' : some g = some k := e
      injection e' with e'
      subst e'
      rcases eg with q | q
      · exact .inl (.inr (.inr (.inl q)))
      · exact .inr ⟨rfl, q⟩
    · exact .inl (.inr (.inr (.inr e)))
  have offF : ∀ i j, i < c + 1 → Gs i j → ¬ footT b M j := fun i j hi hj e => (h.fam.free j e).2 i hi hj
  have nov : ∀ u, u < w.heap.size → M.ov.ownBlock ≠ some u → g ≠ u := fun u hu hne e => by
    rcases eg with q | q
    · exact hne (by rw [q, e])
    · omega
  refine ⟨bx, own_keptN h.tr (fun k e => kp k (h.ltF k (.inr (.inl e))) (h.sr k e) (fun q => h.sb.1 (by rw [← q]; exact e))), ?_, h.al, fun x hx => WrIn.kept (h.wi x hx) (fun k hk => kp k ((h.wi x hx).blk_lt k hk) (h.sw x hx k hk).2.2 (h.sw x hx k hk).1), ⟨fun i hi => ?_, fun i j k hi hj hij hk hk2 => ?_, fun k hk => ⟨?_, fun i hi hg => ?_⟩, fun k hk => hk.elim⟩, ⟨h.sb.1, fun e => ?_⟩, fun k e e2 => ?_, fun x hx k hk => ⟨(h.sw x hx k hk).1, (h.sw x hx k hk).2.1, fun e2 => ?_⟩⟩
  · show w'.ownsRow 0 _ 1 (.slice (some ⟨g, 0, none⟩) (c + 1) cap9) (c + 1) (mapsC (setN M.bm c bn) (c + 1))
    rw [mapsC_snoc]
    exact own_keptN own (fun k e => kS k (fun q => by rw [gb] at e; injection e with e; exact gnb (e.trans q)))
  · by_cases e : i = c + 1
    · subst e
      show (if c + 1 = 0 then _ else mapP (setN M.bm c bn (c + 1 - 1)) (T.own (c + 1 - 1))).is w' (if c + 1 = c + 1 then _ else _)
      rw [if_neg (by omega), if_pos rfl, show c + 1 - 1 = c by omega, setN_same, hT]
      exact ⟨hM.kept ((kS bn (by omega)).trans (gr.block bn (by omega) (fun e => onb e.symm))), fun j => Iff.rfl⟩
    · have ep : taParts { M with ov := .slice (some ⟨g, 0, none⟩) (c + 1) cap9, bm := setN M.bm c bn } T i = taParts M T i := by
        show (if i = 0 then woP M.wb T.W else mapP (setN M.bm c bn (i - 1)) (T.own (i - 1))) = (if i = 0 then _ else _)
        by_cases q : i = 0
        · rw [if_pos q, if_pos q]
        · rw [if_neg q, if_neg q, setN_ne _ _ (by omega)]
      rw [ep, if_neg e]
      have hi' : i < c + 1 := by omega
      exact (taParts M T i).kept _ _ _ (h.fam.is i hi') (fun k hk => kp k (h.ltG hi' hk) (fun e => offF i k hi' hk (.inr (.inr (.inl e)))) (fun e => offF i k hi' hk (.inl e))) (by omega)
  · by_cases e1 : i = c + 1
    · rw [if_pos e1] at hk
      by_cases e2 : j = c + 1
      · exact hij (e1.trans e2.symm)
      · rw [if_neg e2] at hk2
        have := h.ltG (i := j) (by omega) hk2
        have e : k = bn := hk
        omega
    · rw [if_neg e1] at hk
      by_cases e2 : j = c + 1
      · rw [if_pos e2] at hk2
        have := h.ltG (i := i) (by omega) hk
        have e : k = bn := hk2
        omega
      · rw [if_neg e2] at hk2
        exact h.fam.apart i j k (by omega) (by omega) hij hk hk2
  · rcases foot k hk with q | q
    · have := h.ltF k q; omega
    · omega
  · by_cases e1 : i = c + 1
    · rw [if_pos e1] at hg
      have e : k = bn := hg
      rcases foot k hk with q | q
      · have := h.ltF k q; omega
      · omega
    · rw [if_neg e1] at hg
      have hi' : i < c + 1 := by omega
      rcases foot k hk with q | q
      · exact offF i k hi' hg q
      · have := h.ltG hi' hg; omega
  · have e' : some g = some b := e
    injection e' with e'
    exact gnb e'
  · have e' : some g = some k := e2
    injection e' with e'
    exact nov k (h.ltF k (.inr (.inl e))) (h.sr k e) e'
  · have e' : some g = some k := e2
    injection e' with e'
    exact nov k ((h.wi x hx).blk_lt k hk) (h.sw x hx k hk).2.2 e'
end
theorem PTa.first {w : World} {b wb n c : Nat} {G : Nat → Prop} (hR : RowL w b [.pointer (some ⟨wb, 0, none⟩), .int .i64 n, .int .i64 c, .slice none 0 0, .slice none 0 0]) (hP : PW w wb G (newW n c)) (hG : ¬ G b) : PTa w b ⟨wb, .slice none 0 0, .slice none 0 0, [], fun _ => 0⟩ (newT n c) 0 (fun _ => G) := by
  refine ⟨hR, ⟨rfl, .inl ⟨rfl, rfl⟩⟩, ⟨rfl, .inl ⟨rfl, rfl⟩⟩, rfl, fun m hm => (by cases hm), ⟨fun i hi => ?_, fun i j k hi hj hij => by omega, fun k hk => ?_, fun k hk => hk.elim⟩, ⟨fun e => (by cases e), fun e => (by cases e)⟩, fun k e => (by cases e), fun m hm => (by cases hm)⟩
  · have : i = 0 := by omega
    subst this
    exact hP
  · rcases hk with e | e | e | ⟨m, hm, _⟩
    · subst e
      exact ⟨hR.lt, fun i _ => hG⟩
    · cases e
    · cases e
    · cases hm
structure NewTa (w0 : World) (b : Nat) (M : TaM) (T : TaleS) (k : Nat) (Gs : Nat → Nat → Prop) (w : World) : Prop where
  is : PTa w b M T k Gs
  new : ∀ j, allT b M (k + 1) Gs j → w0.heap.size ≤ j
  hb : Below w0.heap.size w0 w
set_option maxRecDepth 100000 in
set_option maxHeartbeats 8000000 in
theorem tatells_any (sites clients : Int) (w : World) :
    Calls Tryz.prog 19 #[.int .i64 sites, .int .i64 clients] w fun e w' => e = .returned (.pointer (some ⟨w.heap.size, 0, none⟩)) ∧ ∃ G, TA w' w.heap.size G (newT (1 + pickN sites 4) (1 + pickN clients 6)) ∧ (∀ k, G k → w.heap.size ≤ k) ∧ Below w.heap.size w w' := by
  obtain ⟨i0, hi0, hz0, hz1, hz2⟩ := info_parts mapInfo
  have hmm := @run_makeMap Tryz.prog
  have P1 := pickN_any sites 4 (by decide) (by decide) w
  have P2 := pickN_any clients 6 (by decide) (by decide) w
  have hn := pickN_lt sites (n := 4) (by decide)
  have hc := pickN_lt clients (n := 6) (by decide)
  obtain ⟨n, en⟩ : ∃ n, pickN sites 4 = n := ⟨_, rfl⟩
  obtain ⟨c, ec⟩ : ∃ c, pickN clients 6 = c := ⟨_, rfl⟩
  rw [en] at P1 hn ⊢
  rw [ec] at P2 hc ⊢
  clear en ec
  have HN : Hid (n < 4 ∧ c < 6) := ⟨hn, hc⟩
  obtain ⟨n1, en1⟩ : ∃ n1 : Nat, 1 + n = n1 := ⟨_, rfl⟩
  obtain ⟨c1, ec1⟩ : ∃ c1 : Nat, 1 + c = c1 := ⟨_, rfl⟩
  have e1 : (1 : Int) + (n : Int) = (n1 : Int) := by omega
  have e2 : (1 : Int) + (c : Int) = (c1 : Int) := by omega
  have w1 : wrap64 ((1 : Int) + (n : Int)) = (n1 : Int) := by unfold wrap64; omega
  have w2 : wrap64 ((1 : Int) + (c : Int)) = (c1 : Int) := by unfold wrap64; omega
  have R0 := RowL.new (w := w) (T := 78) [.pointer none, .int .i64 (n1 : Int), .int .i64 (c1 : Int), .slice none 0 0, .slice none 0 0] rfl
  have hb0 := boxed (Below.refl _ w) (.cells #[.pointer none, .int .i64 (n1 : Int), .int .i64 (c1 : Int), .slice none 0 0, .slice none 0 0] 78)
  rw [en1, ec1]
  go_enter Tryz.func19, Tryz.ntmps19
  go_wp2_with fail
  refine P1.mono ?_
  rintro e w3 ⟨rfl, hw3⟩
  have hw4 := hw3.symm
  clear hw3 P1
  subst hw4
  go_wp2_with fail
  refine P2.mono ?_
  rintro e w3 ⟨rfl, hw3⟩
  have hw4 := hw3.symm
  clear hw3 P2
  subst hw4
  go_wp2_with fail
  have hs1 : (w.alloc (.cells #[.pointer none, .int .i64 (n1 : Int), .int .i64 (c1 : Int), .slice none 0 0, .slice none 0 0] 78)).drew.heap.size = w.heap.size + 1 := by simp
  have NW : Hid (Calls Tryz.prog 7 #[.int .i64 (n1 : Int), .int .i64 (c1 : Int)] (w.alloc (.cells #[.pointer none, .int .i64 (n1 : Int), .int .i64 (c1 : Int), .slice none 0 0, .slice none 0 0] 78)).drew fun e w' => e = .returned (.tuple #[.pointer (some ⟨w.heap.size + 1, 0, none⟩), .nilIface]) ∧ ∃ G, PW w' (w.heap.size + 1) G (newW n1 c1) ∧ (∀ k, G k → w.heap.size + 1 ≤ k) ∧ Below (w.heap.size + 1) (w.alloc (.cells #[.pointer none, .int .i64 (n1 : Int), .int .i64 (c1 : Int), .slice none 0 0, .slice none 0 0] 78)).drew w') := by
    have := pw_new (n := n1) (c := c1) (by omega) (by omega) (by omega) (w.alloc (.cells #[.pointer none, .int .i64 (n1 : Int), .int .i64 (c1 : Int), .slice none 0 0, .slice none 0 0] 78)).drew
    rw [hs1] at this
    exact this
  have HR : Hid (RowL (w.alloc (.cells #[.pointer none, .int .i64 (n1 : Int), .int .i64 (c1 : Int), .slice none 0 0, .slice none 0 0] 78)) w.heap.size [.pointer none, .int .i64 (n1 : Int), .int .i64 (c1 : Int), .slice none 0 0, .slice none 0 0] ∧ Below w.heap.size w (w.alloc (.cells #[.pointer none, .int .i64 (n1 : Int), .int .i64 (c1 : Int), .slice none 0 0, .slice none 0 0] 78))) := ⟨R0, hb0⟩
  have HNC : Hid (1 + n = n1 ∧ 1 + c = c1) := ⟨en1, ec1⟩
  clear R0 hb0 e1 e2 w1 w2 en1 ec1 hn hc
  go_region_law (refine step_callF rfl 7 rfl #[.int .i64 (n1 : Int), .int .i64 (c1 : Int)] (by go_simp) NW.out ?_
                 rintro e w3 ⟨rfl, G, hP, hG, hb3⟩
                 refine ⟨_, rfl, ?_⟩)
  all_goals
    have hbD : Below (w.alloc (.cells #[.pointer none, .int .i64 (n1 : Int), .int .i64 (c1 : Int), .slice none 0 0, .slice none 0 0] 78)).heap.size (w.alloc (.cells #[.pointer none, .int .i64 (n1 : Int), .int .i64 (c1 : Int), .slice none 0 0, .slice none 0 0] 78)) w3 := by
      have e : (w.alloc (.cells #[.pointer none, .int .i64 (n1 : Int), .int .i64 (c1 : Int), .slice none 0 0, .slice none 0 0] 78)).heap.size = w.heap.size + 1 := by simp
      rw [e]
      exact ⟨hb3.os, hb3.tape, hb3.output, by have := hb3.size; simp at this; simp; exact this, hb3.block⟩
    have R3 := HR.out.1.later hbD
    have hbB := behind HR.out.2 hbD
    have a0 := R3.cell 0 _ rfl
    have f0 := R3.free 0 (by simp)
    have hlb := R3.lt
    have R5 := R3.set 0 (.pointer (some ⟨w.heap.size + 1, 0, none⟩)) (by simp)
    have P5 := hP.kept (w' := w3.setCell ⟨w.heap.size, 0, none⟩ (.pointer (some ⟨w.heap.size + 1, 0, none⟩))) (fun k hk => Below.heap_setCell _ _ _ _ (fun e => by have := hG k hk; have e' : k = w.heap.size := e; omega)) (by simp [World.setCell])
    have hb5 : Below w.heap.size w (w3.setCell ⟨w.heap.size, 0, none⟩ (.pointer (some ⟨w.heap.size + 1, 0, none⟩))) := hbB.setCell (p := ⟨w.heap.size, 0, none⟩) (Nat.le_refl _) _
    have N0 : Hid (NewTa w w.heap.size ⟨w.heap.size + 1, .slice none 0 0, .slice none 0 0, [], fun _ => 0⟩ (newT n1 c1) 0 (fun _ => G) (w3.setCell ⟨w.heap.size, 0, none⟩ (.pointer (some ⟨w.heap.size + 1, 0, none⟩)))) := by
      refine ⟨PTa.first R5 P5 (fun e => by have := hG _ e; omega), fun j hj => ?_, hb5⟩
      rcases hj with (e | e | e | ⟨m, hm, _⟩) | ⟨i, _, e⟩
      · omega
      · cases e
      · cases e
      · cases hm
      · have := hG j e; omega
    clear R3 hbB R5 P5 hb5 hP hbD
    go_wp2_with fail
    obtain ⟨W5, hW5⟩ : ∃ W5, w3.setCell ⟨w.heap.size, 0, none⟩ (.pointer (some ⟨w.heap.size + 1, 0, none⟩)) = W5 := ⟨_, rfl⟩
    rw [hW5] at N0 ⊢
    clear a0 f0 hlb hW5 hb3 hG
    go_loopw [8] (fun kv wr => ∃ (k : Nat) (z : Int) (M : TaM) (Gs : Nat → Nat → Prop), k ≤ c1 ∧ z = k ∧ kv = .int .i64 z ∧ Hid (NewTa w w.heap.size M (newT n1 c1) k Gs wr)) (fun kv _ => c1 - (intOf kv).toNat)
    case atStart => exact ⟨0, 0, _, _, by omega, rfl, rfl, N0.out⟩
    case round =>
      clear N0
      obtain ⟨k, z, M, Gs, hk, hz, rfl, HS⟩ := hrel
      have HZ : Hid (z = k) := hz
      have c2 := HS.out.is.box.cell 2 _ rfl
      rw [show (newT n1 c1).W.c = c1 from rfl] at c2
      have hl := HS.out.is.box.lt
      have hc6 : c1 ≤ 6 := by have := HN.out; have := HNC.out; omega
      by_cases hlt : k < c1
      · have g1 : z < (c1 : Int) := by omega
        have g3 : 0 ≤ z := by omega
        obtain ⟨oa, oc, hov, r⟩ := rowIn_own HS.out.is.mr
        have hrl := r.len
        have hrc := r.cap
        have HOV : Hid (M.ov = .slice oa k oc) := hov
        have c4 := HS.out.is.box.cell 4 _ rfl
        rw [hov] at c4
        have own0 := HS.out.is.mr
        rw [hov] at own0
        have bz := boxed (boxed (Below.refl _ wr) (.map #[] 0)) (.cells #[.map (some wr.heap.size)] 134)
        have B2 := HS.out.is.box.later bz
        rw [hov] at B2
        have hsz : (wr.alloc (.map #[] 0)).heap.size = wr.heap.size + 1 := by simp
        clear hz r hov
        go_wp2_with (at_builtin; refine wpList_append_lies _ rfl (.tmp 51) (.tmp 53) 76 rfl 0 134 i0 (.map none) 1 8 Tryz.underlying76 hi0 hz0 hz1 hz2 rfl (by decide) (.slice oa k oc) k (mapsC M.bm k) rfl ((own0.alloc _).alloc _) ⟨wr.heap.size + 1, 0, none⟩ 1 1 [.map (some wr.heap.size)] rfl rfl (by have := World.news_of_block (heap_alloc_new (wr.alloc (.map #[] 0)) (.cells #[.map (some wr.heap.size)] 134)); rw [hsz] at this; exact this) (by intro u hu; simp at hu; rw [hu]; rfl) (by decide) (by simp only [maxLen]; omega) (by omega) (Nat.zero_le _) _ rfl ?_; intro g9 cap9 wE ownE grE egE ltE; have BE : RowL wE w.heap.size _ := B2.grown grE (fun e => HS.out.is.sb.2 (by rw [HOV.out]; exact e.symm)); have e4 := BE.cell 4 _ rfl; have f4 := BE.free 4 (by simp))
        have A1 := HS.out.is.addMap (bn := wr.heap.size) bz (Nat.le_refl _) ((WMap.made wr).kept (Below.heap_alloc _ _ _ (by simp))) rfl ownE (by rw [HOV.out]; exact grE) (by rw [HOV.out]; exact egE) ltE
        have s0 := HS.out.hb.size
        have NX : Hid (NewTa w w.heap.size { M with ov := .slice (some ⟨g9, 0, none⟩) (k + 1) cap9, bm := setN M.bm k wr.heap.size } (newT n1 c1) (k + 1) (fun j => if j = k + 1 then (fun q => q = wr.heap.size) else Gs j) (wE.setCell ⟨w.heap.size, 4, none⟩ (.slice (some ⟨g9, 0, none⟩) (k + 1) cap9))) := by
          refine ⟨A1, fun j hj => ?_, ((behind HS.out.hb bz).grown grE (by simp; omega) (fun q e => HS.out.new q (.inl (.inr (.inr (.inl (by rw [HOV.out]; exact e))))))).setCell (p := ⟨w.heap.size, 4, none⟩) (Nat.le_refl _) _⟩
          rcases hj with (e | e | e | e) | ⟨i, hi, e⟩
          · omega
          · exact HS.out.new j (.inl (.inr (.inl e)))
          · have e' : g9 = j := Option.some.inj e
            rcases egE with q | q
            · exact HS.out.new j (.inl (.inr (.inr (.inl (by rw [HOV.out, ← e']; exact q)))))
            · simp at q
              omega
          · exact HS.out.new j (.inl (.inr (.inr (.inr e))))
          · have e' : (if i = k + 1 then (fun q => q = wr.heap.size) else Gs i) j := e
            by_cases ei : i = k + 1
            · rw [if_pos ei] at e'
              have e2 : j = wr.heap.size := e'
              omega
            · rw [if_neg ei] at e'
              exact HS.out.new j (.inr ⟨i, by omega, e'⟩)
        clear A1
        go_roundw
        case rel => exact ⟨k + 1, z + 1, _, _, by omega, by have := HZ.out; omega, by go_num, NX.out⟩
        case measure => simp [intOf]; have := HZ.out; omega
      · have g1 : ¬ z < (c1 : Int) := by omega
        have ek : k = c1 := by omega
        subst ek
        clear hz
        go_wp2_with fail
        go_ret
        exact ⟨rfl, allT w.heap.size M (k + 1) Gs, ⟨M, Gs, HS.out.is, fun _ => Iff.rfl⟩, HS.out.new, HS.out.hb⟩

end Go.Proofs.YtemiamjnhoeniaaGreatDoor

