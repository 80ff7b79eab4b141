import Derived.Test.YtoanjdndmlffdaaGreatDoorSiteI
namespace Go.Proofs.YtoanjdndmlffdaaGreatDoor
open Go.RowKit
theorem placeInfo : (Tryz.prog.info? 167).map (fun i => (i.zero, i.size, i.bytes)) = some (some (.agg #[.pointer none, .int .i64 0]), 2, 16) := by kernel_rfl
theorem clientInfo : (Tryz.prog.info? 171).map (fun i => (i.zero, i.size, i.bytes)) = some (some (.agg #[.pointer none, .int .i64 0]), 2, 16) := by kernel_rfl
def wom0 : WoM := ⟨.slice none 0 0, .slice none 0 0, .slice none 0 0, fun _ => 0, fun _ => 0, []⟩
theorem pwo_first (w : World) (T : TypeId) : PWo (w.alloc (.cells #[.slice none 0 0, .slice none 0 0, .slice none 0 0, .int .i64 0] T)) w.heap.size wom0 (newW 0 0) (fun _ _ => False) := by
  refine ⟨RowL.new (w := w) (T := T) [.slice none 0 0, .slice none 0 0, .slice none 0 0, .int .i64 0] rfl, World.ownsRow_nil _ _ _ _, World.ownsRow_nil _ _ _ _, World.ownsRow_nil _ _ _ _, rfl, fun m hm => (by cases hm), ⟨fun i hi => by simp [newW] at hi, fun i j k hi => by simp [newW] at hi, fun k hk => ?_, fun k hk => hk.elim⟩, ⟨fun e => (by cases e), fun e => (by cases e), fun e => (by cases e)⟩, fun k => ⟨fun e => (by cases e), fun e => (by cases e)⟩, fun m hm => (by cases hm)⟩
  rcases hk with e | e | e | e | ⟨m, hm, _⟩
  · exact ⟨by rw [e]; simp, fun i hi => by simp [newW] at hi⟩
  · cases e
  · cases e
  · cases e
  · cases hm
theorem foot0 (w : World) : ∀ k, footW w.heap.size wom0 k → w.heap.size ≤ k := fun k hk => by
  rcases hk with e | e | e | e | ⟨m, hm, _⟩
  · omega
  · cases e
  · cases e
  · cases e
  · cases hm
/-- all of it is new -/
structure NewAt (w : World) (M : WoM) (W : WoS) (Gs : Nat → Nat → Prop) (wr : World) : Prop where
  is : PWo wr w.heap.size M W Gs
  gs : ∀ j k, j < W.n + W.c → Gs j k → w.heap.size ≤ k
  ft : ∀ k, footW w.heap.size M k → w.heap.size ≤ k
  nl : M.l = []
  hb : Below w.heap.size w wr
set_option maxRecDepth 100000 in
set_option maxHeartbeats 8000000 in
theorem pw_new {n c : Nat} (h1 : 1 ≤ n) (h4 : n ≤ 4) (h6 : c ≤ 6) (w : World) :
    Calls Tryz.prog 65 #[.int .i64 n, .int .i64 c] w fun e w' => e = .returned (.tuple #[.pointer (some ⟨w.heap.size, 0, none⟩), .nilIface]) ∧ ∃ G, PW w' w.heap.size G (newW n c) ∧ (∀ k, G k → w.heap.size ≤ k) ∧ Below w.heap.size w w' := by
  obtain ⟨i0, hi0, hz0, hz1, hz2⟩ := info_parts placeInfo
  obtain ⟨i5, hi5, hy0, hy1, hy2⟩ := info_parts clientInfo
  have q1 : ¬ (n : Int) < 1 := by omega
  have q2 : ¬ 4 < (n : Int) := by omega
  have q3 : ¬ (c : Int) < 0 := by omega
  have q4 : ¬ 6 < (c : Int) := by omega
  have HN : Hid (n ≤ 4 ∧ c ≤ 6) := ⟨h4, h6⟩
  have N0 : Hid (NewAt w wom0 (newW 0 0) (fun _ _ => False) (w.alloc (.cells #[.slice none 0 0, .slice none 0 0, .slice none 0 0, .int .i64 0] 162))) := ⟨pwo_first w _, fun _ _ _ h => h.elim, foot0 w, rfl, boxed (Below.refl _ w) _⟩
  clear h1 h4 h6
  go_enter Tryz.func65, Tryz.ntmps65
  go_wp2_with fail
  clear q1 q2 q3 q4
  go_loopw [28] (fun iv wr => ∃ (k : Nat) (z : Int) (M : WoM) (Gs : Nat → Nat → Prop), k ≤ n ∧ z = k ∧ iv = .int .i64 z ∧ Hid (NewAt w M (newW k 0) Gs wr)) (fun iv _ => n - (intOf iv).toNat)
  case atStart => exact ⟨0, 0, wom0, _, by omega, rfl, rfl, N0.out⟩
  case round =>
    clear N0
    obtain ⟨k, z, M, Gs, hk, hz, rfl, HS⟩ := hrel
    have HZ : Hid (z = k) := hz
    by_cases hlt : k < n
    · have g1 : z < (n : Int) := by omega
      have g3 : 0 ≤ z := by omega
      have g4 : z < 4 := by have := HN.out; omega
      have NN := new_any z wr g3 g4
      obtain ⟨pa, pc, hpv, r⟩ := rowIn_own HS.out.is.pr
      have hrl := r.len
      have hrc := r.cap
      have HPV : Hid (M.pv = .slice pa k pc) := hpv
      clear hz r hpv
      go_wp2_with fail
      refine NN.mono ?_
      rintro e w2 ⟨rfl, hP, hb2⟩
      rw [HZ.out] at hP
      have HP2 : Hid (PS w2 (wr.heap.size + 1) (fun q => q = wr.heap.size + 1 ∨ q = wr.heap.size) (newS k) ∧ Below wr.heap.size wr w2) := ⟨hP, hb2⟩
      have bz := boxed (Below.refl _ w2) (.cells #[.pointer (some ⟨wr.heap.size + 1, 0, none⟩), .int .i64 0] 167)
      have own2 := own_keptN HS.out.is.pr (fun q e => hb2.block q (HS.out.is.pr.lt q e).2)
      have B2 := (HS.out.is.box.later hb2).later bz
      rw [HPV.out] at own2 B2
      have c0 := (HS.out.is.box.later hb2).cell 0 _ rfl
      rw [HPV.out] at c0
      have hlw := (HS.out.is.box.later hb2).lt
      clear NN hP
      go_wp2_with (at_builtin; refine wpList_append_lies _ rfl (.tmp 43) (.tmp 46) 158 rfl 0 167 i0 (.agg #[.pointer none, .int .i64 0]) 2 16 Tryz.underlying158 hi0 hz0 hz1 hz2 rfl (by decide) (.slice pa k pc) k (pairsC M.bp (newW k 0).wall k) rfl (own2.alloc _) ⟨w2.heap.size, 0, none⟩ 1 1 [.pointer (some ⟨wr.heap.size + 1, 0, none⟩), .int .i64 0] rfl rfl (World.news_of_block (heap_alloc_new w2 (.cells #[.pointer (some ⟨wr.heap.size + 1, 0, none⟩), .int .i64 0] 167))) (by intro u hu; simp at hu; rcases hu with rfl | rfl <;> rfl) (by decide) (by have := HN.out; simp only [maxLen]; omega) (by have := HN.out; omega) (Nat.zero_le _) _ rfl ?_; intro g9 cap9 wE ownE grE egE ltE; have BE : RowL wE w.heap.size _ := B2.grown grE (fun e => HS.out.is.sb.1 (by rw [HPV.out]; exact e.symm)); have e0 := BE.cell 0 _ rfl; have f0 := BE.free 0 (by simp))
      have A1 := HS.out.is.addSite rfl HP2.out.1 (by omega) (by omega) rfl hb2 bz ownE (by rw [HPV.out]; exact grE) (by rw [HPV.out]; exact egE) ltE
      have hsz := HS.out.hb.size
      have GS9 : ∀ j q, j < (newW (k + 1) 0).n + (newW (k + 1) 0).c → (fun j => if j = k then (fun q => q = wr.heap.size + 1 ∨ q = wr.heap.size) else Gs j) j q → w.heap.size ≤ q := fun j q hj e => by
        have e' : (if j = k then (fun q => q = wr.heap.size + 1 ∨ q = wr.heap.size) else Gs j) q := e
        by_cases ej : j = k
        · rw [if_pos ej] at e'
          rcases e' with e' | e' <;> omega
        · rw [if_neg ej] at e'
          exact HS.out.gs j q (by simp [newW] at hj ⊢; omega) e'
      have FT9 : ∀ q, footW w.heap.size { M with pv := .slice (some ⟨g9, 0, none⟩) (k + 1) cap9, bp := fun j => if j = k then wr.heap.size + 1 else M.bp j } q → w.heap.size ≤ q := fun q e => by
        rcases e with e | e | e | e | ⟨m, hm, e⟩
        · omega
        · have e' : g9 = q := Option.some.inj e
          rcases egE with r | r
          · exact HS.out.ft q (.inr (.inl (by rw [HPV.out, ← e']; exact r)))
          · simp at r
            have := hb2.size
            omega
        · exact HS.out.ft q (.inr (.inr (.inl e)))
        · exact HS.out.ft q (.inr (.inr (.inr (.inl e))))
        · exact HS.out.ft q (.inr (.inr (.inr (.inr ⟨m, hm, e⟩))))
      have HB9 : Below w.heap.size w (wE.setCell ⟨w.heap.size, 0, none⟩ (.slice (some ⟨g9, 0, none⟩) (k + 1) cap9)) := ((behind (behind HS.out.hb hb2) bz).grown grE (by have := hb2.size; simp; omega) (fun q e => HS.out.ft q (.inr (.inl (by rw [HPV.out]; exact e))))).setCell (p := ⟨w.heap.size, 0, none⟩) (Nat.le_refl _) _
      have NX : Hid (NewAt w { M with pv := .slice (some ⟨g9, 0, none⟩) (k + 1) cap9, bp := fun j => if j = k then wr.heap.size + 1 else M.bp j } (newW (k + 1) 0) (fun j => if j = k then (fun q => q = wr.heap.size + 1 ∨ q = wr.heap.size) else Gs j) (wE.setCell ⟨w.heap.size, 0, none⟩ (.slice (some ⟨g9, 0, none⟩) (k + 1) cap9))) := ⟨A1, GS9, FT9, HS.out.nl, HB9⟩
      clear A1 GS9 FT9 HB9
      go_roundw
      case rel => exact ⟨k + 1, z + 1, _, _, by omega, by have := HZ.out; omega, by go_num, NX.out⟩
      case measure => simp [intOf]; have := HZ.out; omega
    · have g1 : ¬ z < (n : Int) := by omega
      have ek : k = n := by omega
      subst ek
      have H0 : Hid (NewAt w M (newW k 0) Gs wr) := HS
      clear hz hlt HZ
      go_wp2_with fail
      clear g1
      go_loopw [52] (fun iv wr => ∃ (m : Nat) (y : Int) (M : WoM) (Gs : Nat → Nat → Prop), m ≤ c ∧ y = m ∧ iv = .int .i64 y ∧ Hid (NewAt w M (newW k m) Gs wr)) (fun iv _ => c - (intOf iv).toNat)
      case atStart => exact ⟨0, 0, M, Gs, by omega, rfl, rfl, H0.out⟩
      case round =>
        clear H0 HS
        obtain ⟨m, y, M, Gs, hm, hy, rfl, HS⟩ := hrel
        have HY : Hid (y = m) := hy
        by_cases hml : m < c
        · have g1 : y < (c : Int) := by omega
          have g3 : 0 ≤ y := by omega
          have g4 : y < 6 := by have := HN.out; omega
          obtain ⟨ca, cc, hcv, r⟩ := rowIn_own HS.out.is.cr
          have hrl := r.len
          have hrc := r.cap
          have HCV : Hid (M.cv = .slice ca m cc) := hcv
          have B0 := HS.out.is.box
          rw [HCV.out] at B0
          have c1 := B0.cell 1 _ rfl
          have hlw := B0.lt
          have SN : Hid (Calls Tryz.prog 118 #[] wr.drew fun e w' => e = .returned (.pointer (some ⟨wr.heap.size, 0, none⟩)) ∧ PSe w' wr.heap.size (fun k => k = wr.heap.size) newSes ∧ Below wr.heap.size wr w') := (psnew_any wr.drew).mono fun e w' ⟨h1, h2, h3⟩ => ⟨h1, h2, behind (Below.refl _ wr).drew h3⟩
          clear hy r hcv
          go_wp2_with fail
          go_region_law (first
            | (refine step_callF rfl 118 rfl #[] (by go_simp) SN.out ?_
               rintro e w2 ⟨rfl, hP, hb2⟩
               refine ⟨_, rfl, ?_⟩
               have bz := boxed (Below.refl _ w2) (.cells #[.pointer (some ⟨wr.heap.size, 0, none⟩), .int .i64 0] 171)
               have own2 := own_keptN HS.out.is.cr (fun q e => hb2.block q (HS.out.is.cr.lt q e).2)
               rw [HCV.out] at own2
               have B2 := B0.later hb2
               have k1 := B2.cell 1 _ rfl
               have hl2 := B2.lt)
            | (refine step_append_lies _ rfl (.tmp 58) (.tmp 61) 159 rfl 0 171 i5 (.agg #[.pointer none, .int .i64 0]) 2 16 Tryz.underlying159 hi5 hy0 hy1 hy2 rfl (by decide) (.slice ca m cc) m (pairsC M.bs (fun j => ((newW k m).at_ j : Int)) m) (by simp [Act.eval]) (own2.alloc _) ⟨w2.heap.size, 0, none⟩ 1 1 [.pointer (some ⟨wr.heap.size, 0, none⟩), .int .i64 0] (by simp [Act.eval]) rfl (World.news_of_block (heap_alloc_new w2 (.cells #[.pointer (some ⟨wr.heap.size, 0, none⟩), .int .i64 0] 171))) (by intro u hu; simp at hu; rcases hu with rfl | rfl <;> rfl) (by decide) (by have := HN.out; simp only [maxLen]; omega) (by have := HN.out; omega) (Nat.zero_le _) _ rfl ?_
               intro g9 cap9 wE ownE grE egE ltE
               have BE : RowL wE w.heap.size _ := (B2.later bz).grown grE (fun e => HS.out.is.sb.2.1 (by rw [HCV.out]; exact e.symm))
               have e0 := BE.cell 1 _ rfl
               have f0 := BE.free 1 (by simp)))
          all_goals
            have A1 := HS.out.is.addSes hP (Nat.le_refl _) rfl hb2 bz ownE (by rw [HCV.out]; exact grE) (by rw [HCV.out]; exact egE) ltE
            have hsz := HS.out.hb.size
            have s2 := hb2.size
            have GS9 : ∀ j q, j < (newW k (m + 1)).n + (newW k (m + 1)).c → (fun j => if j = k + m then (fun q => q = wr.heap.size) else Gs j) j q → w.heap.size ≤ q := fun j q hj e => by
              have e' : (if j = k + m then (fun q => q = wr.heap.size) else Gs j) q := e
              by_cases ej : j = k + m
              · rw [if_pos ej] at e'
                omega
              · rw [if_neg ej] at e'
                exact HS.out.gs j q (by simp [newW] at hj ⊢; omega) e'
            have FT9 : ∀ q, footW w.heap.size { M with cv := .slice (some ⟨g9, 0, none⟩) (m + 1) cap9, bs := fun j => if j = m then wr.heap.size else M.bs j } q → w.heap.size ≤ q := fun q e => by
              rcases e with e | e | e | e | ⟨x, hx, e⟩
              · omega
              · exact HS.out.ft q (.inr (.inl e))
              · have e' : g9 = q := Option.some.inj e
                rcases egE with r | r
                · exact HS.out.ft q (.inr (.inr (.inl (by rw [HCV.out, ← e']; exact r))))
                · simp at r
                  omega
              · exact HS.out.ft q (.inr (.inr (.inr (.inl e))))
              · exact HS.out.ft q (.inr (.inr (.inr (.inr ⟨x, hx, e⟩))))
            have HB9 : Below w.heap.size w (wE.setCell ⟨w.heap.size, 1, none⟩ (.slice (some ⟨g9, 0, none⟩) (m + 1) cap9)) := ((behind (behind HS.out.hb hb2) bz).grown grE (by simp; omega) (fun q e => HS.out.ft q (.inr (.inr (.inl (by rw [HCV.out]; exact e)))))).setCell (p := ⟨w.heap.size, 1, none⟩) (Nat.le_refl _) _
            have NX : Hid (NewAt w { M with cv := .slice (some ⟨g9, 0, none⟩) (m + 1) cap9, bs := fun j => if j = m then wr.heap.size else M.bs j } (newW k (m + 1)) (fun j => if j = k + m then (fun q => q = wr.heap.size) else Gs j) (wE.setCell ⟨w.heap.size, 1, none⟩ (.slice (some ⟨g9, 0, none⟩) (m + 1) cap9))) := ⟨A1, GS9, FT9, HS.out.nl, HB9⟩
            clear A1 GS9 FT9 HB9
            go_wp2_with fail
            go_roundw
            case rel => exact ⟨m + 1, y + 1, _, _, by omega, by have := HY.out; omega, by go_num, NX.out⟩
            case measure => simp [intOf]; have := HY.out; omega
        · have g1 : ¬ y < (c : Int) := by omega
          have em : m = c := by omega
          subst em
          clear hy
          go_wp2_with fail
          go_ret2
          exact ⟨rfl, allG w.heap.size M (k + m) Gs, ⟨M, Gs, HS.out.is, fun _ => Iff.rfl⟩, fun q hq => hq.elim (HS.out.ft q) (fun ⟨j, hj, e⟩ => HS.out.gs j q hj e), HS.out.hb⟩
end Go.Proofs.YtoanjdndmlffdaaGreatDoor
