/-
  What store.Sweep does, as the model runs it.
-/
import Derived.Test.YtnbgjiibpnoieaaDoorPgMany
namespace Go.Proofs.YtnbgjiibpnoieaaDoor
open Go.RowKit

/-- what a sweep leaves of a row -/
def sweptL (a0 a1 a2 a3 : Int) (L : List Ver) : List Ver := L.filter fun v => !delV a0 a1 a2 a3 ((lastB a0 a1 a2 a3 L).getD ver0) v

/-- the first k rows are swept -/
structure SwRaw (w0 : World) (b : Nat) (vs : Nat → Value) (Ls : Nat → List Ver) (a0 a1 a2 a3 : Int) (k : Nat) (vs' : Nat → Value) (Ls' : Nat → List Ver) (wr : World) : Prop where
  raw : PgRaw wr b vs' Ls'
  done : ∀ i, i < k → Ls' i = sweptL a0 a1 a2 a3 (Ls i)
  rest : ∀ i, k ≤ i → Ls' i = Ls i ∧ vs' i = vs i
  foot : ∀ j, footP b vs' j → footP b vs j
  touch : Touch (footP b vs) w0 wr

theorem SwRaw.later {w0 wr w' : World} {b : Nat} {vs vs' : Nat → Value} {Ls Ls' : Nat → List Ver} {a0 a1 a2 a3 : Int} {k : Nat} (h : SwRaw w0 b vs Ls a0 a1 a2 a3 k vs' Ls' wr) (hb : Below wr.heap.size wr w') : SwRaw w0 b vs Ls a0 a1 a2 a3 k vs' Ls' w' :=
  ⟨h.raw.later hb, h.done, h.rest, h.foot, h.touch.trans (Touch.ofBelow hb)⟩

theorem SwRaw.next {w0 wr w1 : World} {b : Nat} {vs vs' : Nat → Value} {Ls Ls' : Nat → List Ver} {a0 a1 a2 a3 : Int} {k : Nat} (h : SwRaw w0 b vs Ls a0 a1 a2 a3 k vs' Ls' wr) (hk : k < 8) {v' : Value}
    (hD : DelPost wr (vs' k) (sweptL a0 a1 a2 a3 (Ls k)) v' w1) : SwRaw w0 b vs Ls a0 a1 a2 a3 (k + 1) (upd vs' k v') (upd Ls' k (sweptL a0 a1 a2 a3 (Ls k))) (w1.setCell ⟨b, k, none⟩ v') := by
  have hs : Sorted (sweptL a0 a1 a2 a3 (Ls k)) := by
    have := h.raw.sorted k hk
    rw [(h.rest k (Nat.le_refl _)).1] at this
    exact sorted_filter this _
  have CH := h.raw.change hk (v' := v') (L' := sweptL a0 a1 a2 a3 (Ls k)) (Touch.grown hD.2.1 (fun j hj => hj)) hD.1 (fun g e => .inl (by rw [hD.2.2] at e; exact e)) hs
  have fo : ∀ j, footP b (upd vs' k v') j → footP b vs' j := fun j hj => by
    rcases hj with rfl | ⟨i, hi, e⟩
    · exact .inl rfl
    · by_cases ei : i = k
      · subst ei
        rw [upd_same, hD.2.2] at e
        exact .inr ⟨i, hi, e⟩
      · rw [upd_other _ _ ei] at e
        exact .inr ⟨i, hi, e⟩
  refine ⟨CH.1, fun i hi => ?_, fun i hi => ?_, fun j hj => h.foot j (fo j hj), ?_⟩
  · by_cases ei : i = k
    · subst ei
      rw [upd_same]
    · rw [upd_other _ _ ei]
      exact h.done i (by omega)
  · rw [upd_other _ _ (by omega), upd_other _ _ (by omega)]
    exact h.rest i (by omega)
  · have t := CH.2.1
    exact h.touch.trans ⟨t.os, t.tape, t.output, t.size, fun j hj hn => t.block j hj (fun e => hn (h.foot j e))⟩

theorem SwRaw.post {w0 wr : World} {b : Nat} {vs vs' : Nat → Value} {Ls Ls' : Nat → List Ver} {a0 a1 a2 a3 : Int} {F : Nat → Prop} {l : List Hd} (h : SwRaw w0 b vs Ls a0 a1 a2 a3 8 vs' Ls' wr) (R : PgRaw w0 b vs Ls) (PH : PgHolds Ls l) (hF : ∀ k, F k ↔ footP b vs k) (ha : Apart l) : PPost w0 b F (sweepL a0 a1 a2 a3 l) wr := by
  refine ⟨footP b vs', ⟨vs', Ls', h.raw, ⟨fun k hk => ?_, fun x hx => PH.keys x (List.mem_filter.1 hx).1⟩, fun _ => Iff.rfl⟩, fun j hj => .inl ((hF j).2 (h.foot j hj)), ⟨h.touch.os, h.touch.tape, h.touch.output, h.touch.size, fun j hj hn => h.touch.block j hj (fun e => hn ((hF j).2 e))⟩⟩
  rw [h.done k hk]
  exact sweep_key (PH.perm k hk) (PH.last R ha hk a0 a1 a2 a3)

set_option maxRecDepth 100000 in
set_option maxHeartbeats 8000000 in
theorem pgSweep_any {b : Nat} {F : Nat → Prop} {l : List Hd} (a0 a1 a2 a3 : Int) (w : World) (hS : StP w b F l) (hl : l.length ≤ 1000) (ha : Apart l) (ho : ∀ h ∈ l, okVer h.v = true) :
    Calls Tryd.prog 32 #[.pointer (some ⟨b, 0, none⟩), .agg #[.int .i64 a0, .int .i64 a1, .int .i64 a2, .int .i64 a3]] w fun e w' => e = .returned (.tuple #[]) ∧ PPost w b F (sweepL a0 a1 a2 a3 l) w' := by
  obtain ⟨vs, Ls, R, PH, hF⟩ := id hS
  have RA := RowL.new (w := w) (T := 37) [.int .i64 a0, .int .i64 a1, .int .i64 a2, .int .i64 a3] rfl
  have hb := boxed (Below.refl _ w) (.cells #[.int .i64 a0, .int .i64 a1, .int .i64 a2, .int .i64 a3] 37)
  have R1 := R.later hb
  have S0 : SwRaw w b vs Ls a0 a1 a2 a3 0 vs Ls (w.alloc (.cells #[.int .i64 a0, .int .i64 a1, .int .i64 a2, .int .i64 a3] 37)) := ⟨R1, fun i hi => by omega, fun i _ => ⟨rfl, rfl⟩, fun j hj => hj, Touch.ofBelow hb⟩
  have k0 := R1.cell (k := 0) (by omega)
  have k1 := R1.cell (k := 1) (by omega)
  have k2 := R1.cell (k := 2) (by omega)
  have k3 := R1.cell (k := 3) (by omega)
  have k4 := R1.cell (k := 4) (by omega)
  have k5 := R1.cell (k := 5) (by omega)
  have k6 := R1.cell (k := 6) (by omega)
  have k7 := R1.cell (k := 7) (by omega)
  have HA : Hid (Apart l) := ha
  have HO : Hid (∀ h ∈ l, okVer h.v = true) := ho
  have hLs : ∀ k, k < 8 → (Ls k).length ≤ 1000 := fun k hk => Nat.le_trans (PH.len hk) hl
  have HL : Hid (∀ k, k < 8 → (Ls k).length ≤ 1000) := hLs
  have HSI : Hid (∀ k, k < 8 → ∀ v ∈ Ls k, 0 ≤ v.site ∧ v.site ≤ 3) := fun k hk => PH.sites ho hk
  clear ha ho hLs R1
  go_enter Tryd.func32, Tryd.ntmps32
  go_wp2_with fail
  clear k0 k1 k2 k3 k4 k5 k6 k7
  obtain ⟨W, hWW⟩ : ∃ W, w.alloc (.cells #[.int .i64 a0, .int .i64 a1, .int .i64 a2, .int .i64 a3] 37) = W := ⟨_, rfl⟩
  rw [hWW] at RA S0 ⊢
  clear hWW hb
  go_loopw [12] (fun iv wr => ∃ (k : Nat) (z : Int) (vs' : Nat → Value) (Ls' : Nat → List Ver), k ≤ 8 ∧ z = k ∧ iv = .int .i64 z ∧ Hid (SwRaw w b vs Ls a0 a1 a2 a3 k vs' Ls' wr) ∧ RowL wr w.heap.size [.int .i64 a0, .int .i64 a1, .int .i64 a2, .int .i64 a3]) (fun i _ => 8 - (intOf i).toNat)
  case atStart => exact ⟨0, 0, vs, Ls, by omega, rfl, rfl, S0, RA⟩
  case round =>
    clear S0 RA
    obtain ⟨k, z, vs', Ls', hk, hz, rfl, SW, RA⟩ := hrel
    have HZ : Hid (z = k) := hz
    by_cases hlt : k < 8
    · have h1 : z < 8 := by omega
      have h3 : 0 ≤ z := by omega
      have h2 : z.toNat = k := by omega
      obtain ⟨a, c, e, hV⟩ := vsIn_own (R.own k hlt)
      have ix := index8 vs hlt hz
      rw [e] at ix
      have c0 := RA.cell 0 _ rfl
      have c1 := RA.cell 1 _ rfl
      have c2 := RA.cell 2 _ rfl
      have c3 := RA.cell 3 _ rfl
      have ownk : wr.ownsRow 0 71 6 (.slice a (Ls k).length c) (Ls k).length (versL (Ls k)) := by
        have := SW.out.raw.own k hlt
        rw [(SW.out.rest k (Nat.le_refl _)).1, (SW.out.rest k (Nat.le_refl _)).2, e] at this
        exact this
      have hVr : VsIn wr a c (Ls k) := by
        obtain ⟨a', c', e', h'⟩ := vsIn_own ownk
        injection e' with e1 e2 e3
        subst e1 e3
        exact h'
      obtain ⟨st, hst⟩ : ∃ st, (lastB a0 a1 a2 a3 (Ls k)).getD ver0 = st := ⟨_, rfl⟩
      obtain ⟨sb, hsb⟩ : ∃ sb, someB (lastB a0 a1 a2 a3 (Ls k)) = sb := ⟨_, rfl⟩
      have LA := last_any a0 a1 a2 a3 wr hVr (HSI.out k hlt) (HL.out k hlt)
      rw [bestL_eq, hst, hsb] at LA
      have ST : Hid ((lastB a0 a1 a2 a3 (Ls k)).getD ver0 = st) := hst
      have EV : Hid (vs k = .slice a (Ls k).length c) := e
      clear hz hst hsb hV hVr e
      go_wp2_with fail
      refine LA.mono ?_
      rintro e w1 ⟨rfl, hb1⟩
      replace RA := RA.later hb1
      replace ownk := own_below6 ownk hb1
      have S1 : Hid (SwRaw w b vs Ls a0 a1 a2 a3 k vs' Ls' w1) := SW.out.later hb1
      clear LA SW c0 c1 c2 c3 hb1
      rw [show (verL st).toArray = #[.int .i64 st.wall, .int .i64 st.count, .int .i64 st.site, .int .i64 st.seq, .string st.data, .bool st.gone] from rfl]
      have hbx := boxed (Below.refl _ w1) (.cells #[.int .i64 st.wall, .int .i64 st.count, .int .i64 st.site, .int .i64 st.seq, .string st.data, .bool st.gone] 71)
      have RS2 := RowL.new (w := w1) (T := 71) (verL st) rfl
      change RowL (w1.alloc (.cells #[.int .i64 st.wall, .int .i64 st.count, .int .i64 st.site, .int .i64 st.seq, .string st.data, .bool st.gone] 71)) w1.heap.size (verL st) at RS2
      replace RA := RA.later hbx
      replace ownk := own_below6 ownk hbx
      replace S1 := S1.out.later hbx
      have olt : ∀ g, (Value.slice a (Ls k).length c).ownBlock = some g → g < w.heap.size := fun g hg => ((R.own k hlt).lt g (by rw [EV.out]; exact hg)).2
      have hsz := S1.touch.size
      obtain ⟨W2, hW2⟩ : ∃ W2, w1.alloc (.cells #[.int .i64 st.wall, .int .i64 st.count, .int .i64 st.site, .int .i64 st.seq, .string st.data, .bool st.gone] 71) = W2 := ⟨_, rfl⟩
      rw [hW2] at RS2 RA ownk S1
      have e1 : W2.heap.size = w1.heap.size + 1 := by rw [← hW2]; simp
      have hw1 : w.heap.size ≤ w1.heap.size := by rw [hW2] at hsz; have := RA.lt; omega
      have S2 : Hid (SwRaw w b vs Ls a0 a1 a2 a3 k vs' Ls' W2.drew) := S1.later (Below.refl _ W2).drew
      have DE : Hid (Calls Tryd.prog 66 #[.slice a (Ls k).length c, .func (.func 67) #[] #[.pointer (some ⟨w.heap.size, 0, none⟩), .pointer (some ⟨w1.heap.size, 0, none⟩)]] W2.drew fun e w' =>
          ∃ v', e = .returned v' ∧ DelPost W2.drew (.slice a (Ls k).length c) ((Ls k).filter fun v => !delV a0 a1 a2 a3 st v) v' w') :=
        delete_any W2.drew ownk (HSI.out k hlt) (HL.out k hlt) RA.drew RS2.drew (fun h => by have := olt _ h; omega) (fun h => by have := olt _ h; omega)
      have bcell := S1.raw.cell hlt
      rw [(S1.rest k (Nat.le_refl _)).2, EV.out] at bcell
      have bfree := S1.raw.free hlt
      have hap := S1.raw.apart k hlt
      rw [(S1.rest k (Nat.le_refl _)).2, EV.out] at hap
      have hbl := S1.raw.box.lt
      clear ownk RS2 hbx S1 hsz e1
      go_wp2_with fail
      go_region_law (
        refine step_call rfl 66 #[.slice a (Ls k).length c, .func (.func 67) #[] #[.pointer (some ⟨w.heap.size, 0, none⟩), .pointer (some ⟨w1.heap.size, 0, none⟩)]] (by go_simp) DE.out ?_
        rintro e w8 ⟨v', rfl, DP⟩
        refine ⟨_, rfl, ?_⟩
        have HD : Hid (DelPost W2.drew (.slice a (Ls k).length c) ((Ls k).filter fun v => !delV a0 a1 a2 a3 st v) v' w8) := DP
        have eb := DP.2.1.block b hbl (fun e => hap e.symm)
        have c8 : w8.cell? ⟨b, k, none⟩ = some (.slice a (Ls k).length c) := by rw [World.cell?_of_block (w := W2.drew) eb]; exact bcell
        have f8 : w8.frozen? ⟨b, k, none⟩ = false := by rw [World.frozen?_of_block (w := W2.drew) eb]; exact bfree
        obtain ⟨a9, c9, hv9, _⟩ := vsIn_own DP.1
        subst hv9
        clear DP eb)
      all_goals
        have HD2 : DelPost W2.drew (vs' k) (sweptL a0 a1 a2 a3 (Ls k)) (.slice a9 ((Ls k).filter fun v => !delV a0 a1 a2 a3 st v).length c9) w8 := by
          rw [(S2.out.rest k (Nat.le_refl _)).2, EV.out]
          unfold sweptL
          rw [ST.out]
          exact HD.out
        have SN : Hid (SwRaw w b vs Ls a0 a1 a2 a3 (k + 1) (upd vs' k (.slice a9 ((Ls k).filter fun v => !delV a0 a1 a2 a3 st v).length c9)) (upd Ls' k (sweptL a0 a1 a2 a3 (Ls k))) (w8.setCell ⟨b, k, none⟩ (.slice a9 ((Ls k).filter fun v => !delV a0 a1 a2 a3 st v).length c9))) := S2.out.next hlt HD2
        have hwb : w.heap.size ≠ b := by have := R.box.lt; omega
        have RA8 : RowL w8 w.heap.size [.int .i64 a0, .int .i64 a1, .int .i64 a2, .int .i64 a3] := RA.drew.grown HD.out.2.1 (fun e => by have := olt _ e.symm; omega)
        have RA9 := RA8.far ⟨b, k, none⟩ (.slice a9 ((Ls k).filter fun v => !delV a0 a1 a2 a3 st v).length c9) (Ne.symm hwb)
        obtain ⟨W9, hW9⟩ : ∃ W9, w8.setCell ⟨b, k, none⟩ (.slice a9 ((Ls k).filter fun v => !delV a0 a1 a2 a3 st v).length c9) = W9 := ⟨_, rfl⟩
        rw [hW9] at SN RA9 ⊢
        clear hW9 HD2 RA8 c8 f8
        go_wp2_with fail
        go_roundw
        case rel => exact ⟨k + 1, z + 1, _, _, by omega, by have := HZ.out; omega, by go_num, SN, RA9⟩
        case measure => simp [intOf]; have := HZ.out; omega
    · obtain rfl : k = 8 := by omega
      have h1 : ¬ z < 8 := by omega
      clear hz
      go_wp2_with fail
      go_end0
      exact ⟨rfl, SW.out.post R PH hF HA.out⟩

end Go.Proofs.YtnbgjiibpnoieaaDoor
