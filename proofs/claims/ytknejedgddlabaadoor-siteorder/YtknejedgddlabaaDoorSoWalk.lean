/-
  'copsekeep.SiteOrder', as the model runs it: true, whatever its arguments are.
-/
import Derived.Test.YtknejedgddlabaaDoorSiteJ
import Derived.Test.YtknejedgddlabaaDoorSiteD
import Derived.Test.YtknejedgddlabaaDoorTold
import Derived.Test.YtknejedgddlabaaDoorTellB
import Derived.Test.YtknejedgddlabaaDoorSiteI
import Derived.Test.YtknejedgddlabaaDoorSiteA
import Derived.Test.YtknejedgddlabaaDoorSiteB
import Derived.Deep.Cut
namespace Go.Proofs.YtknejedgddlabaaDoor
open Go.RowKit

theorem neVecS (a b c d : Int) (w : World) : (binOp .neq 37 (.agg #[.int .i64 a, .int .i64 b, .int .i64 c, .int .i64 d]) (.agg #[.int .i64 a, .int .i64 b, .int .i64 c, .int .i64 d])).run Tryd.prog w = .ok (.bool false) w := by
  rw [run_neq_struct, eqVec]
  simp
theorem vec_at4 {s a0 a1 a2 a3 : Int} (h0 : 0 ≤ s) (h3 : s ≤ 3) : [Value.int .i64 a0, .int .i64 a1, .int .i64 a2, .int .i64 a3][s.toNat]? = some (.int .i64 (depOf s a0 a1 a2 a3)) := by
  have h : s = 0 ∨ s = 1 ∨ s = 2 ∨ s = 3 := by omega
  rcases h with rfl | rfl | rfl | rfl <;> rfl
/-- a row of eight texts -/
theorem own8 {w : World} {B : Nat} {T : TypeId} {v : Value} {L : List Value} (h : w.ownsRow B T 1 v 8 L) : ∃ b cap, v = .slice (some ⟨b, 0, none⟩) 8 cap ∧ (∀ i u, L[i]? = some u → w.cell? ⟨b, i, none⟩ = some u) ∧ 8 ≤ cap := by
  rcases h.2 with ⟨_, h0⟩ | ⟨g, cap, cur, rfl, hb, hg, hnc, hm, hs, ht⟩
  · cases h0
  · refine ⟨g, cap, rfl, fun i u hu => ?_, hnc⟩
    have hc := h.cells (g := g) rfl i u hu
    rw [addr_add] at hc
    exact hc
theorem told_at {x0 x1 x2 x3 : Int} {l : List Hd} {i : Nat} (hi : i < 8) : (toldC x0 x1 x2 x3 l 8)[i]? = some (.string (toldV x0 x1 x2 x3 l i)) := by
  unfold toldC
  rw [List.getElem?_map, List.getElem?_range hi]
  rfl
set_option maxRecDepth 1000000 in
set_option maxHeartbeats 64000000 in
theorem siteOrder_walk (a : Option Addr) (cap : Nat) (l : List SayV) (sites : Int) (oa : Option Addr) (oc : Nat) (ord : List Int) (w : World) (hD : SayIn w a cap l) (hO : IntsIn w oa oc ord) (hg : w.cell? ⟨0, 0, none⟩ = some (.iface 188 (.agg #[.pointer (some ⟨1, 28, none⟩)]))) :
    Calls Tryd.prog 8 #[.slice a l.length cap, .int .i64 sites, .slice oa ord.length oc] w fun e w' => e = .returned (.bool true) ∧ Below w.heap.size w w' := by
  have HG : Hid (w.cell? ⟨0, 0, none⟩ = some (.iface 188 (.agg #[.pointer (some ⟨1, 28, none⟩)]))) := hg
  clear hg
  by_cases h30 : 30 < (l.length : Int)
  · go_enter Tryd.func8, Tryd.ntmps8
    go_wp2_with fail
    go_ret
    exact ⟨rfl, Below.refl _ _⟩
  · by_cases h100 : 100 < (ord.length : Int)
    · go_enter Tryd.func8, Tryd.ntmps8
      go_wp2_with fail
      go_ret
      exact ⟨rfl, Below.refl _ _⟩
    · go_enter Tryd.func8, Tryd.ntmps8
      go_wp2_with fail
      go_loopw [7] (fun kv wr => ∃ (k : Nat) (z : Int), k ≤ l.length ∧ z = k ∧ kv = .int .i64 z ∧ wr = w) (fun kv _ => l.length - (intOf kv).toNat)
      case atStart => exact ⟨0, 0, by omega, rfl, rfl, rfl⟩
      case round =>
        obtain ⟨k, z, hk, hz, rfl, hw⟩ := hrel
        have hw' := hw.symm
        clear hw
        subst hw'
        have HZ : Hid (z = k) := hz
        by_cases hlt : k < l.length
        · have g1 : z < (l.length : Int) := by omega
          have g2 : z.toNat = k := by omega
          have g3 : 0 ≤ z := by omega
          clear hz
          obtain ⟨lb, lo, rfl, hcc⟩ : ∃ b off, a = some ⟨b, off, none⟩ ∧ ∀ i r u, i < l.length → (sayC (sayAt l i))[r]? = some u → w.cell? ⟨b, off + (i * 4 + r), none⟩ = some u := by
            rcases hD.held with h0 | h0
            · rw [h0] at hlt; simp at hlt
            · exact h0
          obtain ⟨⟨si, no, co, ws, wa, wk⟩, hx⟩ : ∃ x, sayAt l k = x := ⟨_, rfl⟩
          have c3 : w.cell? ⟨lb, lo + k * 4 + 3, none⟩ = some (.slice wa ws.length wk) := hcc k 3 _ hlt (by rw [hx]; rfl)
          clear hcc hx
          by_cases h8 : 8 < (ws.length : Int)
          · go_wp2_with fail
            go_ret
            exact ⟨rfl, Below.refl _ _⟩
          · go_wp2_with fail
            go_roundw
            case rel => exact ⟨k + 1, z + 1, by omega, by have := HZ.out; omega, by go_num, trivial⟩
            case measure => simp [intOf]; have := HZ.out; omega
        · have g1 : ¬ z < (l.length : Int) := by omega
          have PL := placed_any w
          clear hz hlt
          go_wp2_with fail
          refine PL.mono ?_
          rintro e w1 ⟨rfl, hb1⟩
          have PK := pick_any sites 3 (by omega) (by omega) w1
          clear PL g1 HZ hk
          go_wp2_with fail
          refine PK.mono ?_
          rintro e w2 ⟨r, rfl, hr, hw2⟩
          have hw3 := hw2.symm
          clear hw2 PK
          subst hw3
          have hr3 : (r : Int) < 3 := by omega
          have TL : Calls Tryd.prog 46 #[.slice a l.length cap, .int .i64 (1 + (r : Int))] w1 (ToldIs w1 (r + 1) l.length) := by
            have := told_any (n := r + 1) w1 (hD.later hb1) (by omega) (by omega) (by omega)
            rw [show ((r + 1 : Nat) : Int) = 1 + (r : Int) by omega] at this
            exact this
          go_wp2_with fail
          refine TL.mono ?_
          rintro e w2 ⟨v, all, rfl, HH⟩
          obtain ⟨o1, o2, o3, o4, o5⟩ := HH.out
          obtain ⟨aa, ac, hv, hTx⟩ := txsIn_own o1
          subst hv
          have HALL : Hid (TxsIn w2 aa ac all ∧ (∀ m ∈ all, WrIn w2 m.wa m.wc m.t.ws) ∧ (∀ m ∈ all, m.t.site < 3) ∧ Hist (all.map (·.t)) ∧ all.length ≤ 30) := ⟨hTx, fun m hm => (o2 m hm).1, fun m hm => by have := (o2 m hm).2; omega, o3, by omega⟩
          have hbW : Below w.heap.size w w2 := behind hb1 o5
          have hal : all.length ≤ 30 := by omega
          have N1 := new_any 3 w2 (by omega) (by omega)
          clear HH o1 o2 o3 o4 o5 hTx TL hr3 hr hb1
          go_wp2_with fail
          refine N1.mono ?_
          rintro e w3 ⟨rfl, P3, hb3⟩
          have N2 := new_any 3 w3 (by omega) (by omega)
          clear N1
          go_wp2_with fail
          refine N2.mono ?_
          rintro e w4 ⟨rfl, P4, hb4⟩
          have A0 := so_new P3 P4 hb4
          have hb24 := behind hb3 hb4
          clear N2 P3 P4 hb3 hb4
          obtain ⟨ba, hba⟩ : ∃ ba, w2.heap.size + 1 = ba := ⟨_, rfl⟩
          obtain ⟨bb, hbb⟩ : ∃ bb, w3.heap.size + 1 = bb := ⟨_, rfl⟩
          rw [hba, hbb] at A0 ⊢
          have HA0 : Hid (Aside w4 2 (soP ba bb (newS 3) (newS 3)) (fun k => k < w2.heap.size) 2 NoY ∧ Below w2.heap.size w2 w4) := ⟨A0, hb24⟩
          clear hba hbb A0 hb24
          go_wp2_with fail
          go_loopw [14] (fun iv wr => ∃ (i : Nat) (z : Int) (A : SiteS), i ≤ all.length ∧ z = i ∧ iv = .int .i64 z ∧ Hid (Aside wr 2 (soP ba bb A (newS 3)) (fun k => k < w2.heap.size) 2 NoY ∧ Got (all.map (·.t)) A ((all.map (·.t)).drop i) ∧ Below w2.heap.size w2 wr)) (fun iv _ => all.length - (intOf iv).toNat)
          case atStart => exact ⟨0, 0, newS 3, by omega, rfl, rfl, HA0.out.1, Got.new HALL.out.2.2.2.1, HA0.out.2⟩
          case round =>
            clear HA0
            obtain ⟨i, z, A, hi, hz, rfl, HS⟩ := hrel
            have HZ : Hid (z = i) := hz
            by_cases hlt : i < all.length
            · have g1 : z < (all.length : Int) := by omega
              have g2 : z.toNat = i := by omega
              have g3 : 0 ≤ z := by omega
              clear hz
              obtain ⟨ab, ao, haa, hcc⟩ : ∃ b off, aa = some ⟨b, off, none⟩ ∧ ∀ i m r u, all[i]? = some m → (txC m)[r]? = some u → w2.cell? ⟨b, off + (i * 9 + r), none⟩ = some u := by
                rcases HALL.out.1.held with h0 | h0
                · rw [h0] at hlt; simp at hlt
                · exact h0
              subst haa
              obtain ⟨⟨⟨site, seq, wall, count, d0, d1, d2, d3, tws⟩, ta, tc⟩, hm⟩ : ∃ m, all[i]? = some m := ⟨_, List.getElem?_eq_getElem hlt⟩
              have x0 := cell_later HS.out.2.2 (show w2.cell? ⟨ab, ao + i * 9, none⟩ = some (.int .i64 site) from hcc i _ 0 _ hm rfl)
              have x1 := cell_later HS.out.2.2 (show w2.cell? ⟨ab, ao + i * 9 + 1, none⟩ = some (.int .i64 seq) from hcc i _ 1 _ hm rfl)
              have x2 := cell_later HS.out.2.2 (show w2.cell? ⟨ab, ao + i * 9 + 2, none⟩ = some (.int .i64 wall) from hcc i _ 2 _ hm rfl)
              have x3 := cell_later HS.out.2.2 (show w2.cell? ⟨ab, ao + i * 9 + 3, none⟩ = some (.int .i64 count) from hcc i _ 3 _ hm rfl)
              have x4 := cell_later HS.out.2.2 (show w2.cell? ⟨ab, ao + i * 9 + 4, none⟩ = some (.int .i64 d0) from hcc i _ 4 _ hm rfl)
              have x5 := cell_later HS.out.2.2 (show w2.cell? ⟨ab, ao + i * 9 + 5, none⟩ = some (.int .i64 d1) from hcc i _ 5 _ hm rfl)
              have x6 := cell_later HS.out.2.2 (show w2.cell? ⟨ab, ao + i * 9 + 6, none⟩ = some (.int .i64 d2) from hcc i _ 6 _ hm rfl)
              have x7 := cell_later HS.out.2.2 (show w2.cell? ⟨ab, ao + i * 9 + 7, none⟩ = some (.int .i64 d3) from hcc i _ 7 _ hm rfl)
              have x8 := cell_later HS.out.2.2 (show w2.cell? ⟨ab, ao + i * 9 + 8, none⟩ = some (.slice ta tws.length tc) from hcc i _ 8 _ hm rfl)
              have HMA : Hid (⟨⟨site, seq, wall, count, d0, d1, d2, d3, tws⟩, ta, tc⟩ ∈ all) := List.mem_of_getElem? hm
              have GT : Hid (takeE A (⟨site, seq, wall, count, d0, d1, d2, d3, tws⟩ : TxP) = 0 ∧ ∀ S', TakesTo A (⟨site, seq, wall, count, d0, d1, d2, d3, tws⟩ : TxP) S' → Got (all.map (·.t)) S' (((all.map (·.t)).drop i).eraseIdx 0) ∧ takeE S' (⟨site, seq, wall, count, d0, d1, d2, d3, tws⟩ : TxP) = 9) := HS.out.2.1.take HALL.out.2.2.2.1 (by have := HALL.out.2.2.2.2; simpa using this) (by rw [List.getElem?_drop, Nat.add_zero, List.getElem?_map, hm]; rfl) (HALL.out.2.2.1 _ HMA.out)
              have TK : Hid (Calls Tryd.prog 48 #[.pointer (some ⟨ba, 0, none⟩), txV ⟨⟨site, seq, wall, count, d0, d1, d2, d3, tws⟩, ta, tc⟩] wr fun e w' => e = .returned (errV (takeE A (⟨⟨site, seq, wall, count, d0, d1, d2, d3, tws⟩, ta, tc⟩ : TxM).t)) ∧ ∃ B', Hid (TakesTo A (⟨⟨site, seq, wall, count, d0, d1, d2, d3, tws⟩, ta, tc⟩ : TxM).t B') ∧ SoTake ba bb B' (newS 3) (fun k => k < w2.heap.size) wr w') := so_takeA (m := ⟨⟨site, seq, wall, count, d0, d1, d2, d3, tws⟩, ta, tc⟩) HS.out.1 HS.out.2.1.inv (by have := HS.out.2.1.len; have := HALL.out.2.2.2.2; simp at *; omega) ((HALL.out.2.1 _ HMA.out).later HS.out.2.2)
              clear hcc hm
              go_wp2_with fail
              refine TK.out.mono ?_
              rintro e w5 ⟨rfl, A', hT5, hS5⟩
              rw [show errV (takeE A (⟨⟨site, seq, wall, count, d0, d1, d2, d3, tws⟩, ta, tc⟩ : TxM).t) = .nilIface by show errV (takeE A (⟨site, seq, wall, count, d0, d1, d2, d3, tws⟩ : TxP)) = _; rw [GT.out.1]; rfl]
              have G1 : Hid (Got (all.map (·.t)) A' ((all.map (·.t)).drop (i + 1))) := by have := (GT.out.2 _ hT5.out).1; rw [List.eraseIdx_zero, List.tail_drop] at this; exact this
              clear TK GT x0 x1 x2 x3 x4 x5 x6 x7 x8
              go_wp2_with fail
              go_roundw
              case rel => exact ⟨i + 1, z + 1, A', by omega, by have := HZ.out; omega, by go_num, hS5.out.1, G1.out, HS.out.2.2.trans (hS5.out.2.below (fun k hk => hk))⟩
              case measure => simp [intOf]; have := HZ.out; omega
            · have g1 : ¬ z < (all.length : Int) := by omega
              have GA : Hid (Got (all.map (·.t)) A []) := by
                have := HS.out.2.1
                rw [List.drop_eq_nil_of_le (by simp; omega)] at this
                exact this
              have TX2 : Hid (TxsIn (wr.alloc (.cells #[] 40)) aa ac all) := HALL.out.1.later (boxed HS.out.2.2 _)
              clear hz hlt
              go_wp2_with (at_builtin; refine wpList_append_txs _ rfl (.tmp 94) (.tmp 95) rfl (g := wr.heap.size) (n := 0) (cap := 0) (xs := []) rfl (own_none9 wr 40 rfl) (sa := aa) (c := ac) (l := all) rfl TX2.out (by omega) ?_; intro g1_ c1_ w6 own6 gr6 eg6 lt6)
              have S6 : Hid (w6.ownsRow 0 40 9 (.slice (some ⟨g1_, 0, none⟩) all.length c1_) all.length (txsC all) ∧ Aside w6 2 (soP ba bb A (newS 3)) (fun k => k < w2.heap.size ∨ k = g1_) 2 NoY ∧ w2.heap.size ≤ g1_ ∧ Below w2.heap.size w2 w6) := by
                have hb6 : Below wr.heap.size wr w6 := Below.grown (boxed (Below.refl _ wr) _) gr6 (by simp) (fun j hj => by injection hj with hj; omega)
                have hs := HS.out.2.2.size
                have hge : wr.heap.size ≤ g1_ := by
                  rcases eg6 with e | e
                  · omega
                  · rw [e]; simp
                rw [List.nil_append, Nat.zero_add] at own6
                exact ⟨own6, (HS.out.1.more hb6).less (fun k hk => hk.elim .inl (fun e => .inr ⟨by omega, by omega⟩)), by omega, behind HS.out.2.2 hb6⟩
              clear own6 gr6 eg6 lt6 TX2 HS HZ
              go_loopw [15, 16] (fun lv iv wr => ∃ (left : List TxM) (g c : Nat) (z : Int) (Bs : SiteS), lv = .slice (some ⟨g, 0, none⟩) left.length c ∧ iv = .int .i64 z ∧ 0 ≤ z ∧ z + left.length ≤ 30 ∧ Hid (wr.ownsRow 0 40 9 (.slice (some ⟨g, 0, none⟩) left.length c) left.length (txsC left) ∧ Aside wr 2 (soP ba bb A Bs) (fun k => k < w2.heap.size ∨ k = g) 2 NoY ∧ w2.heap.size ≤ g ∧ (∀ m ∈ left, m ∈ all) ∧ Got (all.map (·.t)) Bs (left.map (·.t)) ∧ Below w2.heap.size w2 wr)) (fun _ iv _ => 30 - (intOf iv).toNat)
              case atStart => exact ⟨all, g1_, c1_, 0, newS 3, by first | rfl | simp, rfl, by omega, by omega, S6.out.1, S6.out.2.1, S6.out.2.2.1, fun m h => h, Got.new HALL.out.2.2.2.1, S6.out.2.2.2⟩
              case round =>
                clear S6
                obtain ⟨left, g, c, z, Bs, rfl, rfl, hz0, hzl, HS⟩ := hrel
                by_cases hl0 : 0 < left.length
                · have b1 : 0 < (left.length : Int) := by omega
                  have b2 : (left.length : Int) ≤ 30 := by omega
                  by_cases ho : 0 < (ord.length : Int)
                  · obtain ⟨j, hj, hjl⟩ : ∃ j : Nat, z.tmod (ord.length : Int) = j ∧ j < ord.length := by
                      rw [Int.tmod_eq_emod_of_nonneg hz0]
                      have q0 := Int.emod_nonneg z (b := (ord.length : Int)) (by omega)
                      have q1 := Int.emod_lt_of_pos z ho
                      exact ⟨(z % (ord.length : Int)).toNat, by omega, by omega⟩
                    obtain ⟨ob, oo, rfl, hoc⟩ : ∃ b off, oa = some ⟨b, off, none⟩ ∧ ∀ i x, ord[i]? = some x → w.cell? ⟨b, off + i, none⟩ = some (.int .i64 x) := by
                      rcases hO.held with h0 | h0
                      · rw [h0] at hjl; simp at hjl
                      · exact h0
                    obtain ⟨ox, hox⟩ : ∃ x, ord[j]? = some x := ⟨_, List.getElem?_eq_getElem hjl⟩
                    have oc1 := cell_later (behind hbW HS.out.2.2.2.2.2) (hoc j ox hox)
                    have j1 : (j : Int) < (ord.length : Int) := by omega
                    have j2 : (j : Int) < 100 := by omega
                    have o0 : ¬ (ord.length : Int) = 0 := by omega
                    have o1 : ¬ ord.length = 0 := by omega
                    have PK := pick_any ox left.length hl0 (by omega) wr
                    clear hoc hox
                    go_wp2_with fail
                    refine PK.mono ?_
                    rintro e w5 ⟨kn, rfl, hkn, hw5⟩
                    have hw6 := hw5.symm
                    clear hw5 PK
                    subst hw6
                    obtain ⟨kz, hkz⟩ : ∃ kz : Int, (kn : Int) = kz := ⟨_, rfl⟩
                    rw [hkz]
                    have HK : Hid (kz = kn ∧ kn < left.length) := ⟨hkz.symm, hkn⟩
                    clear hkz hkn oc1 j1 j2 o0 o1 hj hjl
                    have k0 : 0 ≤ kz := by have := HK.out; omega
                    have k1 : kz < (left.length : Int) := by have := HK.out; omega
                    have k2 : kz.toNat = kn := by have := HK.out; omega
                    obtain ⟨⟨⟨site, seq, wall, count, d0, d1, d2, d3, tws⟩, ta, tc⟩, hm⟩ : ∃ m, left[kn]? = some m := ⟨_, List.getElem?_eq_getElem HK.out.2⟩
                    have hcc : ∀ r u, (txC ⟨⟨site, seq, wall, count, d0, d1, d2, d3, tws⟩, ta, tc⟩)[r]? = some u → wr.cell? ⟨g, kn * 9 + r, none⟩ = some u := fun r u hu => by
                      obtain ⟨ga, gc, e, hX⟩ := txsIn_own HS.out.1
                      injection e with e1 e2 e3
                      subst e1
                      rcases hX.held with h0 | ⟨b, off, e, hc⟩
                      · rw [h0] at hm; simp at hm
                      · injection e with e
                        injection e with e4 e5
                        subst e4 e5
                        have := hc kn _ r u hm hu
                        simpa using this
                    have y0 : wr.cell? ⟨g, kn * 9, none⟩ = some (.int .i64 site) := hcc 0 _ rfl
                    have y1 : wr.cell? ⟨g, kn * 9 + 1, none⟩ = some (.int .i64 seq) := hcc 1 _ rfl
                    have y2 : wr.cell? ⟨g, kn * 9 + 2, none⟩ = some (.int .i64 wall) := hcc 2 _ rfl
                    have y3 : wr.cell? ⟨g, kn * 9 + 3, none⟩ = some (.int .i64 count) := hcc 3 _ rfl
                    have y4 : wr.cell? ⟨g, kn * 9 + 4, none⟩ = some (.int .i64 d0) := hcc 4 _ rfl
                    have y5 : wr.cell? ⟨g, kn * 9 + 5, none⟩ = some (.int .i64 d1) := hcc 5 _ rfl
                    have y6 : wr.cell? ⟨g, kn * 9 + 6, none⟩ = some (.int .i64 d2) := hcc 6 _ rfl
                    have y7 : wr.cell? ⟨g, kn * 9 + 7, none⟩ = some (.int .i64 d3) := hcc 7 _ rfl
                    have y8 : wr.cell? ⟨g, kn * 9 + 8, none⟩ = some (.slice ta tws.length tc) := hcc 8 _ rfl
                    have HMA : Hid (⟨⟨site, seq, wall, count, d0, d1, d2, d3, tws⟩, ta, tc⟩ ∈ all) := HS.out.2.2.2.1 _ (List.mem_of_getElem? hm)
                    have GT : Hid (takeE Bs (⟨site, seq, wall, count, d0, d1, d2, d3, tws⟩ : TxP) = 0 ∧ ∀ S', TakesTo Bs (⟨site, seq, wall, count, d0, d1, d2, d3, tws⟩ : TxP) S' → Got (all.map (·.t)) S' ((left.map (·.t)).eraseIdx kn) ∧ takeE S' (⟨site, seq, wall, count, d0, d1, d2, d3, tws⟩ : TxP) = 9) := HS.out.2.2.2.2.1.take HALL.out.2.2.2.1 (by have := HALL.out.2.2.2.2; simpa using this) (by rw [List.getElem?_map, hm]; rfl) (HALL.out.2.2.1 _ HMA.out)
                    have RX := RowL.new (w := wr) (T := 40) [.int .i64 site, .int .i64 seq, .int .i64 wall, .int .i64 count, .int .i64 d0, .int .i64 d1, .int .i64 d2, .int .i64 d3, .slice ta tws.length tc] rfl
                    change RowL (wr.alloc (.cells #[.int .i64 site, .int .i64 seq, .int .i64 wall, .int .i64 count, .int .i64 d0, .int .i64 d1, .int .i64 d2, .int .i64 d3, .slice ta tws.length tc] 40)) wr.heap.size [.int .i64 site, .int .i64 seq, .int .i64 wall, .int .i64 count, .int .i64 d0, .int .i64 d1, .int .i64 d2, .int .i64 d3, .slice ta tws.length tc] at RX
                    have hbx := boxed (Below.refl _ wr) (.cells #[.int .i64 site, .int .i64 seq, .int .i64 wall, .int .i64 count, .int .i64 d0, .int .i64 d1, .int .i64 d2, .int .i64 d3, .slice ta tws.length tc] 40)
                    have TK : Hid (Calls Tryd.prog 48 #[.pointer (some ⟨bb, 0, none⟩), txV ⟨⟨site, seq, wall, count, d0, d1, d2, d3, tws⟩, ta, tc⟩] (wr.alloc (.cells #[.int .i64 site, .int .i64 seq, .int .i64 wall, .int .i64 count, .int .i64 d0, .int .i64 d1, .int .i64 d2, .int .i64 d3, .slice ta tws.length tc] 40)) fun e w' => e = .returned (errV (takeE Bs (⟨⟨site, seq, wall, count, d0, d1, d2, d3, tws⟩, ta, tc⟩ : TxM).t)) ∧ ∃ B', Hid (TakesTo Bs (⟨⟨site, seq, wall, count, d0, d1, d2, d3, tws⟩, ta, tc⟩ : TxM).t B') ∧ SoTake ba bb A B' (fun k => (k < w2.heap.size ∨ k = g) ∨ k = wr.heap.size) (wr.alloc (.cells #[.int .i64 site, .int .i64 seq, .int .i64 wall, .int .i64 count, .int .i64 d0, .int .i64 d1, .int .i64 d2, .int .i64 d3, .slice ta tws.length tc] 40)) w') := so_takeB (m := ⟨⟨site, seq, wall, count, d0, d1, d2, d3, tws⟩, ta, tc⟩) (HS.out.2.1.new (.cells #[.int .i64 site, .int .i64 seq, .int .i64 wall, .int .i64 count, .int .i64 d0, .int .i64 d1, .int .i64 d2, .int .i64 d3, .slice ta tws.length tc] 40)) HS.out.2.2.2.2.1.inv (by have := HS.out.2.2.2.2.1.len; have := HALL.out.2.2.2.2; simp at *; omega) ((HALL.out.2.1 _ HMA.out).later (boxed HS.out.2.2.2.2.2 _))
                    clear hcc hm
                    have t0 := RX.cell 0 _ rfl
                    have t1 := RX.cell 1 _ rfl
                    have t2 := RX.cell 2 _ rfl
                    have t3 := RX.cell 3 _ rfl
                    have t4 := RX.cell 4 _ rfl
                    have t5 := RX.cell 5 _ rfl
                    have t6 := RX.cell 6 _ rfl
                    have t7 := RX.cell 7 _ rfl
                    have t8 := RX.cell 8 _ rfl
                    go_wp2_with fail
                    refine TK.out.mono ?_
                    rintro e w5 ⟨rfl, B1, hT5, hS5⟩
                    have G1 : Hid (Got (all.map (·.t)) B1 ((left.map (·.t)).eraseIdx kn) ∧ takeE B1 (⟨site, seq, wall, count, d0, d1, d2, d3, tws⟩ : TxP) = 9) := GT.out.2 _ hT5.out
                    rw [show errV (takeE Bs (⟨⟨site, seq, wall, count, d0, d1, d2, d3, tws⟩, ta, tc⟩ : TxM).t) = .nilIface by show errV (takeE Bs (⟨site, seq, wall, count, d0, d1, d2, d3, tws⟩ : TxP)) = _; rw [GT.out.1]; rfl]
                    have RX5 := RX.keeps hS5.out.2 (.inr rfl)
                    have TK2 : Hid (Calls Tryd.prog 48 #[.pointer (some ⟨bb, 0, none⟩), txV ⟨⟨site, seq, wall, count, d0, d1, d2, d3, tws⟩, ta, tc⟩] w5 fun e w' => e = .returned (errV (takeE B1 (⟨⟨site, seq, wall, count, d0, d1, d2, d3, tws⟩, ta, tc⟩ : TxM).t)) ∧ ∃ B', Hid (TakesTo B1 (⟨⟨site, seq, wall, count, d0, d1, d2, d3, tws⟩, ta, tc⟩ : TxM).t B') ∧ SoTake ba bb A B' (fun k => (k < w2.heap.size ∨ k = g) ∨ k = wr.heap.size) w5 w') := so_takeB (m := ⟨⟨site, seq, wall, count, d0, d1, d2, d3, tws⟩, ta, tc⟩) hS5.out.1 G1.out.1.inv (by have := G1.out.1.len; have := HALL.out.2.2.2.2; simp at *; omega) ((HALL.out.2.1 _ HMA.out).later ((boxed HS.out.2.2.2.2.2 _).trans (hS5.out.2.below (fun k hk => .inl (.inl hk)))))
                    clear TK GT t0 t1 t2 t3 t4 t5 t6 t7 t8 y0 y1 y2 y3 y4 y5 y6 y7 y8
                    have t0 := RX5.cell 0 _ rfl
                    have t1 := RX5.cell 1 _ rfl
                    have t2 := RX5.cell 2 _ rfl
                    have t3 := RX5.cell 3 _ rfl
                    have t4 := RX5.cell 4 _ rfl
                    have t5 := RX5.cell 5 _ rfl
                    have t6 := RX5.cell 6 _ rfl
                    have t7 := RX5.cell 7 _ rfl
                    have t8 := RX5.cell 8 _ rfl
                    go_wp2_with fail
                    refine TK2.out.mono ?_
                    rintro e w6 ⟨rfl, B2, hT6, hS6⟩
                    obtain rfl : B1 = B2 := (hT6.out.twice G1.out.2).symm
                    rw [show errV (takeE B1 (⟨⟨site, seq, wall, count, d0, d1, d2, d3, tws⟩, ta, tc⟩ : TxM).t) = .iface 24 (.int .i64 9) by show errV (takeE B1 (⟨site, seq, wall, count, d0, d1, d2, d3, tws⟩ : TxP)) = _; rw [G1.out.2]; rfl]
                    have K6 : Hid (Below w2.heap.size w2 w6 ∧ Keeps (fun k => k < w2.heap.size ∨ k = g) (wr.alloc (.cells #[.int .i64 site, .int .i64 seq, .int .i64 wall, .int .i64 count, .int .i64 d0, .int .i64 d1, .int .i64 d2, .int .i64 d3, .slice ta tws.length tc] 40)) w6) := by
                      have a1 := hS5.out.2
                      have a2 := hS6.out.2
                      exact ⟨((boxed HS.out.2.2.2.2.2 _).trans (a1.below (fun k hk => .inl (.inl hk)))).trans (a2.below (fun k hk => .inl (.inl hk))), a2.os.trans a1.os, a2.tape.trans a1.tape, a2.output.trans a1.output, Nat.le_trans a1.size a2.size, fun k hk => (a2.block k (.inl hk)).trans (a1.block k (.inl hk))⟩
                    have TE := tell_errno 9 w6 (cell_later (behind hbW K6.out.1) HG.out)
                    clear TK2 t0 t1 t2 t3 t4 t5 t6 t7 t8 RX RX5 hbx
                    go_wp2_with fail
                    refine TE.mono ?_
                    rintro e w7 ⟨rfl, hb7⟩
                    clear TE
                    have L7 : Hid (TxsIn w7 (some ⟨g, 0, none⟩) c left) := by
                      have o7 : w7.ownsRow 0 40 9 (.slice (some ⟨g, 0, none⟩) left.length c) left.length (txsC left) := own_keptN HS.out.1 (fun k e => by
                        have e' : g = k := Option.some.inj e
                        subst e'
                        have lt := (HS.out.1.lt g rfl).2
                        exact (hb7.block g (Nat.lt_of_lt_of_le lt (Nat.le_trans (by simp) K6.out.2.size))).trans ((K6.out.2.block g (.inr rfl)).trans ((boxed (Below.refl _ wr) _).block g lt)))
                      obtain ⟨ga, gc, e, hX⟩ := txsIn_own o7
                      injection e with e1 e2 e3
                      subst e1 e3
                      exact hX
                    go_upto_region 36 with fail
                    refine wp_next (soR36_any (i := kn) w7 L7 (by show _ ≤ _; omega) HK _ ?_)
                    intro u132 u133 u134 u135 u136 u137 u138 u139 u140 u141 w8 g2 c2 n2 hb8 hg2a hg2b hn2 own8
                    subst hn2
                    have A8 : Hid (Aside w8 2 (soP ba bb A B1) (fun k => k < w2.heap.size ∨ k = g2) 2 NoY ∧ Below w2.heap.size w2 w8 ∧ w2.heap.size ≤ g2) := by
                      have s7 := hb7.size
                      have s6 := K6.out.1.size
                      refine ⟨(((hS6.out.1.later hb7).less (X' := fun k => k < w2.heap.size) (o' := 2) (fun k hk => .inl (.inl hk))).more hb8).less (fun k hk => hk.elim .inl (fun e => .inr ⟨by omega, by omega⟩)), behind (behind K6.out.1 hb7) hb8, by omega⟩
                    obtain ⟨Gb, PB⟩ := so_isB A8.out.1
                    have AP := applied_any w8 PB
                    clear PB L7 hS5 hS6 hT5 hT6
                    go_wp2_with fail
                    refine AP.mono ?_
                    rintro e w9 ⟨rfl, hb9⟩
                    clear AP
                    have RV := RowL.new (w := w9) (T := 37) [.int .i64 B1.a0, .int .i64 B1.a1, .int .i64 B1.a2, .int .i64 B1.a3] rfl
                    change RowL (w9.alloc (.cells #[.int .i64 B1.a0, .int .i64 B1.a1, .int .i64 B1.a2, .int .i64 B1.a3] 37)) w9.heap.size [.int .i64 B1.a0, .int .i64 B1.a1, .int .i64 B1.a2, .int .i64 B1.a3] at RV
                    have hbV : Below w8.heap.size w8 (w9.alloc (.cells #[.int .i64 B1.a0, .int .i64 B1.a1, .int .i64 B1.a2, .int .i64 B1.a3] 37)) := boxed hb9 _
                    go_wp2_with fail
                    obtain ⟨wV, hwV⟩ : ∃ wV, w9.alloc (.cells #[.int .i64 B1.a0, .int .i64 B1.a1, .int .i64 B1.a2, .int .i64 B1.a3] 37) = wV := ⟨_, rfl⟩
                    rw [hwV] at RV hbV ⊢
                    clear hwV
                    obtain ⟨vb, hvb⟩ : ∃ vb, w9.heap.size = vb := ⟨_, rfl⟩
                    rw [hvb] at RV ⊢
                    clear hvb
                    have HV : Hid (RowL wV vb [.int .i64 B1.a0, .int .i64 B1.a1, .int .i64 B1.a2, .int .i64 B1.a3] ∧ Below w8.heap.size w8 wV ∧ w8.ownsRow 0 40 9 (.slice (some ⟨g2, 0, none⟩) (left.take kn ++ left.drop (kn + 1)).length c2) (left.take kn ++ left.drop (kn + 1)).length (txsC (left.take kn ++ left.drop (kn + 1))) ∧ g2 < w8.heap.size) := ⟨RV, hbV, own8, hg2b⟩
                    clear RV hbV own8 hb9 hb7 hb8 hg2a hg2b K6
                    go_loopw [21] (fun jv wr => ∃ (j : Nat) (x : Int), j ≤ all.length ∧ x = j ∧ jv = .int .i64 x ∧ Below wV.heap.size wV wr) (fun jv _ => all.length - (intOf jv).toNat)
                    case atStart => exact ⟨0, 0, by omega, rfl, rfl, Below.refl _ _⟩
                    case round =>
                      obtain ⟨j, x, hj, hx, rfl, hbp⟩ := hrel
                      have HX : Hid (x = j) := hx
                      by_cases hjl : j < all.length
                      · have f1 : x < (all.length : Int) := by omega
                        have f2 : x.toNat = j := by omega
                        have f3 : 0 ≤ x := by omega
                        clear hx
                        obtain ⟨ab, ao, haa, hcc⟩ : ∃ b off, aa = some ⟨b, off, none⟩ ∧ ∀ i m r u, all[i]? = some m → (txC m)[r]? = some u → w2.cell? ⟨b, off + (i * 9 + r), none⟩ = some u := by
                          rcases HALL.out.1.held with h0 | h0
                          · rw [h0] at hjl; simp at hjl
                          · exact h0
                        subst haa
                        obtain ⟨⟨⟨s_, q_, xw, xc, e0, e1, e2, e3, xws⟩, xa, xk⟩, hm⟩ : ∃ m, all[j]? = some m := ⟨_, List.getElem?_eq_getElem hjl⟩
                        have HMJ : Hid ((⟨s_, q_, xw, xc, e0, e1, e2, e3, xws⟩ : TxP) ∈ (all.map (·.t))) := List.mem_map.2 ⟨_, List.mem_of_getElem? hm, rfl⟩
                        have hs := HALL.out.2.2.2.1.site HMJ.out
                        have s0 : 0 ≤ s_ := hs.1
                        have s3 : s_ ≤ 3 := hs.2
                        have s4 : s_ < 4 := by omega
                        have hne := Later.one
                        have lt : ∀ p u, w2.cell? p = some u → wr.cell? p = some u := fun p u h => cell_later hbp (cell_later HV.out.2.1 (cell_later A8.out.2.1 h))
                        have z0 := Later.cell (lt _ _ (show w2.cell? ⟨ab, ao + j * 9, none⟩ = some (.int .i64 s_) from hcc j _ 0 _ hm rfl))
                        have z1 := Later.cell (lt _ _ (show w2.cell? ⟨ab, ao + j * 9 + 1, none⟩ = some (.int .i64 q_) from hcc j _ 1 _ hm rfl))
                        have z4 := Later.cell (lt _ _ (show w2.cell? ⟨ab, ao + j * 9 + 4, none⟩ = some (.int .i64 e0) from hcc j _ 4 _ hm rfl))
                        have z5 := Later.cell (lt _ _ (show w2.cell? ⟨ab, ao + j * 9 + 5, none⟩ = some (.int .i64 e1) from hcc j _ 5 _ hm rfl))
                        have z6 := Later.cell (lt _ _ (show w2.cell? ⟨ab, ao + j * 9 + 6, none⟩ = some (.int .i64 e2) from hcc j _ 6 _ hm rfl))
                        have z7 := Later.cell (lt _ _ (show w2.cell? ⟨ab, ao + j * 9 + 7, none⟩ = some (.int .i64 e3) from hcc j _ 7 _ hm rfl))
                        have RV := HV.out.1.later hbp
                        have v0 := Later.cell (RV.cell 0 _ rfl)
                        have v1 := Later.cell (RV.cell 1 _ rfl)
                        have v2 := Later.cell (RV.cell 2 _ rfl)
                        have v3 := Later.cell (RV.cell 3 _ rfl)
                        have vs := Later.cell (RV.cell _ _ (vec_at4 s0 s3))
                        obtain ⟨D, hD9⟩ : ∃ D, depOf s_ B1.a0 B1.a1 B1.a2 B1.a3 = D := ⟨_, rfl⟩
                        rw [hD9] at vs
                        have HC : Hid (q_ ≤ D → covB B1.a0 B1.a1 B1.a2 B1.a3 e0 e1 e2 e3 = true) := fun h => G1.out.1.closed HMJ.out (by show q_ ≤ depOf s_ _ _ _ _; rw [hD9]; exact h)
                        clear hcc hm lt RV hD9 hs
                        by_cases hq : q_ ≤ D
                        · have HC2 : Hid (covB B1.a0 B1.a1 B1.a2 B1.a3 e0 e1 e2 e3 = true) := HC.out hq
                          clear HC
                          go_wp2_with fail
                          refine wp_region_later (by kernel_rfl) (by kernel_rfl) ?_
                          repeat (go_big_quiet_step (first | rfl | (go_at_call 50; with_reducible exact calls_later (covers_is HC2.out _))))
                          refine wpQuiet_nil ?_
                          rintro w10 ⟨⟨_, hbT⟩, rfl⟩
                          go_wp2_with fail
                          go_roundw
                          case rel => exact ⟨j + 1, x + 1, by omega, by have := HX.out; omega, by go_num, behind hbp hbT⟩
                          case measure => simp [intOf]; have := HX.out; omega
                        · have hq1 : decide (q_ ≤ D) = false := decide_eq_false hq
                          have hq2 : D < q_ := by omega
                          clear HC
                          go_wp2_with fail
                          refine wp_region_later (by kernel_rfl) (by kernel_rfl) ?_
                          repeat (go_big_quiet_step (first | rfl | fail))
                          refine wpQuiet_nil ?_
                          rintro w10 ⟨⟨_, hbT⟩, rfl⟩
                          go_wp2_with fail
                          go_roundw
                          case rel => exact ⟨j + 1, x + 1, by omega, by have := HX.out; omega, by go_num, behind hbp hbT⟩
                          case measure => simp [intOf]; have := HX.out; omega
                      · have f1 : ¬ x < (all.length : Int) := by omega
                        have hll : (left.take kn ++ left.drop (kn + 1)).length + 1 = left.length := by have := HK.out; simp; omega
                        go_wp2_with fail
                        go_roundw
                        case rel =>
                          have hbE := behind HV.out.2.1 hbp
                          refine ⟨left.take kn ++ left.drop (kn + 1), g2, c2, z + 1, B1, by rw [List.length_append, List.length_take, List.length_drop], by go_num, by omega, by omega, own_keptN HV.out.2.2.1 (fun k e => hbE.block k (HV.out.2.2.1.lt k e).2), A8.out.1.later hbE, A8.out.2.2, fun m hm => HS.out.2.2.2.1 m ?_, ?_, behind A8.out.2.1 hbE⟩
                          · rcases List.mem_append.1 hm with q | q
                            · exact List.mem_of_mem_take q
                            · exact List.mem_of_mem_drop q
                          · rw [map_eraseIdx']
                            exact G1.out.1
                        case measure => simp [intOf]; omega
                  · obtain ⟨kn, hkn⟩ : ∃ kn : Nat, kn + 1 = left.length := ⟨left.length - 1, by omega⟩
                    obtain ⟨kz, hkz⟩ : ∃ kz : Int, (left.length : Int) - 1 = kz := ⟨_, rfl⟩
                    have HK : Hid (kz = kn ∧ kn < left.length) := ⟨by omega, by omega⟩
                    have ho' : ¬ 0 < ord.length := by omega
                    go_upto_region 30 with fail
                    try rw [hkz]
                    clear hkz hkn
                    have k0 : 0 ≤ kz := by have := HK.out; omega
                    have k1 : kz < (left.length : Int) := by have := HK.out; omega
                    have k2 : kz.toNat = kn := by have := HK.out; omega
                    obtain ⟨⟨⟨site, seq, wall, count, d0, d1, d2, d3, tws⟩, ta, tc⟩, hm⟩ : ∃ m, left[kn]? = some m := ⟨_, List.getElem?_eq_getElem HK.out.2⟩
                    have hcc : ∀ r u, (txC ⟨⟨site, seq, wall, count, d0, d1, d2, d3, tws⟩, ta, tc⟩)[r]? = some u → wr.cell? ⟨g, kn * 9 + r, none⟩ = some u := fun r u hu => by
                      obtain ⟨ga, gc, e, hX⟩ := txsIn_own HS.out.1
                      injection e with e1 e2 e3
                      subst e1
                      rcases hX.held with h0 | ⟨b, off, e, hc⟩
                      · rw [h0] at hm; simp at hm
                      · injection e with e
                        injection e with e4 e5
                        subst e4 e5
                        have := hc kn _ r u hm hu
                        simpa using this
                    have y0 : wr.cell? ⟨g, kn * 9, none⟩ = some (.int .i64 site) := hcc 0 _ rfl
                    have y1 : wr.cell? ⟨g, kn * 9 + 1, none⟩ = some (.int .i64 seq) := hcc 1 _ rfl
                    have y2 : wr.cell? ⟨g, kn * 9 + 2, none⟩ = some (.int .i64 wall) := hcc 2 _ rfl
                    have y3 : wr.cell? ⟨g, kn * 9 + 3, none⟩ = some (.int .i64 count) := hcc 3 _ rfl
                    have y4 : wr.cell? ⟨g, kn * 9 + 4, none⟩ = some (.int .i64 d0) := hcc 4 _ rfl
                    have y5 : wr.cell? ⟨g, kn * 9 + 5, none⟩ = some (.int .i64 d1) := hcc 5 _ rfl
                    have y6 : wr.cell? ⟨g, kn * 9 + 6, none⟩ = some (.int .i64 d2) := hcc 6 _ rfl
                    have y7 : wr.cell? ⟨g, kn * 9 + 7, none⟩ = some (.int .i64 d3) := hcc 7 _ rfl
                    have y8 : wr.cell? ⟨g, kn * 9 + 8, none⟩ = some (.slice ta tws.length tc) := hcc 8 _ rfl
                    have HMA : Hid (⟨⟨site, seq, wall, count, d0, d1, d2, d3, tws⟩, ta, tc⟩ ∈ all) := HS.out.2.2.2.1 _ (List.mem_of_getElem? hm)
                    have GT : Hid (takeE Bs (⟨site, seq, wall, count, d0, d1, d2, d3, tws⟩ : TxP) = 0 ∧ ∀ S', TakesTo Bs (⟨site, seq, wall, count, d0, d1, d2, d3, tws⟩ : TxP) S' → Got (all.map (·.t)) S' ((left.map (·.t)).eraseIdx kn) ∧ takeE S' (⟨site, seq, wall, count, d0, d1, d2, d3, tws⟩ : TxP) = 9) := HS.out.2.2.2.2.1.take HALL.out.2.2.2.1 (by have := HALL.out.2.2.2.2; simpa using this) (by rw [List.getElem?_map, hm]; rfl) (HALL.out.2.2.1 _ HMA.out)
                    have RX := RowL.new (w := wr) (T := 40) [.int .i64 site, .int .i64 seq, .int .i64 wall, .int .i64 count, .int .i64 d0, .int .i64 d1, .int .i64 d2, .int .i64 d3, .slice ta tws.length tc] rfl
                    change RowL (wr.alloc (.cells #[.int .i64 site, .int .i64 seq, .int .i64 wall, .int .i64 count, .int .i64 d0, .int .i64 d1, .int .i64 d2, .int .i64 d3, .slice ta tws.length tc] 40)) wr.heap.size [.int .i64 site, .int .i64 seq, .int .i64 wall, .int .i64 count, .int .i64 d0, .int .i64 d1, .int .i64 d2, .int .i64 d3, .slice ta tws.length tc] at RX
                    have hbx := boxed (Below.refl _ wr) (.cells #[.int .i64 site, .int .i64 seq, .int .i64 wall, .int .i64 count, .int .i64 d0, .int .i64 d1, .int .i64 d2, .int .i64 d3, .slice ta tws.length tc] 40)
                    have TK : Hid (Calls Tryd.prog 48 #[.pointer (some ⟨bb, 0, none⟩), txV ⟨⟨site, seq, wall, count, d0, d1, d2, d3, tws⟩, ta, tc⟩] (wr.alloc (.cells #[.int .i64 site, .int .i64 seq, .int .i64 wall, .int .i64 count, .int .i64 d0, .int .i64 d1, .int .i64 d2, .int .i64 d3, .slice ta tws.length tc] 40)) fun e w' => e = .returned (errV (takeE Bs (⟨⟨site, seq, wall, count, d0, d1, d2, d3, tws⟩, ta, tc⟩ : TxM).t)) ∧ ∃ B', Hid (TakesTo Bs (⟨⟨site, seq, wall, count, d0, d1, d2, d3, tws⟩, ta, tc⟩ : TxM).t B') ∧ SoTake ba bb A B' (fun k => (k < w2.heap.size ∨ k = g) ∨ k = wr.heap.size) (wr.alloc (.cells #[.int .i64 site, .int .i64 seq, .int .i64 wall, .int .i64 count, .int .i64 d0, .int .i64 d1, .int .i64 d2, .int .i64 d3, .slice ta tws.length tc] 40)) w') := so_takeB (m := ⟨⟨site, seq, wall, count, d0, d1, d2, d3, tws⟩, ta, tc⟩) (HS.out.2.1.new (.cells #[.int .i64 site, .int .i64 seq, .int .i64 wall, .int .i64 count, .int .i64 d0, .int .i64 d1, .int .i64 d2, .int .i64 d3, .slice ta tws.length tc] 40)) HS.out.2.2.2.2.1.inv (by have := HS.out.2.2.2.2.1.len; have := HALL.out.2.2.2.2; simp at *; omega) ((HALL.out.2.1 _ HMA.out).later (boxed HS.out.2.2.2.2.2 _))
                    clear hcc hm
                    have t0 := RX.cell 0 _ rfl
                    have t1 := RX.cell 1 _ rfl
                    have t2 := RX.cell 2 _ rfl
                    have t3 := RX.cell 3 _ rfl
                    have t4 := RX.cell 4 _ rfl
                    have t5 := RX.cell 5 _ rfl
                    have t6 := RX.cell 6 _ rfl
                    have t7 := RX.cell 7 _ rfl
                    have t8 := RX.cell 8 _ rfl
                    go_wp2_with fail
                    refine TK.out.mono ?_
                    rintro e w5 ⟨rfl, B1, hT5, hS5⟩
                    have G1 : Hid (Got (all.map (·.t)) B1 ((left.map (·.t)).eraseIdx kn) ∧ takeE B1 (⟨site, seq, wall, count, d0, d1, d2, d3, tws⟩ : TxP) = 9) := GT.out.2 _ hT5.out
                    rw [show errV (takeE Bs (⟨⟨site, seq, wall, count, d0, d1, d2, d3, tws⟩, ta, tc⟩ : TxM).t) = .nilIface by show errV (takeE Bs (⟨site, seq, wall, count, d0, d1, d2, d3, tws⟩ : TxP)) = _; rw [GT.out.1]; rfl]
                    have RX5 := RX.keeps hS5.out.2 (.inr rfl)
                    have TK2 : Hid (Calls Tryd.prog 48 #[.pointer (some ⟨bb, 0, none⟩), txV ⟨⟨site, seq, wall, count, d0, d1, d2, d3, tws⟩, ta, tc⟩] w5 fun e w' => e = .returned (errV (takeE B1 (⟨⟨site, seq, wall, count, d0, d1, d2, d3, tws⟩, ta, tc⟩ : TxM).t)) ∧ ∃ B', Hid (TakesTo B1 (⟨⟨site, seq, wall, count, d0, d1, d2, d3, tws⟩, ta, tc⟩ : TxM).t B') ∧ SoTake ba bb A B' (fun k => (k < w2.heap.size ∨ k = g) ∨ k = wr.heap.size) w5 w') := so_takeB (m := ⟨⟨site, seq, wall, count, d0, d1, d2, d3, tws⟩, ta, tc⟩) hS5.out.1 G1.out.1.inv (by have := G1.out.1.len; have := HALL.out.2.2.2.2; simp at *; omega) ((HALL.out.2.1 _ HMA.out).later ((boxed HS.out.2.2.2.2.2 _).trans (hS5.out.2.below (fun k hk => .inl (.inl hk)))))
                    clear TK GT t0 t1 t2 t3 t4 t5 t6 t7 t8 y0 y1 y2 y3 y4 y5 y6 y7 y8
                    have t0 := RX5.cell 0 _ rfl
                    have t1 := RX5.cell 1 _ rfl
                    have t2 := RX5.cell 2 _ rfl
                    have t3 := RX5.cell 3 _ rfl
                    have t4 := RX5.cell 4 _ rfl
                    have t5 := RX5.cell 5 _ rfl
                    have t6 := RX5.cell 6 _ rfl
                    have t7 := RX5.cell 7 _ rfl
                    have t8 := RX5.cell 8 _ rfl
                    go_wp2_with fail
                    refine TK2.out.mono ?_
                    rintro e w6 ⟨rfl, B2, hT6, hS6⟩
                    obtain rfl : B1 = B2 := (hT6.out.twice G1.out.2).symm
                    rw [show errV (takeE B1 (⟨⟨site, seq, wall, count, d0, d1, d2, d3, tws⟩, ta, tc⟩ : TxM).t) = .iface 24 (.int .i64 9) by show errV (takeE B1 (⟨site, seq, wall, count, d0, d1, d2, d3, tws⟩ : TxP)) = _; rw [G1.out.2]; rfl]
                    have K6 : Hid (Below w2.heap.size w2 w6 ∧ Keeps (fun k => k < w2.heap.size ∨ k = g) (wr.alloc (.cells #[.int .i64 site, .int .i64 seq, .int .i64 wall, .int .i64 count, .int .i64 d0, .int .i64 d1, .int .i64 d2, .int .i64 d3, .slice ta tws.length tc] 40)) w6) := by
                      have a1 := hS5.out.2
                      have a2 := hS6.out.2
                      exact ⟨((boxed HS.out.2.2.2.2.2 _).trans (a1.below (fun k hk => .inl (.inl hk)))).trans (a2.below (fun k hk => .inl (.inl hk))), a2.os.trans a1.os, a2.tape.trans a1.tape, a2.output.trans a1.output, Nat.le_trans a1.size a2.size, fun k hk => (a2.block k (.inl hk)).trans (a1.block k (.inl hk))⟩
                    have TE := tell_errno 9 w6 (cell_later (behind hbW K6.out.1) HG.out)
                    clear TK2 t0 t1 t2 t3 t4 t5 t6 t7 t8 RX RX5 hbx
                    go_wp2_with fail
                    refine TE.mono ?_
                    rintro e w7 ⟨rfl, hb7⟩
                    clear TE
                    have L7 : Hid (TxsIn w7 (some ⟨g, 0, none⟩) c left) := by
                      have o7 : w7.ownsRow 0 40 9 (.slice (some ⟨g, 0, none⟩) left.length c) left.length (txsC left) := own_keptN HS.out.1 (fun k e => by
                        have e' : g = k := Option.some.inj e
                        subst e'
                        have lt := (HS.out.1.lt g rfl).2
                        exact (hb7.block g (Nat.lt_of_lt_of_le lt (Nat.le_trans (by simp) K6.out.2.size))).trans ((K6.out.2.block g (.inr rfl)).trans ((boxed (Below.refl _ wr) _).block g lt)))
                      obtain ⟨ga, gc, e, hX⟩ := txsIn_own o7
                      injection e with e1 e2 e3
                      subst e1 e3
                      exact hX
                    go_upto_region 36 with fail
                    refine wp_next (soR36_any (i := kn) w7 L7 (by show _ ≤ _; omega) HK _ ?_)
                    intro u132 u133 u134 u135 u136 u137 u138 u139 u140 u141 w8 g2 c2 n2 hb8 hg2a hg2b hn2 own8
                    subst hn2
                    have A8 : Hid (Aside w8 2 (soP ba bb A B1) (fun k => k < w2.heap.size ∨ k = g2) 2 NoY ∧ Below w2.heap.size w2 w8 ∧ w2.heap.size ≤ g2) := by
                      have s7 := hb7.size
                      have s6 := K6.out.1.size
                      refine ⟨(((hS6.out.1.later hb7).less (X' := fun k => k < w2.heap.size) (o' := 2) (fun k hk => .inl (.inl hk))).more hb8).less (fun k hk => hk.elim .inl (fun e => .inr ⟨by omega, by omega⟩)), behind (behind K6.out.1 hb7) hb8, by omega⟩
                    obtain ⟨Gb, PB⟩ := so_isB A8.out.1
                    have AP := applied_any w8 PB
                    clear PB L7 hS5 hS6 hT5 hT6
                    go_wp2_with fail
                    refine AP.mono ?_
                    rintro e w9 ⟨rfl, hb9⟩
                    clear AP
                    have RV := RowL.new (w := w9) (T := 37) [.int .i64 B1.a0, .int .i64 B1.a1, .int .i64 B1.a2, .int .i64 B1.a3] rfl
                    change RowL (w9.alloc (.cells #[.int .i64 B1.a0, .int .i64 B1.a1, .int .i64 B1.a2, .int .i64 B1.a3] 37)) w9.heap.size [.int .i64 B1.a0, .int .i64 B1.a1, .int .i64 B1.a2, .int .i64 B1.a3] at RV
                    have hbV : Below w8.heap.size w8 (w9.alloc (.cells #[.int .i64 B1.a0, .int .i64 B1.a1, .int .i64 B1.a2, .int .i64 B1.a3] 37)) := boxed hb9 _
                    go_wp2_with fail
                    obtain ⟨wV, hwV⟩ : ∃ wV, w9.alloc (.cells #[.int .i64 B1.a0, .int .i64 B1.a1, .int .i64 B1.a2, .int .i64 B1.a3] 37) = wV := ⟨_, rfl⟩
                    rw [hwV] at RV hbV ⊢
                    clear hwV
                    obtain ⟨vb, hvb⟩ : ∃ vb, w9.heap.size = vb := ⟨_, rfl⟩
                    rw [hvb] at RV ⊢
                    clear hvb
                    have HV : Hid (RowL wV vb [.int .i64 B1.a0, .int .i64 B1.a1, .int .i64 B1.a2, .int .i64 B1.a3] ∧ Below w8.heap.size w8 wV ∧ w8.ownsRow 0 40 9 (.slice (some ⟨g2, 0, none⟩) (left.take kn ++ left.drop (kn + 1)).length c2) (left.take kn ++ left.drop (kn + 1)).length (txsC (left.take kn ++ left.drop (kn + 1))) ∧ g2 < w8.heap.size) := ⟨RV, hbV, own8, hg2b⟩
                    clear RV hbV own8 hb9 hb7 hb8 hg2a hg2b K6
                    go_loopw [21] (fun jv wr => ∃ (j : Nat) (x : Int), j ≤ all.length ∧ x = j ∧ jv = .int .i64 x ∧ Below wV.heap.size wV wr) (fun jv _ => all.length - (intOf jv).toNat)
                    case atStart => exact ⟨0, 0, by omega, rfl, rfl, Below.refl _ _⟩
                    case round =>
                      obtain ⟨j, x, hj, hx, rfl, hbp⟩ := hrel
                      have HX : Hid (x = j) := hx
                      by_cases hjl : j < all.length
                      · have f1 : x < (all.length : Int) := by omega
                        have f2 : x.toNat = j := by omega
                        have f3 : 0 ≤ x := by omega
                        clear hx
                        obtain ⟨ab, ao, haa, hcc⟩ : ∃ b off, aa = some ⟨b, off, none⟩ ∧ ∀ i m r u, all[i]? = some m → (txC m)[r]? = some u → w2.cell? ⟨b, off + (i * 9 + r), none⟩ = some u := by
                          rcases HALL.out.1.held with h0 | h0
                          · rw [h0] at hjl; simp at hjl
                          · exact h0
                        subst haa
                        obtain ⟨⟨⟨s_, q_, xw, xc, e0, e1, e2, e3, xws⟩, xa, xk⟩, hm⟩ : ∃ m, all[j]? = some m := ⟨_, List.getElem?_eq_getElem hjl⟩
                        have HMJ : Hid ((⟨s_, q_, xw, xc, e0, e1, e2, e3, xws⟩ : TxP) ∈ (all.map (·.t))) := List.mem_map.2 ⟨_, List.mem_of_getElem? hm, rfl⟩
                        have hs := HALL.out.2.2.2.1.site HMJ.out
                        have s0 : 0 ≤ s_ := hs.1
                        have s3 : s_ ≤ 3 := hs.2
                        have s4 : s_ < 4 := by omega
                        have hne := Later.one
                        have lt : ∀ p u, w2.cell? p = some u → wr.cell? p = some u := fun p u h => cell_later hbp (cell_later HV.out.2.1 (cell_later A8.out.2.1 h))
                        have z0 := Later.cell (lt _ _ (show w2.cell? ⟨ab, ao + j * 9, none⟩ = some (.int .i64 s_) from hcc j _ 0 _ hm rfl))
                        have z1 := Later.cell (lt _ _ (show w2.cell? ⟨ab, ao + j * 9 + 1, none⟩ = some (.int .i64 q_) from hcc j _ 1 _ hm rfl))
                        have z4 := Later.cell (lt _ _ (show w2.cell? ⟨ab, ao + j * 9 + 4, none⟩ = some (.int .i64 e0) from hcc j _ 4 _ hm rfl))
                        have z5 := Later.cell (lt _ _ (show w2.cell? ⟨ab, ao + j * 9 + 5, none⟩ = some (.int .i64 e1) from hcc j _ 5 _ hm rfl))
                        have z6 := Later.cell (lt _ _ (show w2.cell? ⟨ab, ao + j * 9 + 6, none⟩ = some (.int .i64 e2) from hcc j _ 6 _ hm rfl))
                        have z7 := Later.cell (lt _ _ (show w2.cell? ⟨ab, ao + j * 9 + 7, none⟩ = some (.int .i64 e3) from hcc j _ 7 _ hm rfl))
                        have RV := HV.out.1.later hbp
                        have v0 := Later.cell (RV.cell 0 _ rfl)
                        have v1 := Later.cell (RV.cell 1 _ rfl)
                        have v2 := Later.cell (RV.cell 2 _ rfl)
                        have v3 := Later.cell (RV.cell 3 _ rfl)
                        have vs := Later.cell (RV.cell _ _ (vec_at4 s0 s3))
                        obtain ⟨D, hD9⟩ : ∃ D, depOf s_ B1.a0 B1.a1 B1.a2 B1.a3 = D := ⟨_, rfl⟩
                        rw [hD9] at vs
                        have HC : Hid (q_ ≤ D → covB B1.a0 B1.a1 B1.a2 B1.a3 e0 e1 e2 e3 = true) := fun h => G1.out.1.closed HMJ.out (by show q_ ≤ depOf s_ _ _ _ _; rw [hD9]; exact h)
                        clear hcc hm lt RV hD9 hs
                        by_cases hq : q_ ≤ D
                        · have HC2 : Hid (covB B1.a0 B1.a1 B1.a2 B1.a3 e0 e1 e2 e3 = true) := HC.out hq
                          clear HC
                          go_wp2_with fail
                          refine wp_region_later (by kernel_rfl) (by kernel_rfl) ?_
                          repeat (go_big_quiet_step (first | rfl | (go_at_call 50; with_reducible exact calls_later (covers_is HC2.out _))))
                          refine wpQuiet_nil ?_
                          rintro w10 ⟨⟨_, hbT⟩, rfl⟩
                          go_wp2_with fail
                          go_roundw
                          case rel => exact ⟨j + 1, x + 1, by omega, by have := HX.out; omega, by go_num, behind hbp hbT⟩
                          case measure => simp [intOf]; have := HX.out; omega
                        · have hq1 : decide (q_ ≤ D) = false := decide_eq_false hq
                          have hq2 : D < q_ := by omega
                          clear HC
                          go_wp2_with fail
                          refine wp_region_later (by kernel_rfl) (by kernel_rfl) ?_
                          repeat (go_big_quiet_step (first | rfl | fail))
                          refine wpQuiet_nil ?_
                          rintro w10 ⟨⟨_, hbT⟩, rfl⟩
                          go_wp2_with fail
                          go_roundw
                          case rel => exact ⟨j + 1, x + 1, by omega, by have := HX.out; omega, by go_num, behind hbp hbT⟩
                          case measure => simp [intOf]; have := HX.out; omega
                      · have f1 : ¬ x < (all.length : Int) := by omega
                        have hll : (left.take kn ++ left.drop (kn + 1)).length + 1 = left.length := by have := HK.out; simp; omega
                        go_wp2_with fail
                        go_roundw
                        case rel =>
                          have hbE := behind HV.out.2.1 hbp
                          refine ⟨left.take kn ++ left.drop (kn + 1), g2, c2, z + 1, B1, by rw [List.length_append, List.length_take, List.length_drop], by go_num, by omega, by omega, own_keptN HV.out.2.2.1 (fun k e => hbE.block k (HV.out.2.2.1.lt k e).2), A8.out.1.later hbE, A8.out.2.2, fun m hm => HS.out.2.2.2.1 m ?_, ?_, behind A8.out.2.1 hbE⟩
                          · rcases List.mem_append.1 hm with q | q
                            · exact List.mem_of_mem_take q
                            · exact List.mem_of_mem_drop q
                          · rw [map_eraseIdx']
                            exact G1.out.1
                        case measure => simp [intOf]; omega
                · have hl1 : left = [] := List.eq_nil_of_length_eq_zero (by omega)
                  subst hl1
                  have GB : Hid (Got (all.map (·.t)) Bs []) := HS.out.2.2.2.2.1
                  have SM : Hid (A.a0 = Bs.a0 ∧ A.a1 = Bs.a1 ∧ A.a2 = Bs.a2 ∧ A.a3 = Bs.a3 ∧ Bs.waits.length = 0 ∧ (∀ x0 x1 x2 x3 n, toldC x0 x1 x2 x3 A.l n = toldC x0 x1 x2 x3 Bs.l n) ∧ (missP Bs 0 0 0 0).length = (all.map (·.t)).length) := GA.out.same GB.out HALL.out.2.2.2.1
                  obtain ⟨Ga, PA⟩ := so_isA HS.out.2.1
                  obtain ⟨Gb, PB⟩ := so_isB HS.out.2.1
                  have hbE := HS.out.2.2.2.2.2
                  have L1 := pall_any wr PA GA.out.inv
                  clear hzl hz0 hl0
                  go_wp2_with fail
                  refine L1.mono ?_
                  rintro e w5 ⟨v5, rfl, own5, hb5⟩
                  have L2 := pall_any w5 (PB.later hb5) GB.out.inv
                  clear L1
                  go_wp2_with fail
                  refine L2.mono ?_
                  rintro e w6 ⟨v6, rfl, own6, hb6⟩
                  have own5' := own_keptN own5 (fun k e => hb6.block k (own5.lt k e).2)
                  rw [SM.out.1, SM.out.2.1, SM.out.2.2.1, SM.out.2.2.2.1, SM.out.2.2.2.2.2.1] at own5'
                  have hb56 := behind hb5 hb6
                  obtain ⟨xb, xc, rfl, hxl, hxc⟩ := own8 own5'
                  obtain ⟨yb, yc, rfl, hyl, hyc⟩ := own8 own6
                  have HXY : Hid (∀ i, i < 8 → ∃ s : ByteArray, w6.cell? ⟨xb, i, none⟩ = some (.string s) ∧ w6.cell? ⟨yb, i, none⟩ = some (.string s)) := fun i hi => ⟨_, hxl i _ (told_at hi), hyl i _ (told_at hi)⟩
                  have P1 := applied_any w6 (PA.later hb56)
                  clear L2 own5 own6 own5' hxl hyl
                  go_wp2_with fail
                  refine P1.mono ?_
                  rintro e w7 ⟨rfl, hb7⟩
                  have P2 := applied_any w7 (PB.later (behind hb56 hb7))
                  clear P1
                  go_wp2_with fail
                  refine P2.mono ?_
                  rintro e w8 ⟨rfl, hb8⟩
                  have WT := waits_any w8 (PB.later (behind (behind hb56 hb7) hb8))
                  rw [SM.out.2.2.2.2.1] at WT
                  rw [SM.out.1, SM.out.2.1, SM.out.2.2.1, SM.out.2.2.2.1]
                  have NE := neVecS Bs.a0 Bs.a1 Bs.a2 Bs.a3
                  clear P2
                  go_wp2_with fail
                  refine WT.mono ?_
                  rintro e w9 ⟨rfl, hb9⟩
                  have hb69 := behind (behind hb7 hb8) hb9
                  have hb9E := behind hb56 hb69
                  clear WT NE
                  go_wp2_with fail
                  go_loopw [24] (fun iv wr => ∃ (i : Nat) (z : Int), i ≤ 8 ∧ z = i ∧ iv = .int .i64 z ∧ Below w9.heap.size w9 wr) (fun iv _ => 8 - (intOf iv).toNat)
                  case atStart => exact ⟨0, 0, by omega, rfl, rfl, Below.refl _ _⟩
                  case round =>
                    obtain ⟨i, z, hi, hz, rfl, hbp⟩ := hrel
                    have HZ : Hid (z = i) := hz
                    by_cases hi8 : i < 8
                    · have g1 : z < 8 := by omega
                      have g2 : z.toNat = i := by omega
                      have g3 : 0 ≤ z := by omega
                      clear hz
                      obtain ⟨s, x1, x2⟩ := HXY.out i hi8
                      have x3 := cell_later hbp (cell_later hb69 x1)
                      have x4 := cell_later hbp (cell_later hb69 x2)
                      clear x1 x2
                      go_wp2_with fail
                      go_region
                      all_goals
                        go_wp2_with fail
                        go_roundw
                        case rel => exact ⟨i + 1, z + 1, by omega, by have := HZ.out; omega, by go_num, hbp.drew⟩
                        case measure => simp [intOf]; have := HZ.out; omega
                    · have g1 : ¬ z < 8 := by omega
                      have MS := pmissing_any 0 0 0 0 wr (PB.later (behind hb9E hbp)) GB.out.inv
                      clear hz
                      go_wp2_with fail
                      refine MS.mono ?_
                      rintro e w10 ⟨v, rfl, kept, k1, ⟨B9, k2⟩, k3, k4⟩
                      obtain ⟨ma, mc, hv, hMx⟩ := txsIn_own k2
                      subst hv
                      have hkl : kept.length = all.length := by
                        have e1 := congrArg List.length k1
                        rw [SM.out.2.2.2.2.2.2] at e1
                        simpa using e1
                      rw [hkl]
                      clear MS
                      go_wp2_with fail
                      go_ret
                      exact ⟨by simp, behind (behind (behind hbW (behind hbE hb9E)) hbp) k4⟩

end Go.Proofs.YtknejedgddlabaaDoor
