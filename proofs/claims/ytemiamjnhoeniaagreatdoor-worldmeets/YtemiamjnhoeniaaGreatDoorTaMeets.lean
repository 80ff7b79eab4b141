/-
  'copsekeep.WorldMeets', as the model runs it: true, whatever its arguments are.
-/
import Derived.Test.YtemiamjnhoeniaaGreatDoorSiteK
import Derived.Test.YtemiamjnhoeniaaGreatDoorTaDoes
import Derived.Test.YtemiamjnhoeniaaGreatDoorSiteJ
import Derived.Test.YtemiamjnhoeniaaGreatDoorSiteC
namespace Go.Proofs.YtemiamjnhoeniaaGreatDoor
open Go.RowKit

theorem neVecT (a b c d : Int) (w : World) : (binOp .neq 47 (.agg #[.int .i64 a, .int .i64 b, .int .i64 c, .int .i64 d]) (.agg #[.int .i64 a, .int .i64 b, .int .i64 c, .int .i64 d])).run Tryz.prog w = .ok (.bool false) w := by
  rw [run_neq_struct, eqVec]
  simp
/-- so many of each site -/
def cntC (H : List TxP) : List Value := [.int .i64 (cnt H 0 : Int), .int .i64 (cnt H 1 : Int), .int .i64 (cnt H 2 : Int), .int .i64 (cnt H 3 : Int)]
theorem cnt_set {H : List TxP} {i : Nat} {t : TxP} (e : H[i]? = some t) (h0 : 0 ≤ t.site) (h3 : t.site ≤ 3) (hq : t.seq = cnt (H.take i) t.site + 1) : (cntC (H.take i)).set t.site.toNat (.int .i64 t.seq) = cntC (H.take (i + 1)) := by
  unfold cntC
  rw [cnt_take e, cnt_take e, cnt_take e, cnt_take e, hq]
  have h : t.site = 0 ∨ t.site = 1 ∨ t.site = 2 ∨ t.site = 3 := by omega
  rcases h with h | h | h | h <;> simp [h]
theorem cnt_at {H : List TxP} {s : Int} (h0 : 0 ≤ s) (h3 : s ≤ 3) : depOf s (cnt H 0 : Int) (cnt H 1 : Int) (cnt H 2 : Int) (cnt H 3 : Int) = (cnt H s : Int) := by
  have h : s = 0 ∨ s = 1 ∨ s = 2 ∨ s = 3 := by omega
  rcases h with h | h | h | h <;> (subst h; rfl)
/-- what was written last is short -/
theorem lastT_small {H : List TxP} (hH : Hist H) (key a0 a1 a2 a3 : Int) : (lastT H key a0 a1 a2 a3).1.size ≤ 12 := by
  unfold lastT
  cases e : lastV key a0 a1 a2 a3 (histL H) with
  | none => exact Nat.zero_le _
  | some v =>
    obtain ⟨x, hx, ev, _, _⟩ := lastV_mem e
    obtain ⟨t, ht, y, hy, rfl⟩ := mem_histL.1 hx
    show v.data.size ≤ 12
    rw [← ev]
    exact (okWs_mem (okT_ws (hH.ok t ht)).1 y hy).2.2
/-- a row of eight texts -/
theorem own8T {w : World} {B : Nat} {T : TypeId} {v : Value} {L : List Value} (h : w.ownsRow B T 1 v 8 L) : ∃ b cap, v = .slice (some ⟨b, 0, none⟩) 8 cap ∧ (∀ i u, L[i]? = some u → w.cell? ⟨b, i, none⟩ = some u) ∧ 8 ≤ cap := by
  rcases h.2 with ⟨_, h0⟩ | ⟨g, cap, cur, rfl, hb, hg, hnc, hm, hs, ht⟩
  · cases h0
  · refine ⟨g, cap, rfl, fun i u hu => ?_, hnc⟩
    have hc := h.cells (g := g) rfl i u hu
    rw [addr_add] at hc
    exact hc
theorem told_atT {x0 x1 x2 x3 : Int} {l : List Hd} {i : Nat} (hi : i < 8) : (toldC x0 x1 x2 x3 l 8)[i]? = some (.string (toldV x0 x1 x2 x3 l i)) := by
  unfold toldC
  rw [List.getElem?_map, List.getElem?_range hi]
  rfl
set_option maxRecDepth 1000000 in
set_option maxHeartbeats 64000000 in
theorem meets_walk (sites clients : Int) (a : Option Addr) (cap : Nat) (l : List ActS) (w : World) (hD : ActIn w a cap l) (hg : w.cell? ⟨0, 0, none⟩ = some (.iface 209 (.agg #[.pointer (some ⟨1, 25, none⟩)]))) :
    Calls Tryz.prog 5 #[.int .i64 sites, .int .i64 clients, .slice a l.length cap] w fun e w' => e = .returned (.bool true) ∧ Below w.heap.size w w' := by
  have hne := Later.one
  have HG : Hid (w.cell? ⟨0, 0, none⟩ = some (.iface 209 (.agg #[.pointer (some ⟨1, 25, none⟩)]))) := hg
  clear hg
  by_cases h120 : 120 < (l.length : Int)
  · go_enter Tryz.func5, Tryz.ntmps5
    go_wp2_with fail
    go_ret
    exact ⟨rfl, Below.refl _ _⟩
  · have LV := lived_any w
    go_enter Tryz.func5, Tryz.ntmps5
    go_wp2_with fail
    refine LV.mono ?_
    rintro e w1 ⟨rfl, hb1⟩
    have TT := tatells_any sites clients w1
    clear LV
    go_wp2_with fail
    refine TT.mono ?_
    rintro e w2 ⟨rfl, G2, hT2, hG2, hb2⟩
    clear TT
    obtain ⟨b, hb⟩ : ∃ b, w1.heap.size = b := ⟨_, rfl⟩
    have N0 : Hid (NewTA w b (newT (1 + pickN sites 4) (1 + pickN clients 6)) w2 ∧ TI (fun _ => ⟨0, 0, 0, 0⟩) (newT (1 + pickN sites 4) (1 + pickN clients 6)) (newT (1 + pickN sites 4) (1 + pickN clients 6)) 0) := by
      have p1 := pickN_lt sites (n := 4) (by decide)
      have p2 := pickN_lt clients (n := 6) (by decide)
      have s1 := hb1.size
      exact ⟨⟨behind hb1 hb2, G2, by rw [← hb]; exact hT2, fun k hk => by have := hG2 k hk; omega⟩, TI.new (by omega) (by omega) (by omega) (by omega)⟩
    rw [hb]
    clear hb hT2 hG2 hb1 hb2
    go_wp2_with fail
    go_loopw [8] (fun iv wr => ∃ (i : Nat) (z : Int) (T Tg : TaleS) (base : Nat → V4), i ≤ l.length ∧ z = i ∧ iv = .int .i64 z ∧ Hid (NewTA w b T wr ∧ TI base Tg T i)) (fun iv _ => l.length - (intOf iv).toNat)
    case atStart => exact ⟨0, 0, _, _, _, by omega, rfl, rfl, N0.out⟩
    case round =>
      clear N0
      obtain ⟨i, z, T, Tg, base, hi, hz, rfl, HS⟩ := hrel
      have HZ : Hid (z = i) := hz
      by_cases hlt : i < l.length
      · have g1 : z < (l.length : Int) := by omega
        have g2 : z.toNat = i := by omega
        have g3 : 0 ≤ z := by omega
        clear hz
        obtain ⟨M, G, hT, hTA, hGn, hbW⟩ := HS.out.1.start
        obtain ⟨ab, ao, what, ak, an, ad, ag, rfl, _, x0, x1, x2, x3, x4⟩ := (hD.later hbW).at hlt
        by_cases h50 : 50 < (ad.size : Int)
        · have NX : Hid (NewTA w b T wr ∧ TI base Tg T (i + 1)) := ⟨HS.out.1, HS.out.2.more (by omega)⟩
          clear hT hTA hGn hbW
          go_wp2_with fail
          go_roundw
          case rel => exact ⟨i + 1, z + 1, T, Tg, base, by omega, by have := HZ.out; omega, by go_num, NX.out⟩
          case measure => simp [intOf]; have := HZ.out; omega
        · have DO := tadoes_any wr hTA HS.out.2 (by omega) ⟨what, ak, an, ad, ag⟩ true (cell_later hbW HG.out)
          simp only at DO
          clear hT
          go_wp2_with fail
          refine DO.mono ?_
          rintro e w3 ⟨rfl, T', hd, hp⟩
          obtain ⟨base', Tg', _, hI'⟩ := HS.out.2.does (by omega) hd
          have NX : Hid (NewTA w b T' w3 ∧ TI base' Tg' T' (i + 1)) := ⟨NewTA.left hbW hGn hp, hI'⟩
          clear DO HS hTA hGn hbW hp hd hI' x0 x1 x2 x3 x4
          go_wp2_with fail
          go_roundw
          case rel => exact ⟨i + 1, z + 1, T', Tg', base', by omega, by have := HZ.out; omega, by go_num, NX.out⟩
          case measure => simp [intOf]; have := HZ.out; omega
      · have g1 : ¬ z < (l.length : Int) := by omega
        obtain ⟨w3, hw3⟩ : ∃ w3, w3 = wr := ⟨_, rfl⟩
        subst hw3
        obtain ⟨M, G, hT, hTA, hGn, hbW⟩ := HS.out.1.start
        obtain ⟨Gw, PW3, st3⟩ := hT.wo
        have CA := pw_calm w3 PW3 HS.out.2.wf
        have b0 := hT.box.cell 0 _ rfl
        have HT : Hid ((∀ k, G k → w.heap.size ≤ k) ∧ Below w.heap.size w w3 ∧ TI base Tg T i) := ⟨hGn, hbW, HS.out.2⟩
        have HST : Hid (∀ W' w', PWPo w3 M.wb Gw W' w' → W'.n = T.W.n → W'.c = T.W.c → TaAt w3 G b M (setW T W') NoY w' ∧ Keeps NoY w3 w') := st3
        clear hz HS hTA hGn hbW st3 PW3 hT
        go_wp2_with fail
        refine CA.mono ?_
        rintro e w4 ⟨rfl, W1, hc1, hp4⟩
        have H4 := (HST.out _ _ hp4 hc1.out.1.keep.n hc1.out.1.keep.c).1
        obtain ⟨Gx, PW4, st4⟩ := H4.wo
        have CB := pw_calm w4 PW4 hc1.out.2
        have c0 := H4.box.cell 0 _ rfl
        have HST4 : Hid (∀ W' w', PWPo w4 M.wb Gx W' w' → W'.n = (setW T W1).W.n → W'.c = (setW T W1).W.c → TaAt w3 G b M (setW (setW T W1) W') NoY w' ∧ Keeps NoY w4 w') := st4
        clear CA b0 hp4 HST PW4 st4 H4
        go_wp2_with fail
        refine CB.mono ?_
        rintro e w5 ⟨rfl, W2, hc2, hp5⟩
        have H5 : TaAt w3 G b M (setW T W2) NoY w5 := (HST4.out _ _ hp5 hc2.out.1.keep.n hc2.out.1.keep.c).1
        have hnW : W2.n = T.W.n := hc2.out.1.keep.n.trans hc1.out.1.keep.n
        have MT : Hid (∀ k, k < W2.n → (W2.S k).a0 = cnt T.H 0 ∧ (W2.S k).a1 = cnt T.H 1 ∧ (W2.S k).a2 = cnt T.H 2 ∧ (W2.S k).a3 = cnt T.H 3 ∧ (W2.S k).waits.length = 0 ∧ ∀ key : Int, toldV (W2.S k).a0 (W2.S k).a1 (W2.S k).a2 (W2.S k).a3 (W2.S k).l key = toldV (cnt T.H 0) (cnt T.H 1) (cnt T.H 2) (cnt T.H 3) (histL T.H) key) := fun k hk => HT.out.2.2.meets hc1.out.1 hc2.out.1 (by omega)
        have hn4 : W2.n ≤ 4 := hc2.out.2.n4
        have hb35 : Below w.heap.size w w5 := by
          obtain ⟨_, _, _, tt, _⟩ := H5
          exact Touch.belowF HT.out.2.1 tt HT.out.1 HT.out.2.1.size
        have HIST : Hid (Hist T.H) := by show Hist T.H; rw [HT.out.2.2.eH]; exact HT.out.2.2.gi.hist
        have H5H : Hid (TaAt w3 G b M (setW T W2) NoY w5 ∧ WfW W2 ∧ Below w.heap.size w w5) := ⟨H5, hc2.out.2, hb35⟩
        have RV5 := RowL.new (w := w5) (T := 47) [.int .i64 0, .int .i64 0, .int .i64 0, .int .i64 0] rfl
        have hb56 := boxed (Below.refl _ w5) (.cells #[.int .i64 0, .int .i64 0, .int .i64 0, .int .i64 0] 47)
        have START : Hid (Below w5.heap.size w5 (w5.alloc (.cells #[.int .i64 0, .int .i64 0, .int .i64 0, .int .i64 0] 47)) ∧ RowL (w5.alloc (.cells #[.int .i64 0, .int .i64 0, .int .i64 0, .int .i64 0] 47)) w5.heap.size (cntC (T.H.take 0))) := ⟨hb56, RV5⟩
        clear CB c0 hp5 HST4 hnW H5 hb35 hc1 hc2 RV5 hb56
        go_wp2_with fail
        go_loopw [10] (fun iv wr => ∃ (j : Nat) (y : Int), j ≤ M.all.length ∧ y = j ∧ iv = .int .i64 y ∧ Hid (Below w5.heap.size w5 wr ∧ RowL wr w5.heap.size (cntC (T.H.take j)))) (fun iv _ => M.all.length - (intOf iv).toNat)
        case atStart => exact ⟨0, 0, by omega, rfl, rfl, START.out⟩
        case round =>
          clear START
          obtain ⟨j, y, hj, hy, rfl, HB⟩ := hrel
          have HY : Hid (y = j) := hy
          obtain ⟨ta, tc, htv, hTx, hal, hWr⟩ := (H5H.out.1.later HB.out.1).txs
          have RB := (H5H.out.1.later HB.out.1).box
          have b3 := RB.cell 3 _ rfl
          rw [htv] at b3
          have hal3 := hTx.len
          have hac3 := hTx.cap
          by_cases hjl : j < M.all.length
          · have i1 : y < (M.all.length : Int) := by omega
            have i2 : y.toNat = j := by omega
            have i3 : 0 ≤ y := by omega
            obtain ⟨tb, off, rfl, hcc⟩ : ∃ b off, ta = some ⟨b, off, none⟩ ∧ ∀ i m r u, M.all[i]? = some m → (txC m)[r]? = some u → wr.cell? ⟨b, off + (i * 9 + r), none⟩ = some u := by
              rcases hTx.held with h0 | h0
              · rw [h0] at hjl; simp at hjl
              · exact h0
            obtain ⟨⟨⟨site, seq, wall, count, d0, d1, d2, d3, tws⟩, wa, wk⟩, hm⟩ : ∃ m, M.all[j]? = some m := ⟨_, List.getElem?_eq_getElem hjl⟩
            have hHj : T.H[j]? = some ⟨site, seq, wall, count, d0, d1, d2, d3, tws⟩ := by
              rw [show T.H = M.all.map (·.t) from hal.symm, List.getElem?_map, hm]
              rfl
            have hsi := HIST.out.site (List.mem_of_getElem? hHj)
            have hsq := HIST.out.nth j _ hHj
            simp only at hsi hsq
            have g0 : 0 ≤ site := hsi.1
            have g4 : site < 4 := by omega
            have hcl := List.countP_le_length (p := fun x => decide (x.site = site)) (l := T.H.take j)
            have hcl2 := List.length_take_le j T.H
            have cx0 := show wr.cell? ⟨tb, off + j * 9, none⟩ = some (.int .i64 site) from hcc j _ 0 _ hm rfl
            have cx1 := show wr.cell? ⟨tb, off + j * 9 + 1, none⟩ = some (.int .i64 seq) from hcc j _ 1 _ hm rfl
            have va := vec_cell HB.out.2 hsi.1 hsi.2
            rw [cnt_at hsi.1 hsi.2] at va
            have vf := HB.out.2.free site.toNat (by show site.toNat < 4; omega)
            have hmx : ((cnt (T.H.take j) site : Nat) : Int) < seq := by omega
            have hlb := RB.lt
            have hlv := HB.out.2.lt
            have RN := HB.out.2.set site.toNat (.int .i64 seq) (by show site.toNat < 4; omega)
            rw [cnt_set hHj hsi.1 hsi.2 hsq] at RN
            have NX : Hid (RowL (wr.setCell ⟨w5.heap.size, site.toNat, none⟩ (.int .i64 seq)) w5.heap.size (cntC (T.H.take (j + 1))) ∧ Below w5.heap.size w5 (wr.setCell ⟨w5.heap.size, site.toNat, none⟩ (.int .i64 seq))) := ⟨RN, HB.out.1.setCell (p := ⟨w5.heap.size, site.toNat, none⟩) (Nat.le_refl _) _⟩
            clear hy htv hTx hal hWr hcc hm hHj hsi hsq RB RN hcl hcl2
            go_wp2_with fail
            go_region
            all_goals
              have NXd : Hid (Below w5.heap.size w5 (wr.setCell ⟨w5.heap.size, site.toNat, none⟩ (.int .i64 seq)).drew ∧ RowL (wr.setCell ⟨w5.heap.size, site.toNat, none⟩ (.int .i64 seq)).drew w5.heap.size (cntC (T.H.take (j + 1)))) := ⟨NX.out.2.drew, NX.out.1.drew⟩
              clear cx0 cx1 va vf hlb hlv NX b3
              go_wp2_with fail
              go_roundw
              case rel => exact ⟨j + 1, y + 1, by omega, by have := HY.out; omega, by go_num, NXd.out⟩
              case measure => simp [intOf]; have := HY.out; omega
          · have i1 : ¬ y < (M.all.length : Int) := by omega
            have ej : T.H.take j = T.H := List.take_of_length_le (by rw [show T.H = M.all.map (·.t) from hal.symm, List.length_map]; omega)
            obtain ⟨w6, hw6⟩ : ∃ w6, w6 = wr := ⟨_, rfl⟩
            subst hw6
            have H6 : Hid (TaAt w3 G b M (setW T W2) NoY w6 ∧ RowL w6 w5.heap.size (cntC T.H) ∧ Below w.heap.size w w6) := ⟨H5H.out.1.later HB.out.1, by have := HB.out.2; rw [ej] at this; exact this, behind H5H.out.2.2 HB.out.1⟩
            clear hy htv hTx hal hWr RB HB ej
            go_wp2_with fail
            clear b3
            go_loopw [11] (fun kv wr => ∃ (k : Nat) (x : Int), k ≤ W2.n ∧ x = k ∧ kv = .int .i64 x ∧ Hid (Below w6.heap.size w6 wr)) (fun kv _ => W2.n - (intOf kv).toNat)
            case atStart => exact ⟨0, 0, by omega, rfl, rfl, Below.refl _ _⟩
            case round =>
              obtain ⟨k, x, hk, hx, rfl, HB⟩ := hrel
              have HX : Hid (x = k) := hx
              have RB := (H6.out.1.later HB.out).box
              have b0 := RB.cell 0 _ rfl
              have b1 := RB.cell 1 _ rfl
              rw [show (setW T W2).W.n = W2.n from rfl] at b1
              by_cases hkl : k < W2.n
              · have q1 : x < (W2.n : Int) := by omega
                have q3 : 0 ≤ x := by omega
                obtain ⟨Gw6, PW6, _⟩ := (H6.out.1.later HB.out).wo
                have SI := pw_site wr PW6 H5H.out.2.1 hkl
                obtain ⟨m0, m1, m2, m3, m4, m5⟩ := MT.out k hkl
                have HTO : Hid (∀ i : Nat, i < 8 → toldV (W2.S k).a0 (W2.S k).a1 (W2.S k).a2 (W2.S k).a3 (W2.S k).l (i : Int) = toldV (cnt T.H 0) (cnt T.H 1) (cnt T.H 2) (cnt T.H 3) (histL T.H) (i : Int)) := fun i _ => m5 i
                rw [← HX.out] at SI
                have SI2 : Hid (Calls Tryz.prog 14 #[.pointer (some ⟨M.wb, 0, none⟩), .int .i64 x] wr fun e w' => ∃ vb vc many, e = .returned (.tuple #[.agg #[.int .i64 (cnt T.H 0 : Int), .int .i64 (cnt T.H 1 : Int), .int .i64 (cnt T.H 2 : Int), .int .i64 (cnt T.H 3 : Int)], .int .i64 0, .slice (some ⟨vb, 0, none⟩) 8 vc, .int .i64 many, .nilIface]) ∧ Hid ((∀ i, i < 8 → w'.cell? ⟨vb, i, none⟩ = some (.string (toldV (cnt T.H 0) (cnt T.H 1) (cnt T.H 2) (cnt T.H 3) (histL T.H) (i : Int)))) ∧ 8 ≤ vc ∧ Below wr.heap.size wr w')) := SI.mono fun e w' ⟨v, he, hown, hb⟩ => by
                  obtain ⟨vb, vc, rfl, hcell, hvc⟩ := own8T hown
                  have he' : e = .returned (.tuple #[.agg #[.int .i64 (W2.S k).a0, .int .i64 (W2.S k).a1, .int .i64 (W2.S k).a2, .int .i64 (W2.S k).a3], .int .i64 ((W2.S k).waits.length : Int), .slice (some ⟨vb, 0, none⟩) 8 vc, .int .i64 ((W2.S k).l.length : Int), .nilIface]) := he
                  refine ⟨vb, vc, ((W2.S k).l.length : Int), ?_, fun i hi => ?_, hvc, hb⟩
                  · rw [he', m0, m1, m2, m3, m4]
                    rfl
                  · rw [← HTO.out i hi]
                    exact hcell i _ (told_atT hi)
                have ne := neVecT (cnt T.H 0 : Int) (cnt T.H 1 : Int) (cnt T.H 2 : Int) (cnt T.H 3 : Int)
                have RC := H6.out.2.1.later HB.out
                clear hx SI m0 m1 m2 m3 m4 m5 PW6 HTO
                go_wp2_with fail
                refine SI2.out.mono ?_
                rintro e w7 ⟨vb, vc, many, rfl, H7⟩
                have RC7 := RC.later H7.out.2.2
                have v0 := RC7.cell 0 _ rfl
                have v1 := RC7.cell 1 _ rfl
                have v2 := RC7.cell 2 _ rfl
                have v3 := RC7.cell 3 _ rfl
                have lv7 := RC7.lt
                obtain ⟨w8, hw8⟩ : ∃ w8, w7.alloc (.cells #[.int .i64 (cnt T.H 0 : Int), .int .i64 (cnt T.H 1 : Int), .int .i64 (cnt T.H 2 : Int), .int .i64 (cnt T.H 3 : Int)] 47) = w8 := ⟨_, rfl⟩
                have hb78 : Below w7.heap.size w7 w8 := by rw [← hw8]; exact boxed (Below.refl _ w7) _
                have RV8 : RowL w8 w7.heap.size [.int .i64 (cnt T.H 0 : Int), .int .i64 (cnt T.H 1 : Int), .int .i64 (cnt T.H 2 : Int), .int .i64 (cnt T.H 3 : Int)] := by rw [← hw8]; exact RowL.new (w := w7) (T := 47) [.int .i64 (cnt T.H 0 : Int), .int .i64 (cnt T.H 1 : Int), .int .i64 (cnt T.H 2 : Int), .int .i64 (cnt T.H 3 : Int)] rfl
                have y0 := RV8.cell 0 _ rfl
                have y1 := RV8.cell 1 _ rfl
                have y2 := RV8.cell 2 _ rfl
                have y3 := RV8.cell 3 _ rfl
                have RC8 := RC7.later hb78
                have v0' := RC8.cell 0 _ rfl
                have v1' := RC8.cell 1 _ rfl
                have v2' := RC8.cell 2 _ rfl
                have v3' := RC8.cell 3 _ rfl
                have H8 : Hid (Below w6.heap.size w6 w8 ∧ RowL w8 w5.heap.size (cntC T.H) ∧ (∀ i, i < 8 → w8.cell? ⟨vb, i, none⟩ = some (.string (toldV (cnt T.H 0) (cnt T.H 1) (cnt T.H 2) (cnt T.H 3) (histL T.H) (i : Int)))) ∧ 8 ≤ vc) := ⟨behind HB.out (behind H7.out.2.2 hb78), RC8, fun i hi => cell_later hb78 (H7.out.1 i hi), H7.out.2.1⟩
                clear RC RC7 v0 v1 v2 v3 hb78 RV8 RC8 lv7
                go_wp2_with fail
                clear y0 y1 y2 y3 v0' v1' v2' v3' hw8
                go_loopw [17] (fun qv wr => ∃ (q : Nat) (u : Int), q ≤ 8 ∧ u = q ∧ qv = .int .i64 u ∧ Hid (Below w8.heap.size w8 wr)) (fun qv _ => 8 - (intOf qv).toNat)
                case atStart => exact ⟨0, 0, by omega, rfl, rfl, Below.refl _ _⟩
                case round =>
                  obtain ⟨q, u, hq, hu, rfl, HQ⟩ := hrel
                  have HU : Hid (u = q) := hu
                  by_cases hql : q < 8
                  · have i1 : u < 8 := by omega
                    have i2 : u.toNat = q := by omega
                    have i3 : 0 ≤ u := by omega
                    have H9 : Hid (Below w6.heap.size w6 wr) := behind H8.out.1 HQ.out
                    obtain ⟨ta, tc, htv, hTx, hal, hWr⟩ := (H6.out.1.later H9.out).txs
                    have RB9 := (H6.out.1.later H9.out).box
                    have b3 := RB9.cell 3 _ rfl
                    rw [htv] at b3
                    have LA := talast_any u (cnt T.H 0 : Int) (cnt T.H 1 : Int) (cnt T.H 2 : Int) (cnt T.H 3 : Int) wr b3 hTx hWr (fun x hx => HIST.out.site (by rw [show T.H = M.all.map (·.t) from hal.symm]; exact List.mem_map.2 ⟨x, hx, rfl⟩))
                    rw [show M.all.map (·.t) = T.H from hal] at LA
                    have ET := told_last T.H i3 i1 (cnt T.H 0 : Int) (cnt T.H 1 : Int) (cnt T.H 2 : Int) (cnt T.H 3 : Int)
                    have HC := cell_later HQ.out (H8.out.2.2.1 q hql)
                    rw [← HU.out, ET] at HC
                    obtain ⟨⟨ld, lk⟩, hld⟩ : ∃ x, lastT T.H u (cnt T.H 0 : Int) (cnt T.H 1 : Int) (cnt T.H 2 : Int) (cnt T.H 3 : Int) = x := ⟨_, rfl⟩
                    have hsm := lastT_small HIST.out u (cnt T.H 0 : Int) (cnt T.H 1 : Int) (cnt T.H 2 : Int) (cnt T.H 3 : Int)
                    rw [hld] at LA HC hsm
                    simp only at LA HC hsm
                    have ad := fun w => addS (P := Tryz.prog) (⟨#[61]⟩ : ByteArray) ld (by have z : (⟨#[61]⟩ : ByteArray).size = 1 := rfl; omega) w
                    have RC9 := H8.out.2.1.later HQ.out
                    have v0 := RC9.cell 0 _ rfl
                    have v1 := RC9.cell 1 _ rfl
                    have v2 := RC9.cell 2 _ rfl
                    have v3 := RC9.cell 3 _ rfl
                    have hvc := H8.out.2.2.2
                    clear hu htv hTx hal hWr RB9 b3 ET hld RC9
                    go_wp2_with fail
                    refine LA.mono ?_
                    rintro e w10 ⟨rfl, hb10⟩
                    have NX : Hid (Below w8.heap.size w8 w10) := behind HQ.out hb10
                    have HC10 := cell_later hb10 HC
                    clear LA v0 v1 v2 v3 HC hb10
                    cases lk with
                    | true =>
                      rw [if_pos rfl] at HC10
                      go_wp2_with fail
                      go_roundw
                      case rel => exact ⟨q + 1, u + 1, by omega, by have := HU.out; omega, by go_num, NX.out⟩
                      case measure => simp [intOf]; have := HU.out; omega
                    | false =>
                      rw [if_neg (by decide)] at HC10
                      go_wp2_with fail
                      go_roundw
                      case rel => exact ⟨q + 1, u + 1, by omega, by have := HU.out; omega, by go_num, NX.out⟩
                      case measure => simp [intOf]; have := HU.out; omega
                  · have i1 : ¬ u < 8 := by omega
                    have NX : Hid (Below w6.heap.size w6 wr) := behind H8.out.1 HQ.out
                    clear hu
                    go_wp2_with fail
                    go_roundw
                    case rel => exact ⟨k + 1, x + 1, by omega, by have := HX.out; omega, by go_num, NX.out⟩
                    case measure => simp [intOf]; have := HX.out; omega
              · have q1 : ¬ x < (W2.n : Int) := by omega
                clear hx
                go_wp2_with fail
                go_ret
                exact ⟨rfl, behind H6.out.2.2 HB.out⟩

end Go.Proofs.YtemiamjnhoeniaaGreatDoor

