/-
  'copsekeep.WorldCausal', as the model runs it: true, whatever its arguments are.
-/
import Derived.Test.YtemiamjnhoeniaaGreatDoorSiteI
import Derived.Test.YtemiamjnhoeniaaGreatDoorTaDoes
namespace Go.Proofs.YtemiamjnhoeniaaGreatDoor
open Go.RowKit

set_option maxRecDepth 1000000 in
set_option maxHeartbeats 64000000 in
theorem causal_walk (sites clients : Int) (a : Option Addr) (cap : Nat) (l : List ActS) (w : World) (hD : ActIn w a cap l) (hg : w.cell? ⟨0, 0, none⟩ = some (.iface 209 (.agg #[.pointer (some ⟨1, 25, none⟩)]))) :
    Calls Tryz.prog 4 #[.int .i64 sites, .int .i64 clients, .slice a l.length cap] w fun e w' => e = .returned (.bool true) ∧ Below w.heap.size w w' := by
  have hne := Later.one
  have HG : Hid (w.cell? ⟨0, 0, none⟩ = some (.iface 209 (.agg #[.pointer (some ⟨1, 25, none⟩)]))) := hg
  clear hg
  by_cases h120 : 120 < (l.length : Int)
  · go_enter Tryz.func4, Tryz.ntmps4
    go_wp2_with fail
    go_ret
    exact ⟨rfl, Below.refl _ _⟩
  · have LV := lived_any w
    go_enter Tryz.func4, Tryz.ntmps4
    go_wp2_with fail
    refine LV.mono ?_
    rintro e w1 ⟨rfl, hb1⟩
    have TT := tatells_any sites clients w1
    clear LV
    go_wp2_with fail
    refine TT.mono ?_
    rintro e w2 ⟨rfl, G2, hT2, hG2, hb2⟩
    clear TT
    obtain ⟨b, hb⟩ : ∃ b, w1.heap.size = b := ⟨_, rfl⟩
    have N0 : Hid (NewTA w b (newT (1 + pickN sites 4) (1 + pickN clients 6)) w2 ∧ TI (fun _ => ⟨0, 0, 0, 0⟩) (newT (1 + pickN sites 4) (1 + pickN clients 6)) (newT (1 + pickN sites 4) (1 + pickN clients 6)) 0) := by
      have p1 := pickN_lt sites (n := 4) (by decide)
      have p2 := pickN_lt clients (n := 6) (by decide)
      have s1 := hb1.size
      exact ⟨⟨behind hb1 hb2, G2, by rw [← hb]; exact hT2, fun k hk => by have := hG2 k hk; omega⟩, TI.new (by omega) (by omega) (by omega) (by omega)⟩
    rw [hb]
    clear hb hT2 hG2 hb1 hb2
    go_wp2_with fail
    go_loopw [8] (fun iv wr => ∃ (i : Nat) (z : Int) (T Tg : TaleS) (base : Nat → V4), i ≤ l.length ∧ z = i ∧ iv = .int .i64 z ∧ Hid (NewTA w b T wr ∧ TI base Tg T i)) (fun iv _ => l.length - (intOf iv).toNat)
    case atStart => exact ⟨0, 0, _, _, _, by omega, rfl, rfl, N0.out⟩
    case round =>
      clear N0
      obtain ⟨i, z, T, Tg, base, hi, hz, rfl, HS⟩ := hrel
      have HZ : Hid (z = i) := hz
      by_cases hlt : i < l.length
      · have g1 : z < (l.length : Int) := by omega
        have g2 : z.toNat = i := by omega
        have g3 : 0 ≤ z := by omega
        clear hz
        obtain ⟨M, G, hT, hTA, hGn, hbW⟩ := HS.out.1.start
        obtain ⟨ab, ao, what, ak, an, ad, ag, rfl, _, x0, x1, x2, x3, x4⟩ := (hD.later hbW).at hlt
        by_cases h50 : 50 < (ad.size : Int)
        · have NX : Hid (NewTA w b T wr ∧ TI base Tg T (i + 1)) := ⟨HS.out.1, HS.out.2.more (by omega)⟩
          clear hT hTA hGn hbW
          go_wp2_with fail
          go_roundw
          case rel => exact ⟨i + 1, z + 1, T, Tg, base, by omega, by have := HZ.out; omega, by go_num, NX.out⟩
          case measure => simp [intOf]; have := HZ.out; omega
        · have DO := tadoes_any wr hTA HS.out.2 (by omega) ⟨what, ak, an, ad, ag⟩ true (cell_later hbW HG.out)
          simp only at DO
          clear hT
          go_wp2_with fail
          refine DO.mono ?_
          rintro e w3 ⟨rfl, T', hd, hp⟩
          obtain ⟨base', Tg', _, hI'⟩ := HS.out.2.does (by omega) hd
          have N3 : Hid (NewTA w b T' w3 ∧ TI base' Tg' T' (i + 1)) := ⟨NewTA.left hbW hGn hp, hI'⟩
          obtain ⟨M3, G3, hT3, hTA3, hGn3, hb3⟩ := N3.out.1.start
          have HT3 : Hid (TaAt w3 G3 b M3 T' NoY w3 ∧ TI base' Tg' T' (i + 1)) := ⟨hT3, hI'⟩
          have hc6 : T'.W.c ≤ 6 := hI'.wf.c6
          clear DO HS hTA hGn hbW hp hd hI' hT3 hTA3 hGn3 hb3 x0 x1 x2 x3 x4
          go_wp2_with fail
          go_loopw [9] (fun kv wr => ∃ (k : Nat) (y : Int), k ≤ T'.W.c ∧ y = k ∧ kv = .int .i64 y ∧ Hid (Below w3.heap.size w3 wr)) (fun kv _ => T'.W.c - (intOf kv).toNat)
          case atStart => exact ⟨0, 0, by omega, rfl, rfl, Below.refl _ _⟩
          case round =>
            obtain ⟨k, y, hk, hy, rfl, HB⟩ := hrel
            have HY : Hid (y = k) := hy
            have RB := (HT3.out.1.later HB.out).box
            have b0 := RB.cell 0 _ rfl
            have b2 := RB.cell 2 _ rfl
            by_cases hkl : k < T'.W.c
            · have j1 : y < (T'.W.c : Int) := by omega
              have j3 : 0 ≤ y := by omega
              obtain ⟨Gw, PWr, _⟩ := (HT3.out.1.later HB.out).wo
              have CL := pw_client wr PWr hkl
              rw [← HY.out] at CL
              obtain ⟨⟨p0, p1, p2, p3, opn, s0, s1, s2, s3, ws⟩, hses⟩ : ∃ s, T'.W.ses k = s := ⟨_, rfl⟩
              have HSE : Hid (T'.W.ses k = ⟨p0, p1, p2, p3, opn, s0, s1, s2, s3, ws⟩) := hses
              rw [hses] at CL
              simp only at CL
              clear hy hses PWr
              go_wp2_with fail
              refine CL.mono ?_
              rintro e w4 ⟨rfl, hb4⟩
              obtain ⟨w5, hw5, hb5, _, RS, _⟩ := vecs2_is w4 p0 p1 p2 p3 s0 s1 s2 s3
              have H5 : Hid (Below w3.heap.size w3 w5 ∧ RowL w5 (w4.heap.size + 1) [.int .i64 s0, .int .i64 s1, .int .i64 s2, .int .i64 s3]) := ⟨behind HB.out (behind hb4 hb5), RS⟩
              clear CL RB b0 b2 hb4 hb5 RS
              go_wp2_with fail
              clear hw5
              go_loopw [15] (fun jv wr => ∃ (j : Nat) (x : Int), j ≤ M3.all.length ∧ x = j ∧ jv = .int .i64 x ∧ Hid (Below w3.heap.size w3 wr ∧ RowL wr (w4.heap.size + 1) [.int .i64 s0, .int .i64 s1, .int .i64 s2, .int .i64 s3])) (fun jv _ => M3.all.length - (intOf jv).toNat)
              case atStart => exact ⟨0, 0, by omega, rfl, rfl, H5.out⟩
              case round =>
                clear H5
                obtain ⟨j, x, hj, hx, rfl, HX⟩ := hrel
                have HXJ : Hid (x = j) := hx
                obtain ⟨ta, tc, htv, hTx, hal, hWr⟩ := (HT3.out.1.later HX.out.1).txs
                have RB := (HT3.out.1.later HX.out.1).box
                have b3 := RB.cell 3 _ rfl
                rw [htv] at b3
                have hal3 := hTx.len
                have hac3 := hTx.cap
                have NEXT : Hid (Below w3.heap.size w3 wr) := HX.out.1
                by_cases hjl : j < M3.all.length
                · have i1 : decide (x < (M3.all.length : Int)) = true := decide_eq_true (by omega)
                  have i1' : x < (M3.all.length : Int) := by omega
                  have i2 : x.toNat = j := by omega
                  have i3 : 0 ≤ x := by omega
                  cases opn with
                  | false =>
                    clear hx htv hTx hal hWr
                    go_wp2_with fail
                    go_roundw
                    case rel => exact ⟨k + 1, y + 1, by omega, by have := HY.out; omega, by go_num, NEXT.out⟩
                    case measure => simp [intOf]; have := HY.out; omega
                  | true =>
                    obtain ⟨tb, off, rfl, hcc⟩ : ∃ b off, ta = some ⟨b, off, none⟩ ∧ ∀ i m r u, M3.all[i]? = some m → (txC m)[r]? = some u → wr.cell? ⟨b, off + (i * 9 + r), none⟩ = some u := by
                      rcases hTx.held with h0 | h0
                      · rw [h0] at hjl; simp at hjl
                      · exact h0
                    obtain ⟨⟨⟨site, seq, wall, count, d0, d1, d2, d3, tws⟩, wa, wk⟩, hm⟩ : ∃ m, M3.all[j]? = some m := ⟨_, List.getElem?_eq_getElem hjl⟩
                    have hmem : (⟨site, seq, wall, count, d0, d1, d2, d3, tws⟩ : TxP) ∈ T'.H := by
                      rw [← hal]
                      exact List.mem_map.2 ⟨_, List.mem_of_getElem? hm, rfl⟩
                    have hsi := HT3.out.2.gi.hist.site (by rw [← HT3.out.2.eH]; exact hmem)
                    simp only at hsi
                    have g0 : 0 ≤ site := hsi.1
                    have g4 : site < 4 := by omega
                    have L3 := Later.cell b3
                    have c0 := Later.cell (show wr.cell? ⟨tb, off + j * 9, none⟩ = some (.int .i64 site) from hcc j _ 0 _ hm rfl)
                    have c1 := Later.cell (show wr.cell? ⟨tb, off + j * 9 + 1, none⟩ = some (.int .i64 seq) from hcc j _ 1 _ hm rfl)
                    have c4 := Later.cell (show wr.cell? ⟨tb, off + j * 9 + 4, none⟩ = some (.int .i64 d0) from hcc j _ 4 _ hm rfl)
                    have c5 := Later.cell (show wr.cell? ⟨tb, off + j * 9 + 5, none⟩ = some (.int .i64 d1) from hcc j _ 5 _ hm rfl)
                    have c6 := Later.cell (show wr.cell? ⟨tb, off + j * 9 + 6, none⟩ = some (.int .i64 d2) from hcc j _ 6 _ hm rfl)
                    have c7 := Later.cell (show wr.cell? ⟨tb, off + j * 9 + 7, none⟩ = some (.int .i64 d3) from hcc j _ 7 _ hm rfl)
                    have v0 := Later.cell (HX.out.2.cell 0 _ rfl)
                    have v1 := Later.cell (HX.out.2.cell 1 _ rfl)
                    have v2 := Later.cell (HX.out.2.cell 2 _ rfl)
                    have v3 := Later.cell (HX.out.2.cell 3 _ rfl)
                    have vs := Later.cell (vec_cell HX.out.2 hsi.1 hsi.2)
                    have CLO : Hid (seq ≤ depOf site s0 s1 s2 s3 → covB s0 s1 s2 s3 d0 d1 d2 d3 = true) := fun hle => by
                      have hkg : k < Tg'.W.c := by rw [← HT3.out.2.sim.c]; exact hkl
                      have := HT3.out.2.closed hkg (by rw [HSE.out]) hmem (by rw [HSE.out]; exact hle)
                      rw [HSE.out] at this
                      exact this
                    clear hx htv hTx hal hWr hcc hm hmem hsi RB
                    by_cases hle : seq ≤ depOf site s0 s1 s2 s3
                    · have dl : decide (seq ≤ depOf site s0 s1 s2 s3) = true := decide_eq_true hle
                      have HC2 : Hid (covB s0 s1 s2 s3 d0 d1 d2 d3 = true) := CLO.out hle
                      clear hle CLO
                      go_wp2_with fail
                      refine wp_region_later (by kernel_rfl) (by kernel_rfl) ?_
                      repeat (go_big_quiet_step (first | rfl | (go_at_call 21; with_reducible exact calls_later (covers_is HC2.out _))))
                      refine wpQuiet_nil ?_
                      rintro w10 ⟨⟨_, hbT⟩, rfl⟩
                      have NX : Hid (Below w3.heap.size w3 w10 ∧ RowL w10 (w4.heap.size + 1) [.int .i64 s0, .int .i64 s1, .int .i64 s2, .int .i64 s3]) := ⟨behind HX.out.1 hbT, HX.out.2.later hbT⟩
                      clear L3 c0 c1 c4 c5 c6 c7 v0 v1 v2 v3 vs hbT
                      go_wp2_with fail
                      go_roundw
                      case rel => exact ⟨j + 1, x + 1, by omega, by have := HXJ.out; omega, by go_num, NX.out⟩
                      case measure => simp [intOf]; have := HXJ.out; omega
                    · have dl : decide (seq ≤ depOf site s0 s1 s2 s3) = false := decide_eq_false hle
                      clear hle CLO
                      go_wp2_with fail
                      refine wp_region_later (by kernel_rfl) (by kernel_rfl) ?_
                      repeat (go_big_quiet_step (first | rfl | fail))
                      refine wpQuiet_nil ?_
                      rintro w10 ⟨⟨_, hbT⟩, rfl⟩
                      have NX : Hid (Below w3.heap.size w3 w10 ∧ RowL w10 (w4.heap.size + 1) [.int .i64 s0, .int .i64 s1, .int .i64 s2, .int .i64 s3]) := ⟨behind HX.out.1 hbT, HX.out.2.later hbT⟩
                      clear L3 c0 c1 c4 c5 c6 c7 v0 v1 v2 v3 vs hbT
                      go_wp2_with fail
                      go_roundw
                      case rel => exact ⟨j + 1, x + 1, by omega, by have := HXJ.out; omega, by go_num, NX.out⟩
                      case measure => simp [intOf]; have := HXJ.out; omega
                · have i1 : decide (x < (M3.all.length : Int)) = false := decide_eq_false (by omega)
                  have i1' : ¬ x < (M3.all.length : Int) := by omega
                  clear hx htv hTx hal hWr
                  go_wp2_with fail
                  go_roundw
                  case rel => exact ⟨k + 1, y + 1, by omega, by have := HY.out; omega, by go_num, NEXT.out⟩
                  case measure => simp [intOf]; have := HY.out; omega
            · have j1 : ¬ y < (T'.W.c : Int) := by omega
              have NX : Hid (NewTA w b T' wr ∧ TI base' Tg' T' (i + 1)) := ⟨N3.out.1.later HB.out, N3.out.2⟩
              clear hy
              go_wp2_with fail
              go_roundw
              case rel => exact ⟨i + 1, z + 1, T', Tg', base', by omega, by have := HZ.out; omega, by go_num, NX.out⟩
              case measure => simp [intOf]; have := HZ.out; omega
      · have g1 : ¬ z < (l.length : Int) := by omega
        obtain ⟨M3, G3, hT3, hTA3, hGn3, hb3⟩ := HS.out.1.start
        have HT3 : Hid (TaAt wr G3 b M3 T NoY wr ∧ TI base Tg T i ∧ TA wr b G3 T ∧ Below w.heap.size w wr) := ⟨hT3, HS.out.2, hTA3, hb3⟩
        have hc6 : T.W.c ≤ 6 := HS.out.2.wf.c6
        obtain ⟨w3, hw3⟩ : ∃ w3, w3 = wr := ⟨_, rfl⟩
        subst hw3
        clear hz HS hT3 hTA3 hGn3 hb3
        go_wp2_with fail
        go_loopw [16] (fun kv ws => ∃ (k : Nat) (y : Int), k ≤ T.W.c ∧ y = k ∧ kv = .int .i64 y ∧ Hid (Below w3.heap.size w3 ws)) (fun kv _ => T.W.c - (intOf kv).toNat)
        case atStart => exact ⟨0, 0, by omega, rfl, rfl, Below.refl _ _⟩
        case round =>
          obtain ⟨k, y, hk, hy, rfl, HB⟩ := hrel
          have HY : Hid (y = k) := hy
          have RB := (HT3.out.1.later HB.out).box
          have b2 := RB.cell 2 _ rfl
          by_cases hkl : k < T.W.c
          · have j1 : y < (T.W.c : Int) := by omega
            have j3 : 0 ≤ y := by omega
            clear hy
            go_wp2_with fail
            go_loopw [17] (fun qv wt => ∃ (q : Nat) (x : Int), q ≤ 8 ∧ x = q ∧ qv = .int .i64 x ∧ Hid (Below w3.heap.size w3 wt)) (fun qv _ => 8 - (intOf qv).toNat)
            case atStart => exact ⟨0, 0, by omega, rfl, rfl, HB.out⟩
            case round =>
              obtain ⟨q, x, hq, hx, rfl, HX⟩ := hrel
              have HXJ : Hid (x = q) := hx
              by_cases hql : q < 8
              · have i1 : x < 8 := by omega
                have i3 : 0 ≤ x := by omega
                have RD := tareads_any _ (HT3.out.2.2.1.later HX.out) HT3.out.2.1 hkl hql (cell_later (behind HT3.out.2.2.2 HX.out) HG.out)
                rw [← HY.out, ← HXJ.out] at RD
                clear hx
                go_wp2_with fail
                refine RD.mono ?_
                rintro e w5 ⟨rfl, hb5⟩
                have NX : Hid (Below w3.heap.size w3 w5) := behind HX.out hb5
                clear RD hb5
                go_wp2_with fail
                go_roundw
                case rel => exact ⟨q + 1, x + 1, by omega, by have := HXJ.out; omega, by go_num, NX.out⟩
                case measure => simp [intOf]; have := HXJ.out; omega
              · have i1 : ¬ x < 8 := by omega
                clear hx
                go_wp2_with fail
                go_roundw
                case rel => exact ⟨k + 1, y + 1, by omega, by have := HY.out; omega, by go_num, HX.out⟩
                case measure => simp [intOf]; have := HY.out; omega
          · have j1 : ¬ y < (T.W.c : Int) := by omega
            clear hy
            go_wp2_with fail
            go_ret
            exact ⟨rfl, behind HT3.out.2.2.2 HB.out⟩

end Go.Proofs.YtemiamjnhoeniaaGreatDoor

