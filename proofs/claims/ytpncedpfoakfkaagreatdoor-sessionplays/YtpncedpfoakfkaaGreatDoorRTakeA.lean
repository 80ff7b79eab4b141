/-
  Which of those that wait is the next, at a site of the document (copseref.Site.Take's inner loop), as the model runs it, whatever the rest of the frame is.
-/
import Derived.Test.YtpncedpfoakfkaaGreatDoorSiteI
namespace Go.Proofs.YtpncedpfoakfkaaGreatDoor
open Go.RowKit

noncomputable def takeL4 : Code := ((Tryz.f12.body.bind (findLoop 19)).getD .skip)

set_option maxRecDepth 1000000 in
set_option maxHeartbeats 16000000 in
theorem takeL4_any {b : Nat} {S : SiteS} {lv sv : Value} {va : Option Addr} {vc : Nat} {log waits : List TxM} {y1 y2 y3 y4 y5 y6 y7 y9 y10 y11 y12 y13 y14 y15 y16 y17 y18 y19 y20 y21 y22 y23 y24 y25 y26 y27 y28 y29 y30 y31 y32 y33 y34 y35 y36 y37 y38 y39 y40 y41 y42 y43 y44 y45 y46 y47 y48 y49 y50 y51 y52 y53 y54 y55 y56 y57 y58 y59 y60 y61 y62 y63 y64 y65 y66 y67 y68 y69 y70 y71 y72 y73 y74 y75 y76 y77 y78 y79 y80 y81 y82 y83 y84 y85 y86 y87 y88 y89 y90 y91 y92 y93 y94 y95 y96 y97 y98 y99 y100 y101 y102 y103 y104 y105 y106 y107 y108 y109 y110 y111 y112 y113 y114 y115 y116 y117 y118 y119 y123 y124 y125 y126 y127 y128 y129 y130 y131 y132 y133 y134 y135 y136 y137 y138 y139 y140 y141 y142 y143 y144 y145 y146 y147 y148 y149 y150 y151 y152 y153 y154 y155 y156 y157 y158 y159 y160 y161 y162 y163 y164 y165 y166 y167 y168 y169 y170 y171 y172 y173 y174 y175 y176 y177 y178 y179 y180 y181 y182 y183 y184 y185 y186 y187 y188 y189 y190 y191 y192 y193 y194 y195 y196 : Value} (w : World) (PM : SMem w b lv (.slice va waits.length vc) sv S log waits) (hw : waits.map (·.t) = S.waits) (hI : InvS S) (hn : waits.length ≤ 1000) (R : Act → World → Prop)
    (hR : ∀ (u9 u10 u122 u123 u124 u125 u126 u127 u128 u129 u130 u131 u132 u133 u134 u135 u136 u137 u138 u139 u140 u141 u142 u143 u144 u145 u146 u147 u148 u149 u150 u151 u152 u153 u154 u155 u156 u157 u158 u159 u160 u161 u162 u163 u164 u165 : Value) (z : Int) (w' : World), BestIs S waits waits.length z → Below w.heap.size w w' → R ⟨List.toArray ((.pointer (some ⟨b, 0, none⟩)) :: y1 :: y2 :: y3 :: y4 :: y5 :: y6 :: y7 :: (.int .i64 z) :: u9 :: u10 :: y11 :: y12 :: y13 :: y14 :: y15 :: y16 :: y17 :: y18 :: y19 :: y20 :: y21 :: y22 :: y23 :: y24 :: y25 :: y26 :: y27 :: y28 :: y29 :: y30 :: y31 :: y32 :: y33 :: y34 :: y35 :: y36 :: y37 :: y38 :: y39 :: y40 :: y41 :: y42 :: y43 :: y44 :: y45 :: y46 :: y47 :: y48 :: y49 :: y50 :: y51 :: y52 :: y53 :: y54 :: y55 :: y56 :: y57 :: y58 :: y59 :: y60 :: y61 :: y62 :: y63 :: y64 :: y65 :: y66 :: y67 :: y68 :: y69 :: y70 :: y71 :: y72 :: y73 :: y74 :: y75 :: y76 :: y77 :: y78 :: y79 :: y80 :: y81 :: y82 :: y83 :: y84 :: y85 :: y86 :: y87 :: y88 :: y89 :: y90 :: y91 :: y92 :: y93 :: y94 :: y95 :: y96 :: y97 :: y98 :: y99 :: y100 :: y101 :: y102 :: y103 :: y104 :: y105 :: y106 :: y107 :: y108 :: y109 :: y110 :: y111 :: y112 :: y113 :: y114 :: y115 :: y116 :: y117 :: y118 :: y119 :: (.slice va waits.length vc) :: (.int .i64 waits.length) :: u122 :: u123 :: u124 :: u125 :: u126 :: u127 :: u128 :: u129 :: u130 :: u131 :: u132 :: u133 :: u134 :: u135 :: u136 :: u137 :: u138 :: u139 :: u140 :: u141 :: u142 :: u143 :: u144 :: u145 :: u146 :: u147 :: u148 :: u149 :: u150 :: u151 :: u152 :: u153 :: u154 :: u155 :: u156 :: u157 :: u158 :: u159 :: u160 :: u161 :: u162 :: u163 :: u164 :: u165 :: y166 :: y167 :: y168 :: y169 :: y170 :: y171 :: y172 :: y173 :: y174 :: y175 :: y176 :: y177 :: y178 :: y179 :: y180 :: y181 :: y182 :: y183 :: y184 :: y185 :: y186 :: y187 :: y188 :: y189 :: y190 :: y191 :: y192 :: y193 :: y194 :: y195 :: y196 :: []), []⟩ w') :
    Code.wp Tryz.prog takeL4 (fun e a w => e = .exit 4 ∧ R a w) ⟨List.toArray ((.pointer (some ⟨b, 0, none⟩)) :: y1 :: y2 :: y3 :: y4 :: y5 :: y6 :: y7 :: (.int .i64 (-1)) :: y9 :: y10 :: y11 :: y12 :: y13 :: y14 :: y15 :: y16 :: y17 :: y18 :: y19 :: y20 :: y21 :: y22 :: y23 :: y24 :: y25 :: y26 :: y27 :: y28 :: y29 :: y30 :: y31 :: y32 :: y33 :: y34 :: y35 :: y36 :: y37 :: y38 :: y39 :: y40 :: y41 :: y42 :: y43 :: y44 :: y45 :: y46 :: y47 :: y48 :: y49 :: y50 :: y51 :: y52 :: y53 :: y54 :: y55 :: y56 :: y57 :: y58 :: y59 :: y60 :: y61 :: y62 :: y63 :: y64 :: y65 :: y66 :: y67 :: y68 :: y69 :: y70 :: y71 :: y72 :: y73 :: y74 :: y75 :: y76 :: y77 :: y78 :: y79 :: y80 :: y81 :: y82 :: y83 :: y84 :: y85 :: y86 :: y87 :: y88 :: y89 :: y90 :: y91 :: y92 :: y93 :: y94 :: y95 :: y96 :: y97 :: y98 :: y99 :: y100 :: y101 :: y102 :: y103 :: y104 :: y105 :: y106 :: y107 :: y108 :: y109 :: y110 :: y111 :: y112 :: y113 :: y114 :: y115 :: y116 :: y117 :: y118 :: y119 :: (.slice va waits.length vc) :: (.int .i64 waits.length) :: (.int .i64 0) :: y123 :: y124 :: y125 :: y126 :: y127 :: y128 :: y129 :: y130 :: y131 :: y132 :: y133 :: y134 :: y135 :: y136 :: y137 :: y138 :: y139 :: y140 :: y141 :: y142 :: y143 :: y144 :: y145 :: y146 :: y147 :: y148 :: y149 :: y150 :: y151 :: y152 :: y153 :: y154 :: y155 :: y156 :: y157 :: y158 :: y159 :: y160 :: y161 :: y162 :: y163 :: y164 :: y165 :: y166 :: y167 :: y168 :: y169 :: y170 :: y171 :: y172 :: y173 :: y174 :: y175 :: y176 :: y177 :: y178 :: y179 :: y180 :: y181 :: y182 :: y183 :: y184 :: y185 :: y186 :: y187 :: y188 :: y189 :: y190 :: y191 :: y192 :: y193 :: y194 :: y195 :: y196 :: []), []⟩ w := by
  have HR : Hid _ := hR
  clear hR
  have HPM : Hid (SMem w b lv (.slice va waits.length vc) sv S log waits ∧ waits.map (·.t) = S.waits ∧ InvS S) := ⟨PM, hw, hI⟩
  have HVT : Hid (TxsIn w va vc waits) := by
    obtain ⟨a9, c9, e9, h9⟩ := txsIn_own PM.rwait
    injection e9 with e1 e2 e3
    rw [e1, e3]
    exact h9
  have hvl := HVT.out.len
  have hvc := HVT.out.cap
  have hne := Later.one
  clear PM hw hI
  conv => arg 2; whnf
  go_loopw [8, 122] (fun bv iv wr => ∃ (k : Nat) (z zb : Int), k ≤ waits.length ∧ z = k ∧ bv = .int .i64 zb ∧ iv = .int .i64 z ∧ Hid (BestIs S waits k zb) ∧ Below w.heap.size w wr) (fun _ i _ => waits.length - (intOf i).toNat)
  case atStart => exact ⟨0, 0, -1, by omega, rfl, rfl, rfl, best_start S waits, Below.refl _ _⟩
  case round =>
    obtain ⟨k, z, zb, hk, hz, rfl, rfl, HB, hbr⟩ := hrel
    have HZ : Hid (z = k) := hz
    by_cases hlt : k < waits.length
    · have g1 : z < (waits.length : Int) := by omega
      have g2 : z.toNat = k := by omega
      have g3 : 0 ≤ z := by omega
      clear hz
      obtain ⟨wb, off, hwa, hcc⟩ : ∃ wb off, va = some ⟨wb, off, none⟩ ∧ ∀ i m r u, waits[i]? = some m → (txC m)[r]? = some u → w.cell? ⟨wb, off + (i * 9 + r), none⟩ = some u := by
        rcases HVT.out.held with e | e
        · rw [e] at hlt; simp at hlt
        · exact e
      obtain ⟨⟨⟨xs, xq, xw, xc, e0, e1, e2, e3, xws⟩, xa, xcap⟩, hx⟩ : ∃ m, waits[k]? = some m := ⟨waits[k], List.getElem?_eq_getElem hlt⟩
      have HX : Hid (waits[k]? = some ⟨⟨xs, xq, xw, xc, e0, e1, e2, e3, xws⟩, xa, xcap⟩) := hx
      have hok := (HPM.out.2.2.wt ⟨xs, xq, xw, xc, e0, e1, e2, e3, xws⟩ (by rw [← HPM.out.2.1]; exact List.mem_map.2 ⟨_, List.mem_of_getElem? hx, rfl⟩)).1
      obtain ⟨⟨s0, s3⟩, _, _⟩ := okT_parts hok
      simp only at s0 s3
      have s4 : xs < 4 := by omega
      have cc := fun r u (hu : (txC ⟨⟨xs, xq, xw, xc, e0, e1, e2, e3, xws⟩, xa, xcap⟩)[r]? = some u) => (show wr.cell? ⟨wb, off + k * 9 + r, none⟩ = some u by rw [Nat.add_assoc]; exact cell_later hbr (hcc k _ r u hx hu))
      have x0 := cc 0 _ rfl
      have x1 := cc 1 _ rfl
      have x2 := cc 2 _ rfl
      have x3 := cc 3 _ rfl
      have x4 := cc 4 _ rfl
      have x5 := cc 5 _ rfl
      have x6 := cc 6 _ rfl
      have x7 := cc 7 _ rfl
      have x8 := cc 8 _ rfl
      rw [Nat.add_zero] at x0
      have hb1 := boxed hbr (.cells #[.int .i64 xs, .int .i64 xq, .int .i64 xw, .int .i64 xc, .int .i64 e0, .int .i64 e1, .int .i64 e2, .int .i64 e3, .slice xa xws.length xcap] 44)
      have RX := RowL.new (w := wr) (T := 44) [.int .i64 xs, .int .i64 xq, .int .i64 xw, .int .i64 xc, .int .i64 e0, .int .i64 e1, .int .i64 e2, .int .i64 e3, .slice xa xws.length xcap] rfl
      change RowL (wr.alloc (.cells #[.int .i64 xs, .int .i64 xq, .int .i64 xw, .int .i64 xc, .int .i64 e0, .int .i64 e1, .int .i64 e2, .int .i64 e3, .slice xa xws.length xcap] 44)) wr.heap.size [.int .i64 xs, .int .i64 xq, .int .i64 xw, .int .i64 xc, .int .i64 e0, .int .i64 e1, .int .i64 e2, .int .i64 e3, .slice xa xws.length xcap] at RX
      have PM1 := HPM.out.1.later hb1
      have t0 := Later.cell (RX.cell 0 _ rfl)
      have t1 := Later.cell (RX.cell 1 _ rfl)
      have t4 := Later.cell (RX.cell 4 _ rfl)
      have t5 := Later.cell (RX.cell 5 _ rfl)
      have t6 := Later.cell (RX.cell 6 _ rfl)
      have t7 := Later.cell (RX.cell 7 _ rfl)
      have ks := Later.cell (site_at PM1.box s0 s3)
      have k1 := Later.cell (PM1.box.cell 1 _ rfl)
      have k2 := Later.cell (PM1.box.cell 2 _ rfl)
      have k3 := Later.cell (PM1.box.cell 3 _ rfl)
      have k4 := Later.cell (PM1.box.cell 4 _ rfl)
      have k8 := Later.cell (PM1.box.cell 8 _ rfl)
      obtain ⟨D, hD⟩ : ∃ D, depOf xs S.a0 S.a1 S.a2 S.a3 = D := ⟨_, rfl⟩
      have HD : Hid (depOf xs S.a0 S.a1 S.a2 S.a3 = D) := hD
      have hdd := HPM.out.2.2.dep xs
      rw [hD] at ks hdd
      have hwr := wrap_next hdd
      have HRE : Hid (readyS S ⟨xs, xq, xw, xc, e0, e1, e2, e3, xws⟩ = (decide (xq = D + 1) && covB S.a0 S.a1 S.a2 S.a3 e0 e1 e2 e3)) := by show readyS S ⟨xs, xq, xw, xc, e0, e1, e2, e3, xws⟩ = _; unfold readyS; rw [HD.out]
      rw [hwa] at k8 ⊢
      have HCC : Hid (∀ i m r u, waits[i]? = some m → (txC m)[r]? = some u → w.cell? ⟨wb, off + (i * 9 + r), none⟩ = some u) := hcc
      clear cc hcc hx RX PM1 hD hdd hok s3
      by_cases hq : xq = D + 1
      · have q2 : (xq == D + 1) = true := by simp [hq]
        have HQ : Hid (xq = D + 1) := hq
        clear hq
        cases hc : covB S.a0 S.a1 S.a2 S.a3 e0 e1 e2 e3
        · have HC : Hid (covB S.a0 S.a1 S.a2 S.a3 e0 e1 e2 e3 = false) := hc
          have HN : Hid (readyS S ⟨xs, xq, xw, xc, e0, e1, e2, e3, xws⟩ = false) := by show _ = _; rw [HRE.out, hc]; simp
          clear hc
          go_wp2_with fail
          refine wp_region_later (by kernel_rfl) (by kernel_rfl) ?_
          repeat (go_big_quiet_step (first | rfl | (go_at_call 49; with_reducible exact calls_later (refCovers_is HC.out _))))
          refine wpQuiet_nil ?_
          rintro w4 ⟨⟨_, hb4⟩, rfl⟩
          go_wp2_with fail
          go_roundw
          case rel => exact ⟨k + 1, z + 1, zb, by omega, by have := HZ.out; omega, rfl, by go_num, best_no HB.out HX.out HN.out, behind hb1 hb4⟩
          case measure => simp [intOf]; have := HZ.out; omega
        · have HC : Hid (covB S.a0 S.a1 S.a2 S.a3 e0 e1 e2 e3 = true) := hc
          have HY : Hid (readyS S ⟨xs, xq, xw, xc, e0, e1, e2, e3, xws⟩ = true) := by show _ = _; rw [HRE.out, hc, HQ.out]; simp
          clear hc
          by_cases hbz : zb < 0
          · have HE : Hid (zb = -1) := by
              show _ = _
              rcases HB.out with ⟨e, _⟩ | ⟨i, x, e, _⟩
              · exact e
              · omega
            go_wp2_with fail
            refine wp_region_later (by kernel_rfl) (by kernel_rfl) ?_
            repeat (go_big_quiet_step (first | rfl | (go_at_call 49; with_reducible exact calls_later (refCovers_is HC.out _))))
            refine wpQuiet_nil ?_
            rintro w4 ⟨⟨_, hb4⟩, rfl⟩
            go_wp2_with fail
            go_roundw
            case rel => exact ⟨k + 1, z + 1, z, by omega, by have := HZ.out; omega, rfl, by go_num, (by rw [HZ.out]; exact best_first (by rw [← HE.out]; exact HB.out) HX.out HY.out), behind hb1 hb4⟩
            case measure => simp [intOf]; have := HZ.out; omega
          · obtain ⟨i, ⟨⟨bs, bq, bw, bc, f0, f1, f2, f3, bws⟩, ba, bcap⟩, hzi, hik, hbx⟩ := best_at HB.out (by omega)
            have HBX : Hid (waits[i]? = some ⟨⟨bs, bq, bw, bc, f0, f1, f2, f3, bws⟩, ba, bcap⟩) := hbx
            have HZI : Hid (zb = i ∧ BestIs S waits k i) := ⟨hzi, by rw [← hzi]; exact HB.out⟩
            have b1 : decide (zb < 0) = false := decide_eq_false hbz
            have z0 : 0 ≤ zb := by omega
            have z1 : zb.toNat = i := by omega
            have z2 : zb < (waits.length : Int) := by omega
            have cb : (wr.alloc (.cells #[.int .i64 xs, .int .i64 xq, .int .i64 xw, .int .i64 xc, .int .i64 e0, .int .i64 e1, .int .i64 e2, .int .i64 e3, .slice xa xws.length xcap] 44)).cell? ⟨wb, off + i * 9, none⟩ = some (.int .i64 bs) := cell_later hb1 (HCC.out i _ 0 _ hbx rfl)
            have cbl := Later.cell cb
            clear hbx hzi cb
            by_cases hl : xs < bs
            · have b2 : decide (xs < bs) = true := decide_eq_true hl
              go_wp2_with fail
              refine wp_region_later (by kernel_rfl) (by kernel_rfl) ?_
              repeat (go_big_quiet_step (first | rfl | (go_at_call 49; with_reducible exact calls_later (refCovers_is HC.out _))))
              refine wpQuiet_nil ?_
              rintro w4 ⟨⟨_, hb4⟩, rfl⟩
              go_wp2_with fail
              go_roundw
              case rel => exact ⟨k + 1, z + 1, z, by omega, by have := HZ.out; omega, rfl, by go_num, (by rw [HZ.out]; exact best_less HZI.out.2 HBX.out HX.out HY.out hl), behind hb1 hb4⟩
              case measure => simp [intOf]; have := HZ.out; omega
            · have b2 : decide (xs < bs) = false := decide_eq_false hl
              go_wp2_with fail
              refine wp_region_later (by kernel_rfl) (by kernel_rfl) ?_
              repeat (go_big_quiet_step (first | rfl | (go_at_call 49; with_reducible exact calls_later (refCovers_is HC.out _))))
              refine wpQuiet_nil ?_
              rintro w4 ⟨⟨_, hb4⟩, rfl⟩
              go_wp2_with fail
              go_roundw
              case rel => exact ⟨k + 1, z + 1, zb, by omega, by have := HZ.out; omega, rfl, by go_num, (by rw [HZI.out.1]; exact best_keep HZI.out.2 HBX.out HX.out (by simp only; omega)), behind hb1 hb4⟩
              case measure => simp [intOf]; have := HZ.out; omega
      · have q2 : (xq == D + 1) = false := by simp [hq]
        have HN : Hid (readyS S ⟨xs, xq, xw, xc, e0, e1, e2, e3, xws⟩ = false) := by show _ = _; rw [HRE.out]; simp [hq]
        clear hq
        go_wp2_with fail
        refine wp_region_later (by kernel_rfl) (by kernel_rfl) ?_
        repeat (go_big_quiet_step (first | rfl | fail))
        refine wpQuiet_nil ?_
        rintro w4 ⟨⟨_, hb4⟩, rfl⟩
        go_wp2_with fail
        go_roundw
        case rel => exact ⟨k + 1, z + 1, zb, by omega, by have := HZ.out; omega, rfl, by go_num, best_no HB.out HX.out HN.out, behind hb1 hb4⟩
        case measure => simp [intOf]; have := HZ.out; omega
    · have g1 : ¬ z < (waits.length : Int) := by omega
      have hkk : k = waits.length := by omega
      subst hkk
      go_wp2_with fail
      exact HR.out _ _ _ _ _ _ _ _ _ _ _ _ _ _ _ _ _ _ _ _ _ _ _ _ _ _ _ _ _ _ _ _ _ _ _ _ _ _ _ _ _ _ _ _ _ _ zb wr HB.out hbr

end Go.Proofs.YtpncedpfoakfkaaGreatDoor
