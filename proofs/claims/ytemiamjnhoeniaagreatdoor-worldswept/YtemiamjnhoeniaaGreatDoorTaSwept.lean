/-
  'copsekeep.WorldSwept', as the model runs it: true, whatever its arguments are.
-/
import Derived.Test.YtemiamjnhoeniaaGreatDoorSiteK
import Derived.Test.YtemiamjnhoeniaaGreatDoorTaDoes
import Derived.Test.YtemiamjnhoeniaaGreatDoorSiteC
import Derived.Test.YtemiamjnhoeniaaGreatDoorTaSwR12
namespace Go.Proofs.YtemiamjnhoeniaaGreatDoor
open Go.RowKit

theorem neVecU (a b c d : Int) (w : World) : (binOp .neq 47 (.agg #[.int .i64 a, .int .i64 b, .int .i64 c, .int .i64 d]) (.agg #[.int .i64 a, .int .i64 b, .int .i64 c, .int .i64 d])).run Tryz.prog w = .ok (.bool false) w := by
  rw [run_neq_struct, eqVec]
  simp
theorem rem8 {z : Int} {i : Nat} (h : z = i) : z.tmod 8 = ((i % 8 : Nat) : Int) := by
  subst h
  rw [Int.tmod_eq_emod_of_nonneg (by omega)]
  omega
set_option maxRecDepth 1000000 in
set_option maxHeartbeats 64000000 in
theorem swept_walk2 (sites clients : Int) (a : Option Addr) (cap : Nat) (l : List ActS) (w : World) (hD : ActIn w a cap l) (hg : w.cell? ⟨0, 0, none⟩ = some (.iface 209 (.agg #[.pointer (some ⟨1, 25, none⟩)]))) :
    Calls Tryz.prog 6 #[.int .i64 sites, .int .i64 clients, .slice a l.length cap] w fun e w' => e = .returned (.bool true) ∧ Below w.heap.size w w' := by
  have hne := Later.one
  have HG : Hid (w.cell? ⟨0, 0, none⟩ = some (.iface 209 (.agg #[.pointer (some ⟨1, 25, none⟩)]))) := hg
  clear hg
  by_cases h100 : 100 < (l.length : Int)
  · go_enter Tryz.func6, Tryz.ntmps6
    go_wp2_with fail
    go_ret
    exact ⟨rfl, Below.refl _ _⟩
  · have LV := lived_any w
    go_enter Tryz.func6, Tryz.ntmps6
    go_wp2_with fail
    refine LV.mono ?_
    rintro e w1 ⟨rfl, hb1⟩
    have TT := tatells_any sites clients w1
    clear LV
    go_wp2_with fail
    refine TT.mono ?_
    rintro e w2 ⟨rfl, G1, hT1, hG1, hb2⟩
    have TU := tatells_any sites clients w2
    clear TT
    go_wp2_with fail
    refine TU.mono ?_
    rintro e w3 ⟨rfl, G2, hT2, hG2, hb3⟩
    clear TU
    obtain ⟨ba, hba⟩ : ∃ b, w1.heap.size = b := ⟨_, rfl⟩
    obtain ⟨bb, hbb⟩ : ∃ b, w2.heap.size = b := ⟨_, rfl⟩
    have N0 : Hid (TwoTA w ba bb (newT (1 + pickN sites 4) (1 + pickN clients 6)) (newT (1 + pickN sites 4) (1 + pickN clients 6)) w3 ∧ TI (fun _ => ⟨0, 0, 0, 0⟩) (newT (1 + pickN sites 4) (1 + pickN clients 6)) (newT (1 + pickN sites 4) (1 + pickN clients 6)) 0) := by
      have p1 := pickN_lt sites (n := 4) (by decide)
      have p2 := pickN_lt clients (n := 6) (by decide)
      have s1 := hb1.size
      have s2 := hb2.size
      exact ⟨⟨behind hb1 (behind hb2 hb3), G1, G2, by rw [← hba]; exact hT1.later hb3, by rw [← hbb]; exact hT2, fun k h1 h2 => by have := hT1.lt k h1; have := hG2 k h2; omega, fun k hk => by have := hG1 k hk; omega, fun k hk => by have := hG2 k hk; omega⟩, TI.new (by omega) (by omega) (by omega) (by omega)⟩
    rw [hba, hbb]
    clear hba hbb hT1 hG1 hT2 hG2 hb1 hb2 hb3
    go_wp2_with fail
    go_loopw [9] (fun iv wr => ∃ (i : Nat) (z : Int) (A B : TaleS) (base base2 : Nat → V4), i ≤ l.length ∧ z = i ∧ iv = .int .i64 z ∧ Hid (TwoTA w ba bb A B wr ∧ TI base B A i ∧ TI base2 B B i)) (fun iv _ => l.length - (intOf iv).toNat)
    case atStart => exact ⟨0, 0, _, _, _, _, by omega, rfl, rfl, N0.out.1, N0.out.2, N0.out.2⟩
    case round =>
      clear N0
      obtain ⟨i, z, A, B, base, base2, hi, hz, rfl, HS⟩ := hrel
      have HZ : Hid (z = i) := hz
      by_cases hlt : i < l.length
      · have g1 : z < (l.length : Int) := by omega
        have g2 : z.toNat = i := by omega
        have g3 : 0 ≤ z := by omega
        clear hz
        obtain ⟨ab, ao, what, ak, an, ad, ag, rfl, _, x0, x1, x2, x3, x4⟩ := (hD.later HS.out.1.1).at hlt
        by_cases h50 : 50 < (ad.size : Int)
        · have NX : Hid (TwoTA w ba bb A B wr ∧ TI base B A (i + 1) ∧ TI base2 B B (i + 1)) := ⟨HS.out.1, HS.out.2.1.more (by omega), HS.out.2.2.more (by omega)⟩
          go_wp2_with fail
          go_roundw
          case rel => exact ⟨i + 1, z + 1, A, B, base, base2, by omega, by have := HZ.out; omega, by go_num, NX.out⟩
          case measure => simp [intOf]; have := HZ.out; omega
        · obtain ⟨Ma, Mb, Ga, Gb, _, _, hTa, hTb, hds, hna, hnb, hbW⟩ := HS.out.1.start
          have hwd := (Below.refl wr.heap.size wr).drew
          have HAB : Hid (TA wr bb Gb B ∧ (∀ k, Ga k → ¬ Gb k) ∧ (∀ k, Ga k → w.heap.size ≤ k) ∧ (∀ k, Gb k → w.heap.size ≤ k) ∧ Below w.heap.size w wr) := ⟨hTb, hds, hna, hnb, hbW⟩
          have hm : i < 120 := by omega
          have DOA : Hid (Calls Tryz.prog 20 #[.pointer (some ⟨ba, 0, none⟩), .agg #[.int .i64 what, .int .i64 ak, .int .i64 an, .string ad, .bool ag], .bool true] wr.drew (DoesIs wr ba Ga A ⟨what, ak, an, ad, ag⟩ true)) := (tadoes_any wr.drew (hTa.later hwd) HS.out.2.1 hm ⟨what, ak, an, ad, ag⟩ true (cell_later (behind hbW hwd) HG.out)).mono fun e w' ⟨h1, A', h2, G', p1, p2, tt⟩ => ⟨h1, A', h2, G', p1, p2, ⟨tt.os, tt.tape, tt.output, tt.size, tt.block⟩⟩
          have DOB : Hid (∀ w3 G3, Below w.heap.size w w3 → TA w3 bb G3 B → Calls Tryz.prog 20 #[.pointer (some ⟨bb, 0, none⟩), .agg #[.int .i64 what, .int .i64 ak, .int .i64 an, .string ad, .bool ag], .bool false] w3 (DoesIs w3 bb G3 B ⟨what, ak, an, ad, ag⟩ false)) := fun w3 G3 hb3 h3 => tadoes_any w3 h3 HS.out.2.2 hm ⟨what, ak, an, ad, ag⟩ false (cell_later hb3 HG.out)
          have HD : Hid (∀ w' : World, Below w.heap.size w w' → w'.cell? ⟨ab, ao + i * 5, none⟩ = some (.int .i64 what) ∧ w'.cell? ⟨ab, ao + i * 5 + 1, none⟩ = some (.int .i64 ak) ∧ w'.cell? ⟨ab, ao + i * 5 + 2, none⟩ = some (.int .i64 an) ∧ w'.cell? ⟨ab, ao + i * 5 + 3, none⟩ = some (.string ad) ∧ w'.cell? ⟨ab, ao + i * 5 + 4, none⟩ = some (.bool ag)) := fun w' hb => by
            obtain ⟨ab2, ao2, what2, ak2, an2, ad2, ag2, ea2, _, u0, u1, u2, u3, u4⟩ := hD.at hlt
            injection ea2 with ea2
            injection ea2 with e1 e2
            subst e1 e2
            have c0 := cell_later hbW u0
            have c1 := cell_later hbW u1
            have c2 := cell_later hbW u2
            have c3 := cell_later hbW u3
            have c4 := cell_later hbW u4
            rw [x0] at c0
            rw [x1] at c1
            rw [x2] at c2
            rw [x3] at c3
            rw [x4] at c4
            exact ⟨by rw [c0]; exact cell_later hb u0, by rw [c1]; exact cell_later hb u1, by rw [c2]; exact cell_later hb u2, by rw [c3]; exact cell_later hb u3, by rw [c4]; exact cell_later hb u4⟩
          have NXT : Hid (∀ A' B', DoesTo A ⟨what, ak, an, ad, ag⟩ true A' → DoesTo B ⟨what, ak, an, ad, ag⟩ false B' → ∃ base' base2', TI base' B' A' (i + 1) ∧ TI base2' B' B' (i + 1)) := fun A' B' h1 h2 => by
            obtain ⟨base', Tg', d1, t1⟩ := HS.out.2.1.does hm h1
            obtain ⟨base2', Tg2, d2, t2⟩ := HS.out.2.2.does hm h2
            have e1 := d1.det h2
            have e2 := d2.det h2
            subst e1
            subst e2
            exact ⟨base', base2', t1, t2⟩
          have HLN : Hid (∀ A' B', DoesTo A ⟨what, ak, an, ad, ag⟩ true A' → DoesTo B ⟨what, ak, an, ad, ag⟩ false B' → A'.H.length = B'.H.length) := fun A' B' h1 h2 => by
            obtain ⟨_, _, t1, _⟩ := NXT.out A' B' h1 h2
            rw [t1.eH]
          have HZN : Hid (z = i ∧ i < l.length) := ⟨HZ.out, hlt⟩
          clear hTa hTb hds hna hnb hbW hwd
          go_wp2_with fail
          clear x0 x1 x2 x3 x4
          refine wp_next (swR12_any (i := i) (A := A) (B := B) (Ga := Ga) (Gb := Gb) w wr HZN HAB DOA DOB HD HLN _ ?_)
          intro u59_ u60_ u61_ u62_ u63_ u64_ u65_ u66_ u67_ u68_ u69_ u70_ u71_ u72_ u73_ u74_ u75_ u76_ u77_ u78_ u79_ u80_ u81_ u82_ u83_ u84_ u85_ u86_ w4 A' B' T4 hda hdb
          obtain ⟨base', base2', t1, t2⟩ := NXT.out A' B' hda hdb
          have N4 : Hid (TwoTA w ba bb A' B' w4 ∧ TI base' B' A' (i + 1) ∧ TI base2' B' B' (i + 1)) := ⟨T4, t1, t2⟩
          have hc6 : A'.W.c ≤ 6 := t1.wf.c6
          have hcc : A'.W.c = B'.W.c := t1.sim.c
          have HK8 : Hid (((i % 8 : Nat) : Int) < 8) := by show _ < _; omega
          have hrm : z.tmod 8 = ((i % 8 : Nat) : Int) := rem8 HZ.out
          clear T4 hda hdb t1 t2 HAB DOA DOB HD HLN NXT HZN
          go_wp2_with fail
          go_loopw [10] (fun kv wr => ∃ (k : Nat) (y : Int), k ≤ A'.W.c ∧ y = k ∧ kv = .int .i64 y ∧ Hid (Below w4.heap.size w4 wr)) (fun kv _ => A'.W.c - (intOf kv).toNat)
          case atStart => exact ⟨0, 0, by omega, rfl, rfl, Below.refl _ _⟩
          case round =>
            obtain ⟨k, y, hk, hy, rfl, HB⟩ := hrel
            have HY : Hid (y = k) := hy
            obtain ⟨Ma, Mb, Ga, Gb, ma, mb, _, _, _, _, _, hbW⟩ := (N4.out.1.later HB.out).start
            have RA := ma.box
            have RB := mb.box
            have a0 := RA.cell 0 _ rfl
            have a2 := RA.cell 2 _ rfl
            have b0 := RB.cell 0 _ rfl
            by_cases hkl : k < A'.W.c
            · have j1 : y < (A'.W.c : Int) := by omega
              have j3 : 0 ≤ y := by omega
              have hkb : k < B'.W.c := by omega
              obtain ⟨Gwa, PWa, _⟩ := ma.wo
              have hk8 : (Lit.int .i64 ((i % 8 : Nat) : Int)).wf = true := WalkArith.wf_i64 ⟨by omega, by have := HK8.out; omega⟩
              have RDA := pw_read (i := k) ((i % 8 : Nat) : Int) hk8 wr PWa N4.out.2.1.wf hkl
              have ER := N4.out.2.1.same_read2 N4.out.2.2 hkb (key := ((i % 8 : Nat) : Int)) (by omega) HK8.out
              obtain ⟨⟨rd, re⟩, hrd⟩ : ∃ x, sreadV (B'.W.S (B'.W.at_ k)) (B'.W.ses k) ((i % 8 : Nat) : Int) = x := ⟨_, rfl⟩
              rw [hrd] at ER
              rw [ER, ← HY.out] at RDA
              simp only at RDA
              have HRB : Hid (∀ w5, Below wr.heap.size wr w5 → Calls Tryz.prog 25 #[.pointer (some ⟨Mb.wb, 0, none⟩), .int .i64 y, .int .i64 ((i % 8 : Nat) : Int)] w5 fun e w' => e = .returned (.tuple #[.string rd, errV re]) ∧ Below w5.heap.size w5 w') := fun w5 hb5 => by
                obtain ⟨Gwb, PWb, _⟩ := (mb.later hb5).wo
                have := pw_read (i := k) ((i % 8 : Nat) : Int) hk8 w5 PWb N4.out.2.2.wf hkb
                rw [hrd, ← HY.out] at this
                exact this
              have HGW : Hid (wr.cell? ⟨0, 0, none⟩ = some (.iface 209 (.agg #[.pointer (some ⟨1, 25, none⟩)]))) := cell_later hbW HG.out
              clear hy ER hrd PWa ma mb hbW hk8
              go_wp2_with fail
              refine RDA.mono ?_
              rintro e w5 ⟨rfl, hb5⟩
              have RDB := HRB.out w5 hb5
              have b0' := cell_later hb5 b0
              clear RDA a0 a2 b0
              go_wp2_with fail
              refine RDB.mono ?_
              rintro e w6 ⟨rfl, hb6⟩
              have hb56 := behind hb5 hb6
              have TA1 := tellE_any re w6 (cell_later hb56 HGW.out)
              clear RDB b0'
              go_wp2_with fail
              refine TA1.mono ?_
              rintro e w7 ⟨rfl, hb7⟩
              have hb57 := behind hb56 hb7
              have TB1 := tellE_any re w7 (cell_later hb57 HGW.out)
              clear TA1
              go_wp2_with fail
              refine TB1.mono ?_
              rintro e w8 ⟨rfl, hb8⟩
              have NX : Hid (Below w4.heap.size w4 w8) := behind HB.out (behind hb57 hb8)
              clear TB1 hb5 hb6 hb7 hb8 hb56 hb57 RA RB
              go_wp2_with fail
              go_roundw
              case rel => exact ⟨k + 1, y + 1, by omega, by have := HY.out; omega, by go_num, NX.out⟩
              case measure => simp [intOf]; have := HY.out; omega
            · have j1 : ¬ y < (A'.W.c : Int) := by omega
              have NX : Hid (TwoTA w ba bb A' B' wr ∧ TI base' B' A' (i + 1) ∧ TI base2' B' B' (i + 1)) := ⟨N4.out.1.later HB.out, N4.out.2⟩
              clear hy ma mb RA RB hbW a0 b0
              go_wp2_with fail
              go_roundw
              case rel => exact ⟨i + 1, z + 1, A', B', base', base2', by omega, by have := HZ.out; omega, by go_num, NX.out⟩
              case measure => simp [intOf]; have := HZ.out; omega
      · have g1 : ¬ z < (l.length : Int) := by omega
        obtain ⟨w3, hw3⟩ : ∃ w3, w3 = wr := ⟨_, rfl⟩
        subst hw3
        obtain ⟨Ma, Mb, Ga, Gb, ma, mb, _, _, _, _, _, hbW⟩ := HS.out.1.start
        have HM : Hid (TaAt w3 Ga ba Ma A NoY w3 ∧ TaAt w3 Gb bb Mb B NoY w3 ∧ Below w.heap.size w w3 ∧ TI base B A i ∧ TI base2 B B i) := ⟨ma, mb, hbW, HS.out.2.1, HS.out.2.2⟩
        have hn4 : A.W.n ≤ 4 := HS.out.2.1.wf.n4
        have hnn : A.W.n = B.W.n := HS.out.2.1.sim.n
        clear hz ma mb hbW
        go_wp2_with fail
        go_loopw [16] (fun jv wr => ∃ (j : Nat) (x : Int), j ≤ Ma.all.length ∧ x = j ∧ jv = .int .i64 x ∧ Hid (Below w3.heap.size w3 wr)) (fun jv _ => Ma.all.length - (intOf jv).toNat)
        case atStart => exact ⟨0, 0, by omega, rfl, rfl, Below.refl _ _⟩
        case round =>
          clear HS
          obtain ⟨j, x, hj, hx, rfl, HB⟩ := hrel
          have HX : Hid (x = j) := hx
          obtain ⟨ta, tc, htva, hTa, hala, hWa⟩ := (HM.out.1.later HB.out).txs
          obtain ⟨tb, td, htvb, hTb, halb, hWb⟩ := (HM.out.2.1.later HB.out).txs
          have RA := (HM.out.1.later HB.out).box
          have RB := (HM.out.2.1.later HB.out).box
          have a3 := RA.cell 3 _ rfl
          have b3 := RB.cell 3 _ rfl
          have eH : A.H = B.H := HM.out.2.2.2.1.eH
          have el : Mb.all.length = Ma.all.length := by
            have h1 := congrArg List.length hala
            have h2 := congrArg List.length halb
            simp only [List.length_map] at h1 h2
            rw [h1, h2, eH]
          rw [htva] at a3
          rw [htvb, el] at b3
          have hal3 := hTa.len
          have hac3 := hTa.cap
          by_cases hjl : j < Ma.all.length
          · have i1 : x < (Ma.all.length : Int) := by omega
            have i2 : x.toNat = j := by omega
            have i3 : 0 ≤ x := by omega
            obtain ⟨pa, oa, rfl, hca⟩ : ∃ b off, ta = some ⟨b, off, none⟩ ∧ ∀ i m r u, Ma.all[i]? = some m → (txC m)[r]? = some u → wr.cell? ⟨b, off + (i * 9 + r), none⟩ = some u := by
              rcases hTa.held with h0 | h0
              · rw [h0] at hjl; simp at hjl
              · exact h0
            obtain ⟨pb, ob, rfl, hcb⟩ : ∃ b off, tb = some ⟨b, off, none⟩ ∧ ∀ i m r u, Mb.all[i]? = some m → (txC m)[r]? = some u → wr.cell? ⟨b, off + (i * 9 + r), none⟩ = some u := by
              rcases hTb.held with h0 | h0
              · rw [h0] at el; simp at el; omega
              · exact h0
            obtain ⟨⟨⟨site, seq, wall, count, d0, d1, d2, d3, tws⟩, wa, wk⟩, hm⟩ : ∃ m, Ma.all[j]? = some m := ⟨_, List.getElem?_eq_getElem hjl⟩
            obtain ⟨⟨tx2, wa2, wk2⟩, hm2⟩ : ∃ m, Mb.all[j]? = some m := ⟨_, List.getElem?_eq_getElem (by omega)⟩
            have et : tx2 = ⟨site, seq, wall, count, d0, d1, d2, d3, tws⟩ := by
              have h1 : A.H[j]? = some ⟨site, seq, wall, count, d0, d1, d2, d3, tws⟩ := by rw [← hala, List.getElem?_map, hm]; rfl
              have h2 : B.H[j]? = some tx2 := by rw [← halb, List.getElem?_map, hm2]; rfl
              rw [eH, h2] at h1
              exact Option.some.inj h1
            subst et
            have SM : Hid (∀ w5, Below wr.heap.size wr w5 → Calls Tryz.prog 27 #[.agg #[.int .i64 site, .int .i64 seq, .int .i64 wall, .int .i64 count, .int .i64 d0, .int .i64 d1, .int .i64 d2, .int .i64 d3, .slice wa tws.length wk], .agg #[.int .i64 site, .int .i64 seq, .int .i64 wall, .int .i64 count, .int .i64 d0, .int .i64 d1, .int .i64 d2, .int .i64 d3, .slice wa2 tws.length wk2]] w5 fun e w' => e = .returned (.bool true) ∧ Below w5.heap.size w5 w') := fun w5 hb5 => same_any site seq wall count d0 d1 d2 d3 wa wa2 wk wk2 tws w5 ((hWa _ (List.mem_of_getElem? hm)).later hb5) ((hWb _ (List.mem_of_getElem? hm2)).later hb5)
            have a3l := Later.cell a3
            have b3l := Later.cell b3
            have ca0 := Later.cell (show wr.cell? ⟨pa, oa + j * 9, none⟩ = some (.int .i64 site) from hca j _ 0 _ hm rfl)
            have ca1 := Later.cell (show wr.cell? ⟨pa, oa + j * 9 + 1, none⟩ = some (.int .i64 seq) from hca j _ 1 _ hm rfl)
            have ca2 := Later.cell (show wr.cell? ⟨pa, oa + j * 9 + 2, none⟩ = some (.int .i64 wall) from hca j _ 2 _ hm rfl)
            have ca3 := Later.cell (show wr.cell? ⟨pa, oa + j * 9 + 3, none⟩ = some (.int .i64 count) from hca j _ 3 _ hm rfl)
            have ca4 := Later.cell (show wr.cell? ⟨pa, oa + j * 9 + 4, none⟩ = some (.int .i64 d0) from hca j _ 4 _ hm rfl)
            have ca5 := Later.cell (show wr.cell? ⟨pa, oa + j * 9 + 5, none⟩ = some (.int .i64 d1) from hca j _ 5 _ hm rfl)
            have ca6 := Later.cell (show wr.cell? ⟨pa, oa + j * 9 + 6, none⟩ = some (.int .i64 d2) from hca j _ 6 _ hm rfl)
            have ca7 := Later.cell (show wr.cell? ⟨pa, oa + j * 9 + 7, none⟩ = some (.int .i64 d3) from hca j _ 7 _ hm rfl)
            have ca8 := Later.cell (show wr.cell? ⟨pa, oa + j * 9 + 8, none⟩ = some (.slice wa tws.length wk) from hca j _ 8 _ hm rfl)
            have cb0 := Later.cell (show wr.cell? ⟨pb, ob + j * 9, none⟩ = some (.int .i64 site) from hcb j _ 0 _ hm2 rfl)
            have cb1 := Later.cell (show wr.cell? ⟨pb, ob + j * 9 + 1, none⟩ = some (.int .i64 seq) from hcb j _ 1 _ hm2 rfl)
            have cb2 := Later.cell (show wr.cell? ⟨pb, ob + j * 9 + 2, none⟩ = some (.int .i64 wall) from hcb j _ 2 _ hm2 rfl)
            have cb3 := Later.cell (show wr.cell? ⟨pb, ob + j * 9 + 3, none⟩ = some (.int .i64 count) from hcb j _ 3 _ hm2 rfl)
            have cb4 := Later.cell (show wr.cell? ⟨pb, ob + j * 9 + 4, none⟩ = some (.int .i64 d0) from hcb j _ 4 _ hm2 rfl)
            have cb5 := Later.cell (show wr.cell? ⟨pb, ob + j * 9 + 5, none⟩ = some (.int .i64 d1) from hcb j _ 5 _ hm2 rfl)
            have cb6 := Later.cell (show wr.cell? ⟨pb, ob + j * 9 + 6, none⟩ = some (.int .i64 d2) from hcb j _ 6 _ hm2 rfl)
            have cb7 := Later.cell (show wr.cell? ⟨pb, ob + j * 9 + 7, none⟩ = some (.int .i64 d3) from hcb j _ 7 _ hm2 rfl)
            have cb8 := Later.cell (show wr.cell? ⟨pb, ob + j * 9 + 8, none⟩ = some (.slice wa2 tws.length wk2) from hcb j _ 8 _ hm2 rfl)
            clear hx htva hTa hala hWa htvb hTb halb hWb hca hcb hm hm2 eH el RA RB b3
            go_wp2_with fail
            refine wp_region_later (by kernel_rfl) (by kernel_rfl) ?_
            repeat (go_big_quiet_step (first | rfl | (go_at_call 27; with_reducible exact calls_later (SM.out _ (Later.below _)))))
            refine wpQuiet_nil ?_
            rintro w5 ⟨⟨_, hb5⟩, rfl⟩
            have NX : Hid (Below w3.heap.size w3 w5) := behind HB.out hb5
            clear a3l b3l ca0 ca1 ca2 ca3 ca4 ca5 ca6 ca7 ca8 cb0 cb1 cb2 cb3 cb4 cb5 cb6 cb7 cb8 a3 hb5
            go_wp2_with fail
            go_roundw
            case rel => exact ⟨j + 1, x + 1, by omega, by have := HX.out; omega, by go_num, NX.out⟩
            case measure => simp [intOf]; have := HX.out; omega
          · have i1 : ¬ x < (Ma.all.length : Int) := by omega
            obtain ⟨w4, hw4⟩ : ∃ w4, w4 = wr := ⟨_, rfl⟩
            subst hw4
            clear hx htva hTa hala hWa htvb hTb halb hWb eH el RA RB b3
            go_wp2_with fail
            clear a3
            go_loopw [17] (fun kv wr => ∃ (k : Nat) (y : Int), k ≤ A.W.n ∧ y = k ∧ kv = .int .i64 y ∧ Hid (Below w4.heap.size w4 wr)) (fun kv _ => A.W.n - (intOf kv).toNat)
            case atStart => exact ⟨0, 0, by omega, rfl, rfl, Below.refl _ _⟩
            case round =>
              obtain ⟨k, y, hk, hy, rfl, HC⟩ := hrel
              have HY : Hid (y = k) := hy
              have H4r : Hid (Below w3.heap.size w3 wr) := behind HB.out HC.out
              have RA := (HM.out.1.later H4r.out).box
              have RB := (HM.out.2.1.later H4r.out).box
              have a0 := RA.cell 0 _ rfl
              have a1 := RA.cell 1 _ rfl
              have b0 := RB.cell 0 _ rfl
              by_cases hkl : k < A.W.n
              · have q1 : y < (A.W.n : Int) := by omega
                have q3 : 0 ≤ y := by omega
                have hkb : k < B.W.n := by omega
                obtain ⟨Gwa, PWa, _⟩ := (HM.out.1.later H4r.out).wo
                have SA := pw_site8 wr PWa HM.out.2.2.2.1.wf hkl
                have hfew := HM.out.2.2.2.1.fewer PWa hkl
                obtain ⟨e0, e1, e2, e3⟩ := HM.out.2.2.2.1.ap hkb
                have HTO : Hid (∀ q : Nat, toldV (A.W.S k).a0 (A.W.S k).a1 (A.W.S k).a2 (A.W.S k).a3 (A.W.S k).l (q : Int) = toldV (B.W.S k).a0 (B.W.S k).a1 (B.W.S k).a2 (B.W.S k).a3 (B.W.S k).l (q : Int)) := fun q => HM.out.2.2.2.1.same_told HM.out.2.2.2.2 hkb (q : Int)
                have HSB : Hid (∀ w5, Below wr.heap.size wr w5 → Calls Tryz.prog 14 #[.pointer (some ⟨Mb.wb, 0, none⟩), .int .i64 y] w5 fun e w' => ∃ vb vc, e = .returned (.tuple #[.agg #[.int .i64 (B.W.S k).a0, .int .i64 (B.W.S k).a1, .int .i64 (B.W.S k).a2, .int .i64 (B.W.S k).a3], .int .i64 (B.W.S k).waits.length, .slice (some ⟨vb, 0, none⟩) 8 vc, .int .i64 (B.W.S k).l.length, .nilIface]) ∧ Hid ((∀ q : Nat, q < 8 → w'.cell? ⟨vb, q, none⟩ = some (.string (toldV (B.W.S k).a0 (B.W.S k).a1 (B.W.S k).a2 (B.W.S k).a3 (B.W.S k).l (q : Int)))) ∧ 8 ≤ vc ∧ Below w5.heap.size w5 w')) := fun w5 hb5 => by
                  obtain ⟨Gwb, PWb, _⟩ := ((HM.out.2.1.later H4r.out).later hb5).wo
                  have := pw_site8 w5 PWb HM.out.2.2.2.2.wf hkb
                  rw [← HY.out] at this
                  exact this
                have SA2 : Hid (Calls Tryz.prog 14 #[.pointer (some ⟨Ma.wb, 0, none⟩), .int .i64 y] wr fun e w' => ∃ vb vc, e = .returned (.tuple #[.agg #[.int .i64 (B.W.S k).a0, .int .i64 (B.W.S k).a1, .int .i64 (B.W.S k).a2, .int .i64 (B.W.S k).a3], .int .i64 (A.W.S k).waits.length, .slice (some ⟨vb, 0, none⟩) 8 vc, .int .i64 (A.W.S k).l.length, .nilIface]) ∧ Hid ((∀ q : Nat, q < 8 → w'.cell? ⟨vb, q, none⟩ = some (.string (toldV (B.W.S k).a0 (B.W.S k).a1 (B.W.S k).a2 (B.W.S k).a3 (B.W.S k).l (q : Int)))) ∧ 8 ≤ vc ∧ Below wr.heap.size wr w')) := by
                  rw [← HY.out] at SA
                  refine SA.mono fun e w' ⟨vb, vc, he, hh⟩ => ⟨vb, vc, ?_, fun q hq => ?_, hh.out.2.1, hh.out.2.2⟩
                  · rw [he, e0, e1, e2, e3]
                  · rw [← HTO.out q]
                    exact hh.out.1 q hq
                have ne := neVecU (B.W.S k).a0 (B.W.S k).a1 (B.W.S k).a2 (B.W.S k).a3
                have hgt : ¬ ((B.W.S k).l.length : Int) < ((A.W.S k).l.length : Int) := by omega
                clear hy SA e0 e1 e2 e3 HTO PWa hfew
                go_wp2_with fail
                refine SA2.out.mono ?_
                rintro e w5 ⟨va, vac, rfl, H5⟩
                obtain ⟨w6, hw6⟩ : ∃ w6, w5.alloc (.cells #[.int .i64 (B.W.S k).a0, .int .i64 (B.W.S k).a1, .int .i64 (B.W.S k).a2, .int .i64 (B.W.S k).a3] 47) = w6 := ⟨_, rfl⟩
                have hb56 : Below w5.heap.size w5 w6 := by rw [← hw6]; exact boxed (Below.refl _ w5) _
                have RV6 : RowL w6 w5.heap.size [.int .i64 (B.W.S k).a0, .int .i64 (B.W.S k).a1, .int .i64 (B.W.S k).a2, .int .i64 (B.W.S k).a3] := by rw [← hw6]; exact RowL.new (w := w5) (T := 47) [.int .i64 (B.W.S k).a0, .int .i64 (B.W.S k).a1, .int .i64 (B.W.S k).a2, .int .i64 (B.W.S k).a3] rfl
                have hbr6 := behind H5.out.2.2 hb56
                have b0' := cell_later hbr6 b0
                have SB := HSB.out w6 hbr6
                clear a0 a1 b0
                go_wp2_with fail
                clear hw6
                refine SB.mono ?_
                rintro e w7 ⟨vb, vbc, rfl, H7⟩
                have hbr7 := behind hbr6 H7.out.2.2
                obtain ⟨w8, hw8⟩ : ∃ w8, w7.alloc (.cells #[.int .i64 (B.W.S k).a0, .int .i64 (B.W.S k).a1, .int .i64 (B.W.S k).a2, .int .i64 (B.W.S k).a3] 47) = w8 := ⟨_, rfl⟩
                have hb78 : Below w7.heap.size w7 w8 := by rw [← hw8]; exact boxed (Below.refl _ w7) _
                have RU8 : RowL w8 w7.heap.size [.int .i64 (B.W.S k).a0, .int .i64 (B.W.S k).a1, .int .i64 (B.W.S k).a2, .int .i64 (B.W.S k).a3] := by rw [← hw8]; exact RowL.new (w := w7) (T := 47) [.int .i64 (B.W.S k).a0, .int .i64 (B.W.S k).a1, .int .i64 (B.W.S k).a2, .int .i64 (B.W.S k).a3] rfl
                have RV8 := (RV6.later H7.out.2.2).later hb78
                have v0 := RV8.cell 0 _ rfl
                have v1 := RV8.cell 1 _ rfl
                have v2 := RV8.cell 2 _ rfl
                have v3 := RV8.cell 3 _ rfl
                have y0 := RU8.cell 0 _ rfl
                have y1 := RU8.cell 1 _ rfl
                have y2 := RU8.cell 2 _ rfl
                have y3 := RU8.cell 3 _ rfl
                have H8 : Hid (Below w4.heap.size w4 w8 ∧ (∀ q : Nat, q < 8 → w8.cell? ⟨va, q, none⟩ = some (.string (toldV (B.W.S k).a0 (B.W.S k).a1 (B.W.S k).a2 (B.W.S k).a3 (B.W.S k).l (q : Int)))) ∧ (∀ q : Nat, q < 8 → w8.cell? ⟨vb, q, none⟩ = some (.string (toldV (B.W.S k).a0 (B.W.S k).a1 (B.W.S k).a2 (B.W.S k).a3 (B.W.S k).l (q : Int)))) ∧ 8 ≤ vac ∧ 8 ≤ vbc) := ⟨behind HC.out (behind hbr7 hb78), fun q hq => cell_later hb78 (cell_later H7.out.2.2 (cell_later hb56 (H5.out.1 q hq))), fun q hq => cell_later hb78 (H7.out.1 q hq), H5.out.2.1, H7.out.2.1⟩
                clear SB b0' RV6 RV8 RU8 hb56 hb78 hbr6 hbr7 RA RB
                go_wp2_with fail
                clear v0 v1 v2 v3 y0 y1 y2 y3 hw8
                go_loopw [28] (fun qv wr => ∃ (q : Nat) (u : Int), q ≤ 8 ∧ u = q ∧ qv = .int .i64 u ∧ Hid (Below w8.heap.size w8 wr)) (fun qv _ => 8 - (intOf qv).toNat)
                case atStart => exact ⟨0, 0, by omega, rfl, rfl, Below.refl _ _⟩
                case round =>
                  obtain ⟨q, u, hq, hu, rfl, HQ⟩ := hrel
                  have HU : Hid (u = q) := hu
                  by_cases hql : q < 8
                  · have i1 : u < 8 := by omega
                    have i2 : u.toNat = q := by omega
                    have i3 : 0 ≤ u := by omega
                    have hva := H8.out.2.2.2.1
                    have hvb := H8.out.2.2.2.2
                    have ta := Later.cell (cell_later HQ.out (H8.out.2.1 q hql))
                    have tb := Later.cell (cell_later HQ.out (H8.out.2.2.1 q hql))
                    obtain ⟨tx, htx⟩ : ∃ t, toldV (B.W.S k).a0 (B.W.S k).a1 (B.W.S k).a2 (B.W.S k).a3 (B.W.S k).l (q : Int) = t := ⟨_, rfl⟩
                    rw [htx] at ta tb
                    clear hu htx
                    go_wp2_with fail
                    refine wp_region_later (by kernel_rfl) (by kernel_rfl) ?_
                    repeat (go_big_quiet_step (first | rfl | fail))
                    refine wpQuiet_nil ?_
                    rintro w10 ⟨⟨_, hb10⟩, rfl⟩
                    have NX : Hid (Below w8.heap.size w8 w10) := behind HQ.out hb10
                    clear ta tb hb10
                    go_wp2_with fail
                    go_roundw
                    case rel => exact ⟨q + 1, u + 1, by omega, by have := HU.out; omega, by go_num, NX.out⟩
                    case measure => simp [intOf]; have := HU.out; omega
                  · have i1 : ¬ u < 8 := by omega
                    have NX : Hid (Below w4.heap.size w4 wr) := behind H8.out.1 HQ.out
                    clear hu
                    go_wp2_with fail
                    go_roundw
                    case rel => exact ⟨k + 1, y + 1, by omega, by have := HY.out; omega, by go_num, NX.out⟩
                    case measure => simp [intOf]; have := HY.out; omega
              · have q1 : ¬ y < (A.W.n : Int) := by omega
                clear hy
                go_wp2_with fail
                go_ret
                exact ⟨rfl, behind HM.out.2.2.1 H4r.out⟩

end Go.Proofs.YtemiamjnhoeniaaGreatDoor

