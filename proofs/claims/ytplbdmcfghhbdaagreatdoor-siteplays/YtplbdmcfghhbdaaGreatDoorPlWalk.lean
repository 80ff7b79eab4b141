/-
  'copselaw.SitePlays' returns true: the walk.
-/
import Derived.Test.YtplbdmcfghhbdaaGreatDoorSiteL
import Derived.Deep.CutBlock
import Derived.Test.YtplbdmcfghhbdaaGreatDoorSiteM
import Derived.Test.YtplbdmcfghhbdaaGreatDoorPlR35
namespace Go.Proofs.YtplbdmcfghhbdaaGreatDoor
open Go.RowKit

set_option maxRecDepth 1000000 in
set_option maxHeartbeats 16000000 in
theorem sitePlays_walk (id : Int) (a : Option Addr) (cap : Nat) (l : List DoV) (key : Int) (w : World) (hD : DoIn w a cap l) (hg : w.cell? ⟨0, 0, none⟩ = some (.iface 186 (.agg #[.pointer (some ⟨1, 25, none⟩)]))) :
    Calls Tryz.prog 3 #[.int .i64 id, .slice a l.length cap, .int .i64 key] w fun e w' => e = .returned (.bool true) ∧ Below w.heap.size w w' := by
  have HG : Hid (w.cell? ⟨0, 0, none⟩ = some (.iface 186 (.agg #[.pointer (some ⟨1, 25, none⟩)]))) := hg
  have BR : Hid (∀ (n : Int) (w : World), w.cell? ⟨0, 0, none⟩ = some (.iface 186 (.agg #[.pointer (some ⟨1, 25, none⟩)])) → Calls Tryz.prog 6 #[errV n, .int .i64 n] w fun e w' => e = .returned (.bool true) ∧ Below w.heap.size w w') := fun n w h => sameErr_errV' n w h
  clear hg
  by_cases h70 : 70 < (l.length : Int)
  · go_enter Tryz.func3, Tryz.ntmps3
    go_wp2_with fail
    go_ret
    exact ⟨rfl, Below.refl _ _⟩
  · by_cases hr : 0 ≤ id ∧ id < 4
    rotate_left
    · have NN := new_no id w (by simp only [Bool.and_eq_false_iff, decide_eq_false_iff_not]; omega)
      have BB : Hid (∀ w1, Below w.heap.size w w1 → Calls Tryz.prog 6 #[errV 2, .int .i64 2] w1 fun e w' => e = .returned (.bool true) ∧ Below w1.heap.size w1 w') := fun w1 hb => BR.out 2 w1 (cell_later hb HG.out)
      by_cases hn0 : id < 0
      all_goals
        have hn4 : id < 0 ∨ 4 ≤ id := by omega
        have hn5 : ¬ id < 0 → 4 ≤ id := by omega
        try replace hn5 := hn5 hn0
        clear hr hn4
        go_enter Tryz.func3, Tryz.ntmps3
        go_wp2_with fail
        refine NN.mono ?_
        rintro e w1 ⟨rfl, hb1⟩
        go_wp2_with fail
        refine (BB.out _ hb1).mono ?_
        rintro e w2 ⟨rfl, hb2⟩
        go_wp2_with fail
        go_ret
        exact ⟨rfl, behind hb1 hb2⟩
    · obtain ⟨i0, i4⟩ := hr
      have i5 : ¬ id < 0 := by omega
      have i6 : ¬ 4 ≤ id := by omega
      have NN := new_any id w i0 i4
      go_enter Tryz.func3, Tryz.ntmps3
      go_wp2_with fail
      refine NN.mono ?_
      rintro e w1 ⟨rfl, hP1, hb1⟩
      clear NN
      go_wp2_with fail
      have T0 := two_init' 41 _ rfl hP1
      have hbI : Below w.heap.size w (w1.alloc (.cells (siteC (newS id) (.slice none 0 0) (.slice none 0 0) (.slice none 0 0)).toArray 41)) := boxed hb1 _
      change TwoS (w1.alloc (.cells #[.int .i64 id, .int .i64 0, .int .i64 0, .int .i64 0, .int .i64 0, .int .i64 0, .int .i64 0, .slice none 0 0, .slice none 0 0, .slice none 0 0, .int .i64 0, .int .i64 0, .int .i64 0, .int .i64 0, .int .i64 0, .int .i64 0, .int .i64 0, .int .i64 0, .int .i64 0, .int .i64 0, .int .i64 0, .int .i64 0, .int .i64 0, .int .i64 0, .int .i64 0, .int .i64 0] 41)) _ _ _ _ _ _ at T0
      change Below w.heap.size w (w1.alloc (.cells #[.int .i64 id, .int .i64 0, .int .i64 0, .int .i64 0, .int .i64 0, .int .i64 0, .int .i64 0, .slice none 0 0, .slice none 0 0, .slice none 0 0, .int .i64 0, .int .i64 0, .int .i64 0, .int .i64 0, .int .i64 0, .int .i64 0, .int .i64 0, .int .i64 0, .int .i64 0, .int .i64 0, .int .i64 0, .int .i64 0, .int .i64 0, .int .i64 0, .int .i64 0, .int .i64 0] 41)) at hbI
      obtain ⟨bp, hbp⟩ : ∃ bp, w.heap.size + 1 = bp := ⟨_, rfl⟩
      obtain ⟨br, hbr⟩ : ∃ br, w1.heap.size = br := ⟨_, rfl⟩
      rw [hbp, hbr] at T0
      rw [hbp, hbr]
      have HT0 : Hid (TwoS _ bp br (newS id) (newS id) (fun j => j < w.heap.size) NoB) := T0
      clear hbp hbr hP1 T0
      go_loopw [10] (fun iv wr => ∃ (k : Nat) (z : Int) (S : SiteS), k ≤ l.length ∧ z = k ∧ iv = .int .i64 z ∧ Hid (TwoS wr bp br S S (fun j => j < w.heap.size) NoB) ∧ Hid (InvS S ∧ S.waits.length ≤ k) ∧ Below w.heap.size w wr) (fun i _ => l.length - (intOf i).toNat)
      case atStart => exact ⟨0, 0, newS id, by omega, rfl, rfl, HT0, ⟨InvS.new i0 (by omega), by simp [newS]⟩, hbI⟩
      case round =>
        clear HT0 hbI hb1
        obtain ⟨k, z, S, hk, hz, rfl, HT, HI, hb⟩ := hrel
        have HZ : Hid (z = k) := hz
        by_cases hlt : k < l.length
        · have h1 : z < (l.length : Int) := by omega
          have h2 : z.toNat = k := by omega
          have h3 : 0 ≤ z := by omega
          have HK70 : Hid (k ≤ 70) := by show _ ≤ _; omega
          clear hz
          have hP4 := hD.later hb
          obtain ⟨ab, off, rfl, hcc⟩ : ∃ b off, a = some ⟨b, off, none⟩ ∧ ∀ i r u, i < l.length → (doC (doAt l i))[r]? = some u → wr.cell? ⟨b, off + (i * 15 + r), none⟩ = some u := by
            rcases hP4.held with h0 | h0
            · rw [h0] at hlt; simp at hlt
            · exact h0
          obtain ⟨⟨what, n, b0, b1, b2, b3, ⟨⟨site, seq, wall, count, d0, d1, d2, d3, ws⟩, ta, tcap⟩⟩, hx⟩ : ∃ x, doAt l k = x := ⟨_, rfl⟩
          have HWk : Hid (WrIn w ta tcap ws) := by have := hD.wr k hlt; rw [hx] at this; exact this
          have HAk : Hid (∀ k off, ws ≠ [] → ta = some ⟨k, off, none⟩ → k < w.heap.size) := fun k off e1 e2 => WrIn.blk_lt (m := ⟨⟨site, seq, wall, count, d0, d1, d2, d3, ws⟩, ta, tcap⟩) HWk.out k ⟨e1, off, e2⟩
          have x0 : wr.cell? ⟨ab, off + k * 15, none⟩ = some (.int .i64 what) := hcc k 0 _ hlt (by rw [hx]; rfl)
          have x1 : wr.cell? ⟨ab, off + k * 15 + 1, none⟩ = some (.int .i64 n) := hcc k 1 _ hlt (by rw [hx]; rfl)
          have x2 : wr.cell? ⟨ab, off + k * 15 + 2, none⟩ = some (.int .i64 b0) := hcc k 2 _ hlt (by rw [hx]; rfl)
          have x3 : wr.cell? ⟨ab, off + k * 15 + 3, none⟩ = some (.int .i64 b1) := hcc k 3 _ hlt (by rw [hx]; rfl)
          have x4 : wr.cell? ⟨ab, off + k * 15 + 4, none⟩ = some (.int .i64 b2) := hcc k 4 _ hlt (by rw [hx]; rfl)
          have x5 : wr.cell? ⟨ab, off + k * 15 + 5, none⟩ = some (.int .i64 b3) := hcc k 5 _ hlt (by rw [hx]; rfl)
          have x6 : wr.cell? ⟨ab, off + k * 15 + 6, none⟩ = some (.int .i64 site) := hcc k 6 _ hlt (by rw [hx]; rfl)
          have x7 : wr.cell? ⟨ab, off + k * 15 + 7, none⟩ = some (.int .i64 seq) := hcc k 7 _ hlt (by rw [hx]; rfl)
          have x8 : wr.cell? ⟨ab, off + k * 15 + 8, none⟩ = some (.int .i64 wall) := hcc k 8 _ hlt (by rw [hx]; rfl)
          have x9 : wr.cell? ⟨ab, off + k * 15 + 9, none⟩ = some (.int .i64 count) := hcc k 9 _ hlt (by rw [hx]; rfl)
          have x10 : wr.cell? ⟨ab, off + k * 15 + 10, none⟩ = some (.int .i64 d0) := hcc k 10 _ hlt (by rw [hx]; rfl)
          have x11 : wr.cell? ⟨ab, off + k * 15 + 11, none⟩ = some (.int .i64 d1) := hcc k 11 _ hlt (by rw [hx]; rfl)
          have x12 : wr.cell? ⟨ab, off + k * 15 + 12, none⟩ = some (.int .i64 d2) := hcc k 12 _ hlt (by rw [hx]; rfl)
          have x13 : wr.cell? ⟨ab, off + k * 15 + 13, none⟩ = some (.int .i64 d3) := hcc k 13 _ hlt (by rw [hx]; rfl)
          have x14 : wr.cell? ⟨ab, off + k * 15 + 14, none⟩ = some (.slice ta ws.length tcap) := hcc k 14 _ hlt (by rw [hx]; rfl)
          clear hx hcc hP4
          have T1 := HT.out.new (.cells #[.int .i64 what, .int .i64 n, .int .i64 b0, .int .i64 b1, .int .i64 b2, .int .i64 b3, .int .i64 site, .int .i64 seq, .int .i64 wall, .int .i64 count, .int .i64 d0, .int .i64 d1, .int .i64 d2, .int .i64 d3, .slice ta ws.length tcap] 46)
          have RX := RowL.new (w := wr) (T := 46) [.int .i64 what, .int .i64 n, .int .i64 b0, .int .i64 b1, .int .i64 b2, .int .i64 b3, .int .i64 site, .int .i64 seq, .int .i64 wall, .int .i64 count, .int .i64 d0, .int .i64 d1, .int .i64 d2, .int .i64 d3, .slice ta ws.length tcap] rfl
          change RowL (wr.alloc (.cells #[.int .i64 what, .int .i64 n, .int .i64 b0, .int .i64 b1, .int .i64 b2, .int .i64 b3, .int .i64 site, .int .i64 seq, .int .i64 wall, .int .i64 count, .int .i64 d0, .int .i64 d1, .int .i64 d2, .int .i64 d3, .slice ta ws.length tcap] 46)) wr.heap.size [.int .i64 what, .int .i64 n, .int .i64 b0, .int .i64 b1, .int .i64 b2, .int .i64 b3, .int .i64 site, .int .i64 seq, .int .i64 wall, .int .i64 count, .int .i64 d0, .int .i64 d1, .int .i64 d2, .int .i64 d3, .slice ta ws.length tcap] at RX
          have hb1 := boxed hb (.cells #[.int .i64 what, .int .i64 n, .int .i64 b0, .int .i64 b1, .int .i64 b2, .int .i64 b3, .int .i64 site, .int .i64 seq, .int .i64 wall, .int .i64 count, .int .i64 d0, .int .i64 d1, .int .i64 d2, .int .i64 d3, .slice ta ws.length tcap] 46)
          have FW := few_any site seq wall count d0 d1 d2 d3 ta tcap ws _ (HWk.out.later hb1)
          obtain ⟨fb, hfb⟩ : ∃ fb, fewB ws = fb := ⟨_, rfl⟩
          rw [hfb] at FW
          have t6 := RX.cell 6 _ rfl
          have t7 := RX.cell 7 _ rfl
          have t8 := RX.cell 8 _ rfl
          have t9 := RX.cell 9 _ rfl
          have t10 := RX.cell 10 _ rfl
          have t11 := RX.cell 11 _ rfl
          have t12 := RX.cell 12 _ rfl
          have t13 := RX.cell 13 _ rfl
          have t14 := RX.cell 14 _ rfl
          go_wp2_with fail
          refine FW.mono ?_
          rintro e w2 ⟨rfl, hbf⟩
          have T2 := T1.later hbf
          have RX2 := RX.later hbf
          have hb2 := behind hb1 hbf
          clear T1 RX hb1 hbf FW hfb x0 x1 x2 x3 x4 x5 x6 x7 x8 x9 x10 x11 x12 x13 x14 t6 t7 t8 t9 t10 t11 t12 t13 t14
          cases fb
          · go_wp2_with fail
            go_roundw
            case rel => exact ⟨k + 1, z + 1, S, by omega, by have := HZ.out; omega, by go_num, T2.less (fun j hj => .inl hj), ⟨HI.out.1, by have := HI.out.2; omega⟩, hb2⟩
            case measure => simp [intOf]; have := HZ.out; omega
          · have c0 := RX2.cell 0 _ rfl
            go_upto_block 2 with fail
            refine wp_next (playsSw_any w w2 T2 RX2 hb2 HI HK70 HWk HAk HG _ ?_)
            intro u12 u13 u14 u15 u16 u66 u67 u68 u69 u70 u71 u72 u73 u74 u75 u76 u77 u78 u79 u80 u81 u82 u83 u84 u85 u86 u87 u88 u89 u90 u91 u92 u93 u94 u95 u96 u97 u98 u99 u100 u101 u102 u103 u104 u105 u106 u107 u108 u109 u110 u111 u112 u113 u114 u115 u116 u117 u118 u119 u120 u121 u122 u123 u124 u125 u126 u127 u128 u129 u130 u131 u132 u133 u134 u135 u136 u137 u138 u139 u140 u141 u142 u143 u144 u145 u146 u147 u148 u149 u150 u151 u152 u153 u154 u155 u156 u157 u158 u159 u160 u161 u162 u163 u164 u165 wc hcut
            clear T2 RX2 hb2 c0
            obtain ⟨S9, T9, R9, HI9, hb9⟩ := hcut
            obtain ⟨lv, va, vc, sa, sc, RB9, _, _⟩ := T9.box
            have T9a := T9
            obtain ⟨Gp, Gr, pP, rR, _, _, _⟩ := T9a
            obtain ⟨⟨⟨rw_, rc, rs, rq, rd, rg⟩, re⟩, hrd⟩ : ∃ x, readS S9 key b0 b1 b2 b3 = x := ⟨_, rfl⟩
            have RR := rread_any key b0 b1 b2 b3 _ rR HI9.out.1
            rw [hrd] at RR
            have k2 := R9.cell 2 _ rfl
            have k3 := R9.cell 3 _ rfl
            have k4 := R9.cell 4 _ rfl
            have k5 := R9.cell 5 _ rfl
            go_wp2_with fail
            clear k2 k3 k4 k5
            refine RR.mono ?_
            rintro e wd ⟨rfl, hbd⟩
            rw [show verL ((⟨rw_, rc, rs, rq, rd, rg⟩, re) : Ver × Int).1 = [.int .i64 rw_, .int .i64 rc, .int .i64 rs, .int .i64 rq, .string rd, .bool rg] from rfl]
            have bd := boxed hbd (.cells #[.int .i64 rw_, .int .i64 rc, .int .i64 rs, .int .i64 rq, .string rd, .bool rg] 59)
            have RE := R9.later bd
            have k2 := RE.cell 2 _ rfl
            have k3 := RE.cell 3 _ rfl
            have k4 := RE.cell 4 _ rfl
            have k5 := RE.cell 5 _ rfl
            have Q1 := RowL.new (w := wd) (T := 59) [.int .i64 rw_, .int .i64 rc, .int .i64 rs, .int .i64 rq, .string rd, .bool rg] rfl
            change RowL (wd.alloc (.cells #[.int .i64 rw_, .int .i64 rc, .int .i64 rs, .int .i64 rq, .string rd, .bool rg] 59)) wd.heap.size [.int .i64 rw_, .int .i64 rc, .int .i64 rs, .int .i64 rq, .string rd, .bool rg] at Q1
            have RR2 := pread_site key b0 b1 b2 b3 _ (pP.later bd) HI9.out.1
            rw [hrd] at RR2
            clear RR hrd
            go_wp2_with fail
            refine RR2.mono ?_
            rintro e we ⟨rfl, hbe⟩
            rw [show verL ((⟨rw_, rc, rs, rq, rd, rg⟩, re) : Ver × Int).1 = [.int .i64 rw_, .int .i64 rc, .int .i64 rs, .int .i64 rq, .string rd, .bool rg] from rfl]
            have be := boxed (behind bd hbe) (.cells #[.int .i64 rw_, .int .i64 rc, .int .i64 rs, .int .i64 rq, .string rd, .bool rg] 59)
            have Q1e := (Q1.later hbe).boxed (.cells #[.int .i64 rw_, .int .i64 rc, .int .i64 rs, .int .i64 rq, .string rd, .bool rg] 59)
            have Q2 := RowL.new (w := we) (T := 59) [.int .i64 rw_, .int .i64 rc, .int .i64 rs, .int .i64 rq, .string rd, .bool rg] rfl
            change RowL (we.alloc (.cells #[.int .i64 rw_, .int .i64 rc, .int .i64 rs, .int .i64 rq, .string rd, .bool rg] 59)) we.heap.size [.int .i64 rw_, .int .i64 rc, .int .i64 rs, .int .i64 rq, .string rd, .bool rg] at Q2
            have HS : St35 wr.heap.size wd.heap.size we.heap.size br _ [.int .i64 rw_, .int .i64 rc, .int .i64 rs, .int .i64 rq, .string rd, .bool rg] (siteC S9 lv (.slice va S9.waits.length vc) (.slice sa S9.l.length sc)) (we.alloc (.cells #[.int .i64 rw_, .int .i64 rc, .int .i64 rs, .int .i64 rq, .string rd, .bool rg] 59)) := ⟨R9.later be, Q1e, Q2, RB9.later be⟩
            have HPe : Hid (PS (we.alloc (.cells #[.int .i64 rw_, .int .i64 rc, .int .i64 rs, .int .i64 rq, .string rd, .bool rg] 59)) bp Gp S9) := pP.later be
            have HRe : Hid (RS (we.alloc (.cells #[.int .i64 rw_, .int .i64 rc, .int .i64 rs, .int .i64 rq, .string rd, .bool rg] 59)) br Gr S9) := rR.later be
            have HI9' : Hid (InvS S9) := HI9.out.1
            have HGe : Hid ((we.alloc (.cells #[.int .i64 rw_, .int .i64 rc, .int .i64 rs, .int .i64 rq, .string rd, .bool rg] 59)).cell? ⟨0, 0, none⟩ = some (.iface 186 (.agg #[.pointer (some ⟨1, 25, none⟩)]))) := cell_later (behind hb9 be) HG.out
            have TE : Hid (TwoS (we.alloc (.cells #[.int .i64 rw_, .int .i64 rc, .int .i64 rs, .int .i64 rq, .string rd, .bool rg] 59)) bp br S9 S9 (fun j => j < w.heap.size) NoB) := (T9.later be).less (fun j hj => .inl hj)
            have bE : Hid (Below w.heap.size w (we.alloc (.cells #[.int .i64 rw_, .int .i64 rc, .int .i64 rs, .int .i64 rq, .string rd, .bool rg] 59))) := behind hb9 be
            clear k2 k3 k4 k5 RE bd hbd hbe be RR2 Q1 Q1e Q2 pP rR T9 R9 RB9 hb9
            go_wp2_with fail
            refine wp_next (playsR35_any _ HPe HRe HI9' HS HGe _ ?_)
            intro u182 u183 u184 u185 u186 u187 u188 u189 u190 u191 u192 u193 u194 u195 u196 u197 u198 u199 u200 u201 u202 u203 u204 u205 u206 u207 u208 u209 u210 u211 u212 u213 u214 u215 u216 u217 u218 u219 u220 u221 u222 u223 u224 u225 u226 u227 u228 u229 u230 u231 u232 u233 u234 u235 u236 u237 u238 u239 u240 u241 u242 u243 u244 u245 u246 u247 u248 u249 u250 u251 u252 u253 u254 u255 u256 w' hbw
            have TF : Hid (TwoS w' bp br S9 S9 (fun j => j < w.heap.size) NoB) := TE.out.later hbw
            have bF := behind bE.out hbw
            clear HS HPe HRe HGe TE bE hbw
            go_wp2_with fail
            go_roundw
            case rel => exact ⟨k + 1, z + 1, S9, by omega, by have := HZ.out; omega, by go_num, TF, ⟨HI9'.out, HI9.out.2⟩, bF⟩
            case measure => simp [intOf]; have := HZ.out; omega
        · have h1 : ¬ z < (l.length : Int) := by have := HZ.out; omega
          go_wp2_with fail
          go_ret
          exact ⟨rfl, hb⟩

end Go.Proofs.YtplbdmcfghhbdaaGreatDoor
