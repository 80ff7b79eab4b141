/-
  'copselaw.SessionPlays' returns true: the walk.
-/
import Derived.Test.YtpncedpfoakfkaaGreatDoorSiteJ
import Derived.Deep.CutBlock
import Derived.Test.YtpncedpfoakfkaaGreatDoorSiteK
import Derived.Test.YtpncedpfoakfkaaGreatDoorSsR47
namespace Go.Proofs.YtpncedpfoakfkaaGreatDoor
open Go.RowKit

set_option maxRecDepth 1000000 in
set_option maxHeartbeats 16000000 in
theorem sessionPlays_walk (a : Option Addr) (cap : Nat) (l : List TurnV) (w : World) (hD : TurnIn w a cap l) (hg : w.cell? ⟨0, 0, none⟩ = some (.iface 186 (.agg #[.pointer (some ⟨1, 25, none⟩)]))) :
    Calls Tryz.prog 4 #[.slice a l.length cap] w fun e w' => e = .returned (.bool true) ∧ Below w.heap.size w w' := by
  have HG : Hid (w.cell? ⟨0, 0, none⟩ = some (.iface 186 (.agg #[.pointer (some ⟨1, 25, none⟩)]))) := hg
  clear hg
  by_cases h80 : 80 < (l.length : Int)
  · go_enter Tryz.func4, Tryz.ntmps4
    go_wp2_with fail
    go_ret
    exact ⟨rfl, Below.refl _ _⟩
  · have NW := psnew_any w
    go_enter Tryz.func4, Tryz.ntmps4
    go_wp2_with fail
    refine NW.mono ?_
    rintro e w1 ⟨rfl, P1, hb1⟩
    clear NW
    go_wp2_with fail
    go_loopw [7] (fun kv wr => ∃ (n : Nat) (z : Int) (bp br : Nat → Nat), n ≤ 2 ∧ z = n ∧ kv = .int .i64 z ∧ Hid (Made w w.heap.size w1.heap.size (w1.heap.size + 1) (w1.heap.size + 2) n bp br wr)) (fun kv _ => 2 - (intOf kv).toNat)
    case atStart => exact ⟨0, 0, fun _ => 0, fun _ => 0, by omega, rfl, rfl, Made.first (fun _ => 0) P1 (Nat.le_refl _) hb1⟩
    case round =>
      clear P1 hb1
      obtain ⟨n, z, bp, br, hn, hz, rfl, HM⟩ := hrel
      have hc : n = 0 ∨ n = 1 ∨ n = 2 := by omega
      rcases hc with rfl | rfl | rfl
      · skip
        have hz' : z = 0 := by omega
        subst hz'
        have NN := new_any 0 wr (by decide) (by decide)
        clear hn hz
        go_wp2_with fail
        refine NN.mono ?_
        rintro e w2 ⟨rfl, hP, hb2⟩
        have R5 := HM.out.r5.later hb2
        have R6 := HM.out.r6.later hb2
        have g5 := R5.cell 0 _ rfl
        have g6 := R6.cell 0 _ rfl
        have f5 := R5.free 0 (by simp)
        have f6 := R6.free 0 (by simp)
        have lt5 := R5.lt
        have lt6 := R6.lt
        have ho := HM.out.o1
        have n56 : ¬ w1.heap.size + 1 = w1.heap.size + 2 := by omega
        clear NN R5 R6 ho
        go_wp2_with fail
        go_roundw
        case rel => exact ⟨1, 1, _, _, by omega, rfl, rfl, HM.out.next (by decide) hP hb2 41 _ rfl⟩
        case measure => simp [intOf]
      · skip
        have hz' : z = 1 := by omega
        subst hz'
        have NN := new_any 1 wr (by decide) (by decide)
        clear hn hz
        go_wp2_with fail
        refine NN.mono ?_
        rintro e w2 ⟨rfl, hP, hb2⟩
        have R5 := HM.out.r5.later hb2
        have R6 := HM.out.r6.later hb2
        have g5 := R5.cell 1 _ rfl
        have g6 := R6.cell 1 _ rfl
        have f5 := R5.free 1 (by simp)
        have f6 := R6.free 1 (by simp)
        have lt5 := R5.lt
        have lt6 := R6.lt
        have ho := HM.out.o1
        have n56 : ¬ w1.heap.size + 1 = w1.heap.size + 2 := by omega
        clear NN R5 R6 ho
        go_wp2_with fail
        go_roundw
        case rel => exact ⟨2, 2, _, _, by omega, rfl, rfl, HM.out.next (by decide) hP hb2 41 _ rfl⟩
        case measure => simp [intOf]
      · have hz' : z = 2 := by omega
        subst hz'
        clear hn hz
        obtain ⟨TS, R5S, R6S, IS⟩ := HM.out.six
        have hbS := HM.out.hb
        clear HM
        go_wp2_with fail
        go_loopw [10, 11] (fun av iv wr => ∃ (k : Nat) (z az : Int) (S : Nat → SiteS) (s : SesS), k ≤ l.length ∧ z = k ∧ iv = .int .i64 z ∧ av = .int .i64 az ∧ 0 ≤ az ∧ az < 2 ∧ Hid (Six wr bp br w.heap.size w1.heap.size S S s s (fun j => j < w.heap.size ∨ (j = w1.heap.size + 1 ∨ j = w1.heap.size + 2)) 6 NoY) ∧ Hid (RowL wr (w1.heap.size + 1) (ptrs bp) ∧ RowL wr (w1.heap.size + 2) (ptrs br)) ∧ Hid (SInv k S s) ∧ Below w.heap.size w wr) (fun _ i _ => l.length - (intOf i).toNat)
        case atStart => exact ⟨0, 0, 0, fun i => newS i, newSes, by omega, rfl, rfl, rfl, by decide, by decide, TS, ⟨R5S, R6S⟩, IS, hbS⟩
        case round =>
          clear TS R5S R6S IS hbS
          obtain ⟨k, z, az, S, s, hk, hz, rfl, rfl, h0, h2, HT, HRR, HI, hb⟩ := hrel
          have HZ : Hid (z = k) := hz
          by_cases hlt : k < l.length
          · have h1 : z < (l.length : Int) := by omega
            have h2' : z.toNat = k := by omega
            have h3 : 0 ≤ z := by omega
            clear hz
            have hP4 := hD.later hb
            obtain ⟨ab, off, rfl, hcc⟩ : ∃ b off, a = some ⟨b, off, none⟩ ∧ ∀ i r u, i < l.length → (turnC (turnAt l i))[r]? = some u → wr.cell? ⟨b, off + (i * 16 + r), none⟩ = some u := by
              rcases hP4.held with h0 | h0
              · rw [h0] at hlt; simp at hlt
              · exact h0
            obtain ⟨⟨what, tsi, key, now, ⟨xk, xd, xg⟩, ⟨⟨site, seq, wall, count, d0, d1, d2, d3, ws⟩, ta, tcap⟩⟩, hx⟩ : ∃ x, turnAt l k = x := ⟨_, rfl⟩
            have HWk : Hid (WrIn w ta tcap ws) := by have := hD.wr k hlt; rw [hx] at this; exact this
            have HKW : Hid ((Lit.int .i64 key).wf = true) := by have := hD.wf k hlt; rw [hx] at this; exact this
            have x0 : wr.cell? ⟨ab, off + k * 16, none⟩ = some (.int .i64 what) := hcc k 0 _ hlt (by rw [hx]; rfl)
            have x1 : wr.cell? ⟨ab, off + k * 16 + 1, none⟩ = some (.int .i64 tsi) := hcc k 1 _ hlt (by rw [hx]; rfl)
            have x2 : wr.cell? ⟨ab, off + k * 16 + 2, none⟩ = some (.int .i64 key) := hcc k 2 _ hlt (by rw [hx]; rfl)
            have x3 : wr.cell? ⟨ab, off + k * 16 + 3, none⟩ = some (.int .i64 now) := hcc k 3 _ hlt (by rw [hx]; rfl)
            have x4 : wr.cell? ⟨ab, off + k * 16 + 4, none⟩ = some (.int .i64 xk) := hcc k 4 _ hlt (by rw [hx]; rfl)
            have x5 : wr.cell? ⟨ab, off + k * 16 + 5, none⟩ = some (.string xd) := hcc k 5 _ hlt (by rw [hx]; rfl)
            have x6 : wr.cell? ⟨ab, off + k * 16 + 6, none⟩ = some (.bool xg) := hcc k 6 _ hlt (by rw [hx]; rfl)
            have x7 : wr.cell? ⟨ab, off + k * 16 + 7, none⟩ = some (.int .i64 site) := hcc k 7 _ hlt (by rw [hx]; rfl)
            have x8 : wr.cell? ⟨ab, off + k * 16 + 8, none⟩ = some (.int .i64 seq) := hcc k 8 _ hlt (by rw [hx]; rfl)
            have x9 : wr.cell? ⟨ab, off + k * 16 + 9, none⟩ = some (.int .i64 wall) := hcc k 9 _ hlt (by rw [hx]; rfl)
            have x10 : wr.cell? ⟨ab, off + k * 16 + 10, none⟩ = some (.int .i64 count) := hcc k 10 _ hlt (by rw [hx]; rfl)
            have x11 : wr.cell? ⟨ab, off + k * 16 + 11, none⟩ = some (.int .i64 d0) := hcc k 11 _ hlt (by rw [hx]; rfl)
            have x12 : wr.cell? ⟨ab, off + k * 16 + 12, none⟩ = some (.int .i64 d1) := hcc k 12 _ hlt (by rw [hx]; rfl)
            have x13 : wr.cell? ⟨ab, off + k * 16 + 13, none⟩ = some (.int .i64 d2) := hcc k 13 _ hlt (by rw [hx]; rfl)
            have x14 : wr.cell? ⟨ab, off + k * 16 + 14, none⟩ = some (.int .i64 d3) := hcc k 14 _ hlt (by rw [hx]; rfl)
            have x15 : wr.cell? ⟨ab, off + k * 16 + 15, none⟩ = some (.slice ta ws.length tcap) := hcc k 15 _ hlt (by rw [hx]; rfl)
            clear hx hcc hP4
            have T1 := HT.out.new (.cells #[.int .i64 what, .int .i64 tsi, .int .i64 key, .int .i64 now, .int .i64 xk, .string xd, .bool xg, .int .i64 site, .int .i64 seq, .int .i64 wall, .int .i64 count, .int .i64 d0, .int .i64 d1, .int .i64 d2, .int .i64 d3, .slice ta ws.length tcap] 85)
            have RX := RowL.new (w := wr) (T := 85) [.int .i64 what, .int .i64 tsi, .int .i64 key, .int .i64 now, .int .i64 xk, .string xd, .bool xg, .int .i64 site, .int .i64 seq, .int .i64 wall, .int .i64 count, .int .i64 d0, .int .i64 d1, .int .i64 d2, .int .i64 d3, .slice ta ws.length tcap] rfl
            change RowL (wr.alloc (.cells #[.int .i64 what, .int .i64 tsi, .int .i64 key, .int .i64 now, .int .i64 xk, .string xd, .bool xg, .int .i64 site, .int .i64 seq, .int .i64 wall, .int .i64 count, .int .i64 d0, .int .i64 d1, .int .i64 d2, .int .i64 d3, .slice ta ws.length tcap] 85)) wr.heap.size [.int .i64 what, .int .i64 tsi, .int .i64 key, .int .i64 now, .int .i64 xk, .string xd, .bool xg, .int .i64 site, .int .i64 seq, .int .i64 wall, .int .i64 count, .int .i64 d0, .int .i64 d1, .int .i64 d2, .int .i64 d3, .slice ta ws.length tcap] at RX
            have bz := boxed (Below.refl _ wr) (.cells #[.int .i64 what, .int .i64 tsi, .int .i64 key, .int .i64 now, .int .i64 xk, .string xd, .bool xg, .int .i64 site, .int .i64 seq, .int .i64 wall, .int .i64 count, .int .i64 d0, .int .i64 d1, .int .i64 d2, .int .i64 d3, .slice ta ws.length tcap] 85)
            have H1 : SH (w1.heap.size + 1) (w1.heap.size + 2) wr.heap.size bp br [.int .i64 what, .int .i64 tsi, .int .i64 key, .int .i64 now, .int .i64 xk, .string xd, .bool xg, .int .i64 site, .int .i64 seq, .int .i64 wall, .int .i64 count, .int .i64 d0, .int .i64 d1, .int .i64 d2, .int .i64 d3, .slice ta ws.length tcap] (wr.alloc (.cells #[.int .i64 what, .int .i64 tsi, .int .i64 key, .int .i64 now, .int .i64 xk, .string xd, .bool xg, .int .i64 site, .int .i64 seq, .int .i64 wall, .int .i64 count, .int .i64 d0, .int .i64 d1, .int .i64 d2, .int .i64 d3, .slice ta ws.length tcap] 85)) := ⟨HRR.out.1.later bz, HRR.out.2.later bz, RX⟩
            have hb1 := boxed hb (.cells #[.int .i64 what, .int .i64 tsi, .int .i64 key, .int .i64 now, .int .i64 xk, .string xd, .bool xg, .int .i64 site, .int .i64 seq, .int .i64 wall, .int .i64 count, .int .i64 d0, .int .i64 d1, .int .i64 d2, .int .i64 d3, .slice ta ws.length tcap] 85)
            have FW := few_any site seq wall count d0 d1 d2 d3 ta tcap ws _ (HWk.out.later hb1)
            obtain ⟨fb, hfb⟩ : ∃ fb, fewB ws = fb := ⟨_, rfl⟩
            rw [hfb] at FW
            have t7 := RX.cell 7 _ rfl
            have t8 := RX.cell 8 _ rfl
            have t9 := RX.cell 9 _ rfl
            have t10 := RX.cell 10 _ rfl
            have t11 := RX.cell 11 _ rfl
            have t12 := RX.cell 12 _ rfl
            have t13 := RX.cell 13 _ rfl
            have t14 := RX.cell 14 _ rfl
            have t15 := RX.cell 15 _ rfl
            clear bz
            go_wp2_with fail
            refine FW.mono ?_
            rintro e w2 ⟨rfl, hbf⟩
            have T2 := T1.later hbf
            have H2 := H1.later hbf
            have hb2 := behind hb1 hbf
            clear T1 RX H1 hb1 hbf FW hfb HT HRR x0 x1 x2 x3 x4 x5 x6 x7 x8 x9 x10 x11 x12 x13 x14 x15 t7 t8 t9 t10 t11 t12 t13 t14 t15
            cases fb
            · skip
              go_wp2_with fail
              go_roundw
              case rel => exact ⟨k + 1, z + 1, az, S, s, by omega, by have := HZ.out; omega, by go_num, rfl, h0, h2, T2.less (fun k hk => .inl hk), ⟨H2.r5, H2.r6⟩, HI.out.mono (Nat.le_succ k), hb2⟩
              case measure => simp [intOf]; have := HZ.out; omega
            · have c5 := H2.x.cell 5 _ rfl
              by_cases hlen : 100 < (xd.size : Int)
              · skip
                go_wp2_with fail
                go_roundw
                case rel => exact ⟨k + 1, z + 1, az, S, s, by omega, by have := HZ.out; omega, by go_num, rfl, h0, h2, T2.less (fun k hk => .inl hk), ⟨H2.r5, H2.r6⟩, HI.out.mono (Nat.le_succ k), hb2⟩
                case measure => simp [intOf]; have := HZ.out; omega
              · obtain ⟨wv, RB⟩ := T2.box
                have c8 := RB.cell 8 _ rfl
                have c0 := H2.x.cell 0 _ rfl
                have c1 := H2.x.cell 1 _ rfl
                clear RB
                change w2.cell? ⟨w1.heap.size, 8, none⟩ = some (.bool s.opn) at c8
                cases ho : s.opn
                · rw [ho] at c8
                  obtain ⟨r, hr, hr2⟩ := pick2 tsi
                  clear ho
                  have HT2 : Hid (Six w2 bp br w.heap.size w1.heap.size S S s s (SX w.heap.size (w1.heap.size + 1) (w1.heap.size + 2) wr.heap.size) 6 NoY) := T2.less (fun k hk => by rcases hk with h | h | h | h; exact .inl (.inl h); exact .inl (.inr (.inl h)); exact .inl (.inr (.inr h)); exact .inr h)
                  go_upto_block 4 with fail
                  rw [hr]
                  refine wp_next (sesSw_any w w2 HT2.out H2 hb2 ⟨HI.out, by omega⟩ (by omega : (0 : Int) ≤ (r : Int)) (by omega : (r : Int) < 2) HWk HKW HG _ ?_)
                  intro u13 u14 u15 u16 u17 u18 u19 u20 u85 u86 u87 u88 u89 u90 u91 u92 u93 u94 u95 u96 u97 u98 u99 u100 u101 u102 u103 u104 u105 u106 u107 u108 u109 u110 u111 u112 u113 u114 u115 u116 u117 u118 u119 u120 u121 u122 u123 u124 u125 u126 u127 u128 u129 u130 u131 u132 u133 u134 u135 u136 u137 u138 u139 u140 u141 u142 u143 u144 u145 u146 u147 u148 u149 u150 u151 u152 u153 u154 u155 u156 u157 u158 u159 u160 u161 u162 u163 u164 u165 u166 u167 u168 u169 u170 u171 u172 u173 u174 u175 u176 u177 u178 u179 u180 u181 u182 u183 u184 u185 u186 u187 u188 u189 u190 u191 u192 u193 u194 u195 u196 u197 wc hcut
                  clear HT2 T2 H2 hb2 c0
                  obtain ⟨S9, s9, T9, R59, R69, HI9, hb9⟩ := hcut
                  go_wp2_with fail
                  refine wp_next (sesR47_any wc T9 _ ?_)
                  intro u198 u199 u200 u201 u202 u203 u204 u205 u206 u207 u208 u209 u210 u211 u212 u213 u214 u215 u216 u217 u218 u219 u220 u221 wd hbd
                  have TF := (T9.later hbd).less (X' := fun j => j < w.heap.size ∨ (j = w1.heap.size + 1 ∨ j = w1.heap.size + 2)) (o' := 6) (fun k hk => by rcases hk with h | h | h; exact .inl h; exact .inr (.inl h); exact .inr (.inr (.inl h)))
                  have R5F := R59.later hbd
                  have R6F := R69.later hbd
                  have hbF := behind hb9 hbd
                  clear T9 R59 R69 hb9 hbd
                  go_wp2_with fail
                  have REL : ∃ (k' : Nat) (z' az' : Int) (S : Nat → SiteS) (s : SesS), k' ≤ l.length ∧ z' = k' ∧ Value.int .i64 (z + 1) = .int .i64 z' ∧ Value.int .i64 (r : Int) = .int .i64 az' ∧ 0 ≤ az' ∧ az' < 2 ∧ Hid (Six wd bp br w.heap.size w1.heap.size S S s s (fun j => j < w.heap.size ∨ (j = w1.heap.size + 1 ∨ j = w1.heap.size + 2)) 6 NoY) ∧ Hid (RowL wd (w1.heap.size + 1) (ptrs bp) ∧ RowL wd (w1.heap.size + 2) (ptrs br)) ∧ Hid (SInv k' S s) ∧ Below w.heap.size w wd := ⟨k + 1, z + 1, (r : Int), S9, s9, by omega, by have := HZ.out; omega, rfl, rfl, (by omega : (0 : Int) ≤ (r : Int)), (by omega : (r : Int) < 2), TF, ⟨R5F, R6F⟩, HI9, hbF⟩
                  refine ⟨⟨_, _, _, _, _, _, _, _, _, _, _, _, _, _, _, _, _, _, _, _, _, _, _, _, _, _, _, _, _, _, _, _, _, _, _, _, _, _, _, _, _, _, _, _, _, _, _, _, _, _, _, _, _, _, _, _, _, _, _, _, _, _, _, _, _, _, _, _, _, _, _, _, _, _, _, _, _, _, _, _, _, _, _, _, _, _, _, _, _, _, _, _, _, _, _, _, _, _, _, _, _, _, _, _, _, _, _, _, _, _, _, _, _, _, _, _, _, _, _, _, _, _, _, _, _, _, _, _, _, _, _, _, _, _, _, _, _, _, _, _, _, _, _, _, _, _, _, _, _, _, _, _, _, _, _, _, _, _, _, _, _, _, _, _, _, _, _, _, _, _, _, _, _, _, _, _, _, _, _, _, _, _, _, REL, rfl⟩, ?_⟩
                  simp [intOf]; have := HZ.out; omega
                · rw [ho] at c8
                  clear ho
                  have HT2 : Hid (Six w2 bp br w.heap.size w1.heap.size S S s s (SX w.heap.size (w1.heap.size + 1) (w1.heap.size + 2) wr.heap.size) 6 NoY) := T2.less (fun k hk => by rcases hk with h | h | h | h; exact .inl (.inl h); exact .inl (.inr (.inl h)); exact .inl (.inr (.inr h)); exact .inr h)
                  go_upto_block 4 with fail
                  refine wp_next (sesSw_any w w2 HT2.out H2 hb2 ⟨HI.out, by omega⟩ h0 h2 HWk HKW HG _ ?_)
                  intro u13 u14 u15 u16 u17 u18 u19 u20 u85 u86 u87 u88 u89 u90 u91 u92 u93 u94 u95 u96 u97 u98 u99 u100 u101 u102 u103 u104 u105 u106 u107 u108 u109 u110 u111 u112 u113 u114 u115 u116 u117 u118 u119 u120 u121 u122 u123 u124 u125 u126 u127 u128 u129 u130 u131 u132 u133 u134 u135 u136 u137 u138 u139 u140 u141 u142 u143 u144 u145 u146 u147 u148 u149 u150 u151 u152 u153 u154 u155 u156 u157 u158 u159 u160 u161 u162 u163 u164 u165 u166 u167 u168 u169 u170 u171 u172 u173 u174 u175 u176 u177 u178 u179 u180 u181 u182 u183 u184 u185 u186 u187 u188 u189 u190 u191 u192 u193 u194 u195 u196 u197 wc hcut
                  clear HT2 T2 H2 hb2 c0
                  obtain ⟨S9, s9, T9, R59, R69, HI9, hb9⟩ := hcut
                  go_wp2_with fail
                  refine wp_next (sesR47_any wc T9 _ ?_)
                  intro u198 u199 u200 u201 u202 u203 u204 u205 u206 u207 u208 u209 u210 u211 u212 u213 u214 u215 u216 u217 u218 u219 u220 u221 wd hbd
                  have TF := (T9.later hbd).less (X' := fun j => j < w.heap.size ∨ (j = w1.heap.size + 1 ∨ j = w1.heap.size + 2)) (o' := 6) (fun k hk => by rcases hk with h | h | h; exact .inl h; exact .inr (.inl h); exact .inr (.inr (.inl h)))
                  have R5F := R59.later hbd
                  have R6F := R69.later hbd
                  have hbF := behind hb9 hbd
                  clear T9 R59 R69 hb9 hbd
                  go_wp2_with fail
                  have REL : ∃ (k' : Nat) (z' az' : Int) (S : Nat → SiteS) (s : SesS), k' ≤ l.length ∧ z' = k' ∧ Value.int .i64 (z + 1) = .int .i64 z' ∧ Value.int .i64 az = .int .i64 az' ∧ 0 ≤ az' ∧ az' < 2 ∧ Hid (Six wd bp br w.heap.size w1.heap.size S S s s (fun j => j < w.heap.size ∨ (j = w1.heap.size + 1 ∨ j = w1.heap.size + 2)) 6 NoY) ∧ Hid (RowL wd (w1.heap.size + 1) (ptrs bp) ∧ RowL wd (w1.heap.size + 2) (ptrs br)) ∧ Hid (SInv k' S s) ∧ Below w.heap.size w wd := ⟨k + 1, z + 1, az, S9, s9, by omega, by have := HZ.out; omega, rfl, rfl, h0, h2, TF, ⟨R5F, R6F⟩, HI9, hbF⟩
                  refine ⟨⟨_, _, _, _, _, _, _, _, _, _, _, _, _, _, _, _, _, _, _, _, _, _, _, _, _, _, _, _, _, _, _, _, _, _, _, _, _, _, _, _, _, _, _, _, _, _, _, _, _, _, _, _, _, _, _, _, _, _, _, _, _, _, _, _, _, _, _, _, _, _, _, _, _, _, _, _, _, _, _, _, _, _, _, _, _, _, _, _, _, _, _, _, _, _, _, _, _, _, _, _, _, _, _, _, _, _, _, _, _, _, _, _, _, _, _, _, _, _, _, _, _, _, _, _, _, _, _, _, _, _, _, _, _, _, _, _, _, _, _, _, _, _, _, _, _, _, _, _, _, _, _, _, _, _, _, _, _, _, _, _, _, _, _, _, _, _, _, _, _, _, _, _, _, _, _, _, _, _, _, _, _, _, _, REL, rfl⟩, ?_⟩
                  simp [intOf]; have := HZ.out; omega
          · have h1 : ¬ z < (l.length : Int) := by have := HZ.out; omega
            go_wp2_with fail
            go_ret
            exact ⟨rfl, hb⟩

end Go.Proofs.YtpncedpfoakfkaaGreatDoor
