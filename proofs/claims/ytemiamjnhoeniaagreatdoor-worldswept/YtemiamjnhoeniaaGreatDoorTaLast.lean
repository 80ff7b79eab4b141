/-
  The last write of a key among all that a vector has (copsekeep's tale.last), as the model runs it.
-/
import Derived.Test.YtemiamjnhoeniaaGreatDoorSiteC
import Derived.Test.YtemiamjnhoeniaaGreatDoorSiteB
import Derived.Maps.AppendAt
import Derived.Test.YtemiamjnhoeniaaGreatDoorClock
import Derived.Test.YtemiamjnhoeniaaGreatDoorSiteA
namespace Go.Proofs.YtemiamjnhoeniaaGreatDoor
open Go.RowKit

theorem histL_succ {H : List TxP} {i : Nat} {t : TxP} (h : H[i]? = some t) : histL (H.take (i + 1)) = histL (H.take i) ++ verL1 t t.ws := by
  unfold histL
  rw [List.take_add_one, h, List.flatMap_append]
  simp
theorem lastV_append (key a0 a1 a2 a3 : Int) (l l' : List Hd) : lastV key a0 a1 a2 a3 (l ++ l') = l'.foldl (stepV key a0 a1 a2 a3) (lastV key a0 a1 a2 a3 l) := by unfold lastV; rw [List.foldl_append]
theorem fold_skip {key a0 a1 a2 a3 : Int} {t : TxP} (h : depOf t.site a0 a1 a2 a3 < t.seq) : ∀ (ws : List Wr) (cur : Option Ver), (verL1 t ws).foldl (stepV key a0 a1 a2 a3) cur = cur
  | [], _ => rfl
  | x :: ws, cur => by
    show (verL1 t ws).foldl _ (stepV key a0 a1 a2 a3 cur ⟨x.key, verOf t x⟩) = cur
    rw [stepV_none (fun q => by
      have q2 : t.seq ≤ depOf t.site a0 a1 a2 a3 := of_decide_eq_true q.2.1
      omega), fold_skip h ws cur]
theorem fold_next {key a0 a1 a2 a3 : Int} {t : TxP} {ws : List Wr} {j : Nat} (hj : j < ws.length) (cur : Option Ver) : (verL1 t (ws.take (j + 1))).foldl (stepV key a0 a1 a2 a3) cur = stepV key a0 a1 a2 a3 ((verL1 t (ws.take j)).foldl (stepV key a0 a1 a2 a3) cur) ⟨(wrAt ws j).key, verOf t (wrAt ws j)⟩ := by
  unfold verL1
  rw [List.take_succ_eq_append_getElem hj, List.map_append, List.foldl_append]
  simp [wrAt, List.getD, List.getElem?_eq_getElem hj]
def newerB (best : Option Ver) (v : Ver) : Bool := match best with | none => true | some b => beforeV b v
theorem stepV_yes {key a0 a1 a2 a3 : Int} {best : Option Ver} {h : Hd} (h1 : h.key = key) (h2 : hasV a0 a1 a2 a3 h.v = true) (h3 : newerB best h.v = true) : stepV key a0 a1 a2 a3 best h = some h.v := stepV_some ⟨h1, h2, h3⟩
theorem stepV_no {key a0 a1 a2 a3 : Int} {best : Option Ver} {h : Hd} (h3 : newerB best h.v = false) : stepV key a0 a1 a2 a3 best h = best := stepV_none (fun q => by
  have q3 : newerB best h.v = true := q.2.2
  rw [h3] at q3
  cases q3)
def BestAt (all : List TxM) (cur : Option Ver) (bz : Int) (d : ByteArray) (g : Bool) : Prop := match cur with
  | none => bz = -1 ∧ d = ⟨#[]⟩ ∧ g = true
  | some v => ∃ j : Nat, bz = (j : Int) ∧ (∃ m, all[j]? = some m ∧ m.t.wall = v.wall ∧ m.t.count = v.count ∧ m.t.site = v.site) ∧ d = v.data ∧ g = v.gone
theorem BestAt.told {all : List TxM} {H : List TxP} {key a0 a1 a2 a3 bz : Int} {d : ByteArray} {g : Bool} (h : BestAt all (lastV key a0 a1 a2 a3 (histL H)) bz d g) : (d, !g) = lastT H key a0 a1 a2 a3 := by
  unfold lastT
  cases e : lastV key a0 a1 a2 a3 (histL H) with
  | none =>
    rw [e] at h
    obtain ⟨_, rfl, rfl⟩ := h
    rfl
  | some v =>
    rw [e] at h
    obtain ⟨j, _, _, rfl, rfl⟩ := h
    rfl
theorem before_lt {a b : Ver} (h : cmpS a.wall a.count b.wall b.count < 0) : beforeV a b = true := by
  unfold beforeV
  rw [if_neg (by omega)]
  exact decide_eq_true h
theorem before_same {a b : Ver} (h : same2 a.wall a.count b.wall b.count = true) : beforeV a b = decide (a.site < b.site) := by
  have e := cmpS_cases a.wall a.count b.wall b.count
  have q : a.wall = b.wall ∧ a.count = b.count := by simpa [same2] using h
  unfold beforeV
  rw [if_pos]
  rcases e with e | e | e
  · omega
  · exact e.2
  · omega
theorem before_gt {a b : Ver} (h : ¬ cmpS a.wall a.count b.wall b.count < 0) (h2 : same2 a.wall a.count b.wall b.count = false) : beforeV a b = false := by
  have e := cmpS_cases a.wall a.count b.wall b.count
  unfold beforeV
  rw [if_neg]
  · exact decide_eq_false h
  · intro q
    rcases e with e | e | e
    · omega
    · have : same2 a.wall a.count b.wall b.count = true := by simp [same2, e.1.1, e.1.2]
      rw [h2] at this
      cases this
    · omega
set_option maxRecDepth 100000 in
set_option maxHeartbeats 16000000 in
theorem talast_any {b : Nat} {a : Option Addr} {cap : Nat} {all : List TxM} (key a0 a1 a2 a3 : Int) (w : World) (hS : w.cell? ⟨b, 3, none⟩ = some (.slice a all.length cap)) (hT : TxsIn w a cap all) (hW : ∀ m ∈ all, WrIn w m.wa m.wc m.t.ws) (hs : ∀ m ∈ all, 0 ≤ m.t.site ∧ m.t.site ≤ 3) :
    Calls Tryz.prog 24 #[.pointer (some ⟨b, 0, none⟩), .int .i64 key, .agg #[.int .i64 a0, .int .i64 a1, .int .i64 a2, .int .i64 a3]] w fun e w' => e = .returned (.tuple #[.string (lastT (all.map (·.t)) key a0 a1 a2 a3).1, .bool (lastT (all.map (·.t)) key a0 a1 a2 a3).2]) ∧ Below w.heap.size w w' := by
  have hne := Later.one
  have HW : Hid (TxsIn w a cap all ∧ (∀ m ∈ all, WrIn w m.wa m.wc m.t.ws) ∧ ∀ m ∈ all, 0 ≤ m.t.site ∧ m.t.site ≤ 3) := ⟨hT, hW, hs⟩
  have hal := hT.len
  have hac := hT.cap
  have RA0 := Row4.new w 47 a0 a1 a2 a3
  have hb0 := boxed (Below.refl _ w) (.cells #[.int .i64 a0, .int .i64 a1, .int .i64 a2, .int .i64 a3] 47)
  clear hT hW hs
  go_enter Tryz.func24, Tryz.ntmps24
  go_wp2_with fail
  go_loopw [8, 9, 10, 11] (fun bv dv gv iv wr => ∃ (i : Nat) (z bz : Int) (d : ByteArray) (g : Bool), i ≤ all.length ∧ z = i ∧ iv = .int .i64 z ∧ bv = .int .i64 bz ∧ dv = .string d ∧ gv = .bool g ∧ Hid (BestAt all (lastV key a0 a1 a2 a3 (histL ((all.map (·.t)).take i))) bz d g) ∧ Row4 wr w.heap.size a0 a1 a2 a3 ∧ Below w.heap.size w wr) (fun _ _ _ iv _ => all.length - (intOf iv).toNat)
  case atStart => exact ⟨0, 0, -1, ⟨#[]⟩, true, by omega, rfl, rfl, rfl, rfl, rfl, ⟨rfl, rfl, rfl⟩, RA0, hb0⟩
  case round =>
    clear RA0 hb0
    obtain ⟨i, z, bz, d, g, hi, hz, rfl, rfl, rfl, rfl, HB, RA, hb⟩ := hrel
    have HZ : Hid (z = i) := hz
    have s3 := cell_later hb hS
    by_cases hlt : i < all.length
    · have g1 : z < (all.length : Int) := by omega
      have g2 : z.toNat = i := by omega
      have g3 : 0 ≤ z := by omega
      clear hz
      obtain ⟨tb, off, hta, hcc⟩ : ∃ b off, a = some ⟨b, off, none⟩ ∧ ∀ i m r u, all[i]? = some m → (txC m)[r]? = some u → w.cell? ⟨b, off + (i * 9 + r), none⟩ = some u := by
        rcases HW.out.1.held with h0 | h0
        · rw [h0] at hlt; simp at hlt
        · exact h0
      rw [hta] at s3
      have HCC : Hid (∀ i m r u, all[i]? = some m → (txC m)[r]? = some u → w.cell? ⟨tb, off + (i * 9 + r), none⟩ = some u) := hcc
      obtain ⟨⟨⟨site, seq, wall, count, d0, d1, d2, d3, ws⟩, ta, tc⟩, hx⟩ : ∃ m, all[i]? = some m := ⟨all[i], List.getElem?_eq_getElem hlt⟩
      obtain ⟨hs0, hs1⟩ := HW.out.2.2 _ (List.mem_of_getElem? hx)
      simp only at hs0 hs1
      have HWX : Hid (WrIn w ta tc ws) := HW.out.2.1 _ (List.mem_of_getElem? hx)
      have hwl := HWX.out.len
      have hwc := HWX.out.cap
      have HX : Hid (all[i]? = some ⟨⟨site, seq, wall, count, d0, d1, d2, d3, ws⟩, ta, tc⟩) := hx
      have HT : Hid ((all.map (·.t))[i]? = some ⟨site, seq, wall, count, d0, d1, d2, d3, ws⟩) := by show (all.map (·.t))[i]? = _; rw [List.getElem?_map, hx]; rfl
      have cc := fun r u (hu : (txC ⟨⟨site, seq, wall, count, d0, d1, d2, d3, ws⟩, ta, tc⟩)[r]? = some u) => (show wr.cell? ⟨tb, off + i * 9 + r, none⟩ = some u by rw [Nat.add_assoc]; exact cell_later hb (hcc i _ r u hx hu))
      have x0 := cc 0 _ rfl
      have x1 := cc 1 _ rfl
      have x2 := cc 2 _ rfl
      have x3 := cc 3 _ rfl
      have x4 := cc 4 _ rfl
      have x5 := cc 5 _ rfl
      have x6 := cc 6 _ rfl
      have x7 := cc 7 _ rfl
      have x8 := cc 8 _ rfl
      rw [Nat.add_zero] at x0
      clear cc hcc hx
      replace RA := RA.boxed (.cells #[.int .i64 site, .int .i64 seq, .int .i64 wall, .int .i64 count, .int .i64 d0, .int .i64 d1, .int .i64 d2, .int .i64 d3, .slice ta ws.length tc] 80)
      replace hb := boxed hb (.cells #[.int .i64 site, .int .i64 seq, .int .i64 wall, .int .i64 count, .int .i64 d0, .int .i64 d1, .int .i64 d2, .int .i64 d3, .slice ta ws.length tc] 80)
      have RY := RowL.new (w := wr) (T := 80) [.int .i64 site, .int .i64 seq, .int .i64 wall, .int .i64 count, .int .i64 d0, .int .i64 d1, .int .i64 d2, .int .i64 d3, .slice ta ws.length tc] rfl
      have y0 := Later.cell (RY.cell 0 _ rfl)
      have y1 := Later.cell (RY.cell 1 _ rfl)
      have va := Later.cell (vec_at RA hs0 hs1)
      go_wp2_with fail
      clear x0 x1 x2 x3 x4 x5 x6 x7 x8
      refine wp_region_later (by kernel_rfl) (by kernel_rfl) ?_
      repeat (go_big_quiet_step (first | rfl | fail))
      refine wpQuiet_nil ?_
      rintro w5 ⟨⟨_, hb5⟩, rfl⟩
      replace RA := RA.later hb5
      replace RY := RY.later hb5
      replace hb := behind hb hb5
      clear hb5 y0 y1 va s3
      cases hd : decide (depOf site a0 a1 a2 a3 < seq)
      · have hlq : Hid (seq ≤ depOf site a0 a1 a2 a3) := by
          have := of_decide_eq_false hd
          show seq ≤ _
          omega
        obtain ⟨yb, hyb⟩ : ∃ yb, wr.heap.size = yb := ⟨_, rfl⟩
        rw [hyb] at RY ⊢
        obtain ⟨cur0, hcur⟩ : ∃ c, lastV key a0 a1 a2 a3 (histL ((all.map (·.t)).take i)) = c := ⟨_, rfl⟩
        have HC0 : Hid (lastV key a0 a1 a2 a3 (histL ((all.map (·.t)).take i)) = cur0) := hcur
        have HY : Hid (yb = yb) := rfl
        rw [hcur] at HB
        clear hd hcur hyb
        go_wp2_with fail
        go_loopw [8, 9, 10, 13] (fun bv dv gv jv wr => ∃ (j : Nat) (y bz : Int) (d : ByteArray) (g : Bool), j ≤ ws.length ∧ y = j ∧ jv = .int .i64 y ∧ bv = .int .i64 bz ∧ dv = .string d ∧ gv = .bool g ∧ Hid (BestAt all ((verL1 ⟨site, seq, wall, count, d0, d1, d2, d3, ws⟩ (ws.take j)).foldl (stepV key a0 a1 a2 a3) cur0) bz d g) ∧ RowL wr yb [.int .i64 site, .int .i64 seq, .int .i64 wall, .int .i64 count, .int .i64 d0, .int .i64 d1, .int .i64 d2, .int .i64 d3, .slice ta ws.length tc] ∧ Row4 wr w.heap.size a0 a1 a2 a3 ∧ Below w.heap.size w wr) (fun _ _ _ jv _ => ws.length - (intOf jv).toNat)
        case atStart => exact ⟨0, 0, bz, d, g, by omega, rfl, rfl, rfl, rfl, rfl, HB, RY, RA, hb⟩
        case round =>
          clear RY RA hb HB
          obtain ⟨j, y, bz, d, g, hj, hy, rfl, rfl, rfl, rfl, HB, RY, RA, hb⟩ := hrel
          have HJ : Hid (y = j) := hy
          have y8 := RY.cell 8 _ rfl
          by_cases hlj : j < ws.length
          · have j1 : y < (ws.length : Int) := by omega
            have j2 : y.toNat = j := by omega
            have j3 : 0 ≤ y := by omega
            clear hy
            obtain ⟨wb, wo, rfl, hwcc⟩ : ∃ wb off, ta = some ⟨wb, off, none⟩ ∧ WrCells w wb off ws := by
              rcases HWX.out.held with h0 | h0
              · rw [h0] at hlj; simp at hlj
              · exact h0
            obtain ⟨⟨xk, xd, xg⟩, hwx⟩ : ∃ x, wrAt ws j = x := ⟨_, rfl⟩
            have hc := (hwcc.later hb) j hlj
            rw [hwx] at hc
            have c0 := hc.1
            have c1 := hc.2.1
            have c2 := hc.2.2
            have ST : Hid ((verL1 ⟨site, seq, wall, count, d0, d1, d2, d3, ws⟩ (ws.take (j + 1))).foldl (stepV key a0 a1 a2 a3) cur0 = stepV key a0 a1 a2 a3 ((verL1 ⟨site, seq, wall, count, d0, d1, d2, d3, ws⟩ (ws.take j)).foldl (stepV key a0 a1 a2 a3) cur0) ⟨xk, ⟨wall, count, site, seq, xd, xg⟩⟩) := by
              show (verL1 _ (ws.take (j + 1))).foldl _ cur0 = _
              rw [fold_next hlj, hwx]
              rfl
            obtain ⟨cur, hcur⟩ : ∃ c, (verL1 ⟨site, seq, wall, count, d0, d1, d2, d3, ws⟩ (ws.take j)).foldl (stepV key a0 a1 a2 a3) cur0 = c := ⟨_, rfl⟩
            rw [hcur] at ST HB
            clear hc hwx hwcc hcur
            by_cases hkey : xk = key
            · have ek : (xk != key) = false := by simp [hkey]
              have HK : Hid (xk = key) := hkey
              clear hkey
              have HAS : Hid (hasV a0 a1 a2 a3 ⟨wall, count, site, seq, xd, xg⟩ = true) := decide_eq_true hlq.out
              -- this one is the best so far
              have YES : Hid (newerB cur ⟨wall, count, site, seq, xd, xg⟩ = true → BestAt all ((verL1 ⟨site, seq, wall, count, d0, d1, d2, d3, ws⟩ (ws.take (j + 1))).foldl (stepV key a0 a1 a2 a3) cur0) z xd xg) := fun hm => by
                rw [ST.out, stepV_yes HK.out HAS.out hm]
                exact ⟨i, HZ.out, ⟨_, HX.out, rfl, rfl, rfl⟩, rfl, rfl⟩
              have NO : Hid (newerB cur ⟨wall, count, site, seq, xd, xg⟩ = false → BestAt all ((verL1 ⟨site, seq, wall, count, d0, d1, d2, d3, ws⟩ (ws.take (j + 1))).foldl (stepV key a0 a1 a2 a3) cur0) bz d g) := fun hm => by
                rw [ST.out, stepV_no hm]
                exact HB.out
              have L8 := y8
              have L1 := c1
              have L2 := c2
              cases cur with
              | none =>
                obtain ⟨rfl, rfl, rfl⟩ := HB.out
                have QL : True := trivial
                go_wp2_with fail
                refine wp_region_later (by kernel_rfl) (by kernel_rfl) ?_
                repeat (go_big_quiet_step (first | rfl | fail))
                refine wpQuiet_nil ?_
                rintro w6 ⟨⟨_, hb6⟩, rfl⟩
                clear L8 L1 L2 QL
                have hbx := hb6
                go_wp2_with fail
                have L8 := Later.cell ((RY.later hb6).cell 8 _ rfl)
                have L1 := Later.cell (cell_later hb6 c1)
                have L2 := Later.cell (cell_later hb6 c2)
                refine wp_region_later (by kernel_rfl) (by kernel_rfl) ?_
                repeat (go_big_quiet_step (first | rfl | fail))
                refine wpQuiet_nil ?_
                rintro w7 ⟨⟨_, hb7⟩, rfl⟩
                have hb67 := behind hb6 hb7
                have RY7 := RY.later hb67
                have RA7 := RA.later hb67
                have hbB := behind hb hb67
                clear L8 L1 L2 hb6 hb7 hb67 RY RA hb
                go_wp2_with fail
                go_roundw
                case rel => exact ⟨j + 1, y + 1, z, xd, xg, by omega, by have := HJ.out; omega, by go_num, rfl, rfl, rfl, YES.out (rfl), RY7, RA7, hbB⟩
                case measure => simp [intOf]; have := HJ.out; omega
              | some v =>
                obtain ⟨jb, hbz, ⟨⟨⟨bs_, bq_, bw_, bc_, b0_, b1_, b2_, b3_, bws_⟩, ba_, bk_⟩, hmb, e1, e2, e3⟩, hd_, hg_⟩ := HB.out
                obtain ⟨vw, vc, vs, vq, vd, vg⟩ := v
                simp only at e1 e2 e3 hd_ hg_
                subst e1 e2 e3
                have hjb : jb < all.length := (List.getElem?_eq_some_iff.1 hmb).1
                have z1 : decide (bz < 0) = false := decide_eq_false (by omega)
                have z2 : bz < (all.length : Int) := by omega
                have z3 : bz.toNat = jb := by omega
                have z4 : 0 ≤ bz := by omega
                have q0 := Later.cell (cell_later hb (show w.cell? ⟨tb, off + jb * 9, none⟩ = some (.int .i64 bs_) from HCC.out jb _ 0 _ hmb rfl))
                have q2 := Later.cell (cell_later hb (show w.cell? ⟨tb, off + jb * 9 + 2, none⟩ = some (.int .i64 bw_) from HCC.out jb _ 2 _ hmb rfl))
                have q3 := Later.cell (cell_later hb (show w.cell? ⟨tb, off + jb * 9 + 3, none⟩ = some (.int .i64 bc_) from HCC.out jb _ 3 _ hmb rfl))
                have r0 := Later.cell (RY.cell 0 _ rfl)
                have r2 := Later.cell (RY.cell 2 _ rfl)
                have r3 := Later.cell (RY.cell 3 _ rfl)
                have QL := Later.cell (show wr.cell? ⟨b, 3, none⟩ = some (.slice (some ⟨tb, off, none⟩) all.length cap) by have := cell_later hb hS; rw [hta] at this; exact this)
                obtain ⟨c, hc⟩ : ∃ c, cmpS bw_ bc_ wall count = c := ⟨_, rfl⟩
                have HCM : Hid (cmpS bw_ bc_ wall count = c) := hc
                have CP : Hid (∀ x : World, Calls Tryz.prog 66 #[.agg #[.int .i64 bw_, .int .i64 bc_], .agg #[.int .i64 wall, .int .i64 count]] x fun e w' => e = .returned (.int .i64 c) ∧ Below x.heap.size x w') := fun x => by have := compare_any bw_ bc_ wall count x; rw [hc] at this; exact this
                obtain ⟨sm, hsm⟩ : ∃ s, same2 bw_ bc_ wall count = s := ⟨_, rfl⟩
                have HSM : Hid (same2 bw_ bc_ wall count = sm) := hsm
                have he := fun w => (eqStampB bw_ bc_ wall count w).trans (by rw [hsm])
                clear hc hsm hbz hmb hd_ hg_
                by_cases hc0 : c < 0
                · have dc : decide (c < 0) = true := decide_eq_true hc0
                  go_wp2_with fail
                  refine wp_region_later (by kernel_rfl) (by kernel_rfl) ?_
                  repeat (go_big_quiet_step (first | rfl | (go_at_call 66; with_reducible exact calls_later (CP.out _))))
                  refine wpQuiet_nil ?_
                  rintro w6 ⟨⟨_, hb6⟩, rfl⟩
                  clear L8 L1 L2 QL
                  have hbx := hb6
                  go_wp2_with fail
                  have L8 := Later.cell ((RY.later hb6).cell 8 _ rfl)
                  have L1 := Later.cell (cell_later hb6 c1)
                  have L2 := Later.cell (cell_later hb6 c2)
                  refine wp_region_later (by kernel_rfl) (by kernel_rfl) ?_
                  repeat (go_big_quiet_step (first | rfl | fail))
                  refine wpQuiet_nil ?_
                  rintro w7 ⟨⟨_, hb7⟩, rfl⟩
                  have hb67 := behind hb6 hb7
                  have RY7 := RY.later hb67
                  have RA7 := RA.later hb67
                  have hbB := behind hb hb67
                  clear L8 L1 L2 hb6 hb7 hb67 RY RA hb
                  go_wp2_with fail
                  go_roundw
                  case rel => exact ⟨j + 1, y + 1, z, xd, xg, by omega, by have := HJ.out; omega, by go_num, rfl, rfl, rfl, YES.out (before_lt (show cmpS bw_ bc_ wall count < 0 by rw [HCM.out]; exact hc0)), RY7, RA7, hbB⟩
                  case measure => simp [intOf]; have := HJ.out; omega
                · have dc : decide (c < 0) = false := decide_eq_false hc0
                  cases sm with
                  | true =>
                    by_cases hsi : bs_ < site
                    · have ds : decide (bs_ < site) = true := decide_eq_true hsi
                      go_wp2_with fail
                      refine wp_region_later (by kernel_rfl) (by kernel_rfl) ?_
                      repeat (go_big_quiet_step (first | rfl | (go_at_call 66; with_reducible exact calls_later (CP.out _))))
                      refine wpQuiet_nil ?_
                      rintro w6 ⟨⟨_, hb6⟩, rfl⟩
                      clear L8 L1 L2 QL
                      have hbx := hb6
                      go_wp2_with fail
                      have L8 := Later.cell ((RY.later hb6).cell 8 _ rfl)
                      have L1 := Later.cell (cell_later hb6 c1)
                      have L2 := Later.cell (cell_later hb6 c2)
                      refine wp_region_later (by kernel_rfl) (by kernel_rfl) ?_
                      repeat (go_big_quiet_step (first | rfl | fail))
                      refine wpQuiet_nil ?_
                      rintro w7 ⟨⟨_, hb7⟩, rfl⟩
                      have hb67 := behind hb6 hb7
                      have RY7 := RY.later hb67
                      have RA7 := RA.later hb67
                      have hbB := behind hb hb67
                      clear L8 L1 L2 hb6 hb7 hb67 RY RA hb
                      go_wp2_with fail
                      go_roundw
                      case rel => exact ⟨j + 1, y + 1, z, xd, xg, by omega, by have := HJ.out; omega, by go_num, rfl, rfl, rfl, YES.out (by show beforeV _ _ = true; rw [before_same HSM.out]; exact decide_eq_true hsi), RY7, RA7, hbB⟩
                      case measure => simp [intOf]; have := HJ.out; omega
                    · have ds : decide (bs_ < site) = false := decide_eq_false hsi
                      go_wp2_with fail
                      refine wp_region_later (by kernel_rfl) (by kernel_rfl) ?_
                      repeat (go_big_quiet_step (first | rfl | (go_at_call 66; with_reducible exact calls_later (CP.out _))))
                      refine wpQuiet_nil ?_
                      rintro w6 ⟨⟨_, hb6⟩, rfl⟩
                      have RY7 := RY.later hb6
                      have RA7 := RA.later hb6
                      have hbB := behind hb hb6
                      clear L8 L1 L2 hb6 RY RA hb QL
                      go_wp2_with fail
                      go_roundw
                      case rel => exact ⟨j + 1, y + 1, bz, d, g, by omega, by have := HJ.out; omega, by go_num, rfl, rfl, rfl, NO.out (by show beforeV _ _ = false; rw [before_same HSM.out]; exact decide_eq_false (by show ¬ bs_ < site; omega)), RY7, RA7, hbB⟩
                      case measure => simp [intOf]; have := HJ.out; omega
                  | false =>
                    go_wp2_with fail
                    refine wp_region_later (by kernel_rfl) (by kernel_rfl) ?_
                    repeat (go_big_quiet_step (first | rfl | (go_at_call 66; with_reducible exact calls_later (CP.out _))))
                    refine wpQuiet_nil ?_
                    rintro w6 ⟨⟨_, hb6⟩, rfl⟩
                    have RY7 := RY.later hb6
                    have RA7 := RA.later hb6
                    have hbB := behind hb hb6
                    clear L8 L1 L2 hb6 RY RA hb QL
                    go_wp2_with fail
                    go_roundw
                    case rel => exact ⟨j + 1, y + 1, bz, d, g, by omega, by have := HJ.out; omega, by go_num, rfl, rfl, rfl, NO.out (before_gt (show ¬ cmpS bw_ bc_ wall count < 0 by rw [HCM.out]; omega) HSM.out), RY7, RA7, hbB⟩
                    case measure => simp [intOf]; have := HJ.out; omega
            · have ek : (xk != key) = true := by simp [hkey]
              have HN : Hid (BestAt all ((verL1 ⟨site, seq, wall, count, d0, d1, d2, d3, ws⟩ (ws.take (j + 1))).foldl (stepV key a0 a1 a2 a3) cur0) bz d g) := by
                show BestAt all _ bz d g
                rw [ST.out, stepV_none (fun q => hkey q.1)]
                exact HB.out
              clear hkey
              go_wp2_with fail
              go_roundw
              case rel => exact ⟨j + 1, y + 1, bz, d, g, by omega, by have := HJ.out; omega, by go_num, rfl, rfl, rfl, HN, RY, RA, hb⟩
              case measure => simp [intOf]; have := HJ.out; omega
          · have j1 : ¬ y < (ws.length : Int) := by omega
            obtain rfl : j = ws.length := by omega
            clear hy
            have HN : Hid (BestAt all (lastV key a0 a1 a2 a3 (histL ((all.map (·.t)).take (i + 1)))) bz d g) := by
              show BestAt all _ bz d g
              rw [histL_succ HT.out, lastV_append, HC0.out]
              have := HB.out
              rw [List.take_length] at this
              exact this
            go_wp2_with fail
            go_roundw
            case rel => exact ⟨i + 1, z + 1, bz, d, g, by omega, by have := HZ.out; omega, by go_num, rfl, rfl, rfl, HN, RA, hb⟩
            case measure => simp [intOf]; have := HZ.out; omega
      · have HN : Hid (BestAt all (lastV key a0 a1 a2 a3 (histL ((all.map (·.t)).take (i + 1)))) bz d g) := by
          show BestAt all _ bz d g
          rw [histL_succ HT.out, lastV_append, fold_skip (of_decide_eq_true hd)]
          exact HB.out
        clear hd
        go_wp2_with fail
        go_roundw
        case rel => exact ⟨i + 1, z + 1, bz, d, g, by omega, by have := HZ.out; omega, by go_num, rfl, rfl, rfl, HN, RA, hb⟩
        case measure => simp [intOf]; have := HZ.out; omega
    · have g1 : ¬ z < (all.length : Int) := by omega
      obtain rfl : i = all.length := by omega
      clear hz
      go_wp2_with fail
      go_ret2
      have e := HB.out
      rw [show (all.map (·.t)).take all.length = all.map (·.t) from List.take_of_length_le (by simp)] at e
      refine ⟨?_, hb⟩
      rw [← e.told]
      rfl

end Go.Proofs.YtemiamjnhoeniaaGreatDoor

