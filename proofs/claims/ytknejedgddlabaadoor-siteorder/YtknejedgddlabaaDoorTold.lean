/-
  What is committed at several sites (copsekeep.told), as the model runs it.
-/
import Derived.Test.YtknejedgddlabaaDoorToldR
import Derived.Deep.Cut
import Derived.Test.YtknejedgddlabaaDoorSiteA
import Derived.Test.YtknejedgddlabaaDoorSiteI
namespace Go.Proofs.YtknejedgddlabaaDoor
open Go.RowKit

theorem ptrInfo : (Tryd.prog.info? 101).map (fun i => (i.zero, i.size, i.bytes)) = some (some (.pointer none), 1, 8) := by kernel_rfl
theorem TSt.first (w : World) (f : Nat → Nat) : TSt w 0 f (.slice none 0 0) (.slice none 0 0) (fun i => newS i) [] w := by
  refine ⟨⟨fun _ _ => False, fun i hi => by omega, fun i j k hi => by omega, fun k hk => ?_, fun k hk => hk.elim⟩, World.ownsRow_nil _ _ _ _, World.ownsRow_nil _ _ _ _, fun m hm => (by cases hm), Below.refl _ _, fun k e => by cases e⟩
  rcases hk with e | e | e | ⟨m, hm, _⟩
  · exact ⟨e, fun i hi => by omega⟩
  · cases e
  · cases e
  · cases hm
def ToldIs (w : World) (n len : Nat) (e : Ending) (w' : World) : Prop :=
  ∃ (v : Value) (all : List TxM), e = .returned (.tuple #[v, .bool true]) ∧ Hid (w'.ownsRow w.heap.size 40 9 v all.length (txsC all) ∧ (∀ m ∈ all, WrIn w' m.wa m.wc m.t.ws ∧ m.t.site < n) ∧ Hist (all.map (·.t)) ∧ all.length ≤ len ∧ Below w.heap.size w w')

set_option maxRecDepth 100000 in
set_option maxHeartbeats 8000000 in
theorem told_any {a : Option Addr} {cap n : Nat} {l : List SayV} (w : World) (hD : SayIn w a cap l) (hl : l.length ≤ 30) (h1 : 1 ≤ n) (h3 : n ≤ 3) : Calls Tryd.prog 46 #[.slice a l.length cap, .int .i64 n] w (ToldIs w n l.length) := by
  obtain ⟨i0, hi, hz0, hz1, hz2⟩ := info_parts ptrInfo
  have HN : Hid (1 ≤ n ∧ n ≤ 3 ∧ l.length ≤ 30) := ⟨h1, h3, hl⟩
  clear h1 h3 hl
  go_enter Tryd.func46, Tryd.ntmps46
  go_wp2_with fail
  go_loopw [6, 7] (fun xv kv wr => ∃ (k : Nat) (z : Int) (bp : Nat → Nat), k ≤ n ∧ z = k ∧ kv = .int .i64 z ∧ Hid (TSt w k bp xv (.slice none 0 0) (fun i => newS i) [] wr)) (fun _ kv _ => n - (intOf kv).toNat)
  case atStart => exact ⟨0, 0, fun _ => 0, by omega, rfl, rfl, TSt.first w _⟩
  case round =>
    obtain ⟨k, z, bp, hk, hz, rfl, HT⟩ := hrel
    have HZ : Hid (z = k) := hz
    by_cases hlt : k < n
    · have hn3 : n ≤ 3 := HN.out.2.1
      have q1 : z < (n : Int) := by omega
      have q3 : z < 3 := by omega
      have q0 : 0 ≤ z := by omega
      have NN := new_any z wr q0 (by have := HN.out; omega)
      have el : ((List.range k).map bp).length = k := by simp
      obtain ⟨xa, xc, hxv, hX⟩ := ptrIn_own (L := (List.range k).map bp) (by have := HT.out.xr; rw [el]; exact this)
      have hxl := hX.len
      have hxc := hX.cap
      rw [el] at hxv hxl
      subst hxv
      clear hz hX el
      go_wp2_with fail
      refine NN.mono ?_
      rintro e w2 ⟨rfl, hP, hb2⟩
      rw [HZ.out] at hP
      have bz := boxed (Below.refl _ w2) (.cells #[.pointer (some ⟨wr.heap.size + 1, 0, none⟩)] 101)
      have own2 := own_keptN HT.out.xr (fun k e => hb2.block k (HT.out.xr.lt k e).2)
      have HS0 : Hid (w.heap.size ≤ w2.heap.size) := Nat.le_trans HT.out.hb.size hb2.size
      clear NN
      go_wp2_with (at_builtin; refine wpList_append_lies _ rfl (.tmp 32) (.tmp 34) 147 rfl w.heap.size 101 i0 (.pointer none) 1 8 Tryd.underlying147 hi hz0 hz1 hz2 rfl (by decide) (.slice xa k xc) k (ptrL ((List.range k).map bp)) rfl (own2.alloc _) ⟨w2.heap.size, 0, none⟩ 1 1 [.pointer (some ⟨wr.heap.size + 1, 0, none⟩)] rfl rfl (World.news_of_block (heap_alloc_new w2 (.cells #[.pointer (some ⟨wr.heap.size + 1, 0, none⟩)] 101))) (by intro u hu; simp at hu; rw [hu]; rfl) (by decide) (by have := HN.out; simp only [maxLen]; omega) (by have := HN.out; omega) (by have := HS0.out; simp; omega) _ rfl ?_; intro g9 cap9 wE ownE grE egE ltE)
      go_roundw
      case rel => exact ⟨k + 1, z + 1, _, by omega, by have := HZ.out; omega, by go_num, HT.out.add hP hb2 bz ownE grE egE ltE⟩
      case measure => simp [intOf]; have := HZ.out; omega
    · have hkn : k = n := by omega
      subst hkn
      have q1 : ¬ z < (k : Int) := by omega
      have el : ((List.range k).map bp).length = k := by simp
      obtain ⟨xa, xc, hxv, hX⟩ := ptrIn_own (L := (List.range k).map bp) (by have := HT.out.xr; rw [el]; exact this)
      rw [el] at hxv
      subst hxv
      clear hz hX hlt
      go_wp2_with fail
      clear q1
      go_loopw [10, 11] (fun av iv wr => ∃ (i : Nat) (y : Int) (S : Nat → SiteS) (all : List TxM), i ≤ l.length ∧ y = i ∧ iv = .int .i64 y ∧ Hid (TSt w k bp (.slice xa k xc) av S all wr ∧ Knit k (all.map (·.t)) S (30 * i) ∧ all.length ≤ i)) (fun _ iv _ => l.length - (intOf iv).toNat)
      case atStart => exact ⟨0, 0, fun i => newS i, [], by omega, rfl, rfl, HT.out, Knit.new (by have := HN.out; omega), by simp⟩
      case round =>
        clear HT HZ
        obtain ⟨i, y, S, all, hi, hy, rfl, HT⟩ := hrel
        have HY : Hid (y = i) := hy
        by_cases hil : i < l.length
        · have g1 : y < (l.length : Int) := by omega
          have g2 : y.toNat = i := by omega
          have g3 : 0 ≤ y := by omega
          have g4 : y < 30 := by have := HN.out; omega
          clear hy
          obtain ⟨aa, ac, hav, hTx⟩ := txsIn_own HT.out.1.ar
          clear hTx
          subst hav
          obtain ⟨xb, xo, hxa, hxc⟩ : ∃ b off, xa = some ⟨b, off, none⟩ ∧ ∀ r, r < k → wr.cell? ⟨b, off + r, none⟩ = some (.pointer (some ⟨bp r, 0, none⟩)) := by
            obtain ⟨xa', xc', e, hX⟩ := ptrIn_own (L := (List.range k).map bp) (by have := HT.out.1.xr; rw [el]; exact this)
            injection e with e1 e2 e3
            subst e1
            rcases hX.held with h0 | ⟨b, off, e, hc⟩
            · have := congrArg List.length h0
              rw [el] at this
              have := HN.out
              simp at *
              omega
            · exact ⟨b, off, e, fun r hr => hc r _ (by simp [hr])⟩
          subst hxa
          obtain ⟨lb, lo, rfl, hcc⟩ : ∃ b off, a = some ⟨b, off, none⟩ ∧ ∀ i r u, i < l.length → (sayC (sayAt l i))[r]? = some u → w.cell? ⟨b, off + (i * 4 + r), none⟩ = some u := by
            rcases hD.held with h0 | h0
            · rw [h0] at hil; simp at hil
            · exact h0
          obtain ⟨⟨si, no, co, ws, wa, wk⟩, hx⟩ : ∃ x, sayAt l i = x := ⟨_, rfl⟩
          have HW : Hid (WrIn w wa wk ws) := by have := hD.wr i hil; rw [hx] at this; exact this
          have HA : Hid (∀ k off, ws ≠ [] → wa = some ⟨k, off, none⟩ → k < w.heap.size) := fun k off e1 e2 => WrIn.blk_lt (m := ⟨⟨0, 0, 0, 0, 0, 0, 0, 0, ws⟩, wa, wk⟩) HW.out k ⟨e1, off, e2⟩
          have W0 : w.cell? ⟨lb, lo + i * 4, none⟩ = some (.int .i64 si) := hcc i 0 _ hil (by rw [hx]; rfl)
          have W1 : Hid (w.cell? ⟨lb, lo + i * 4 + 1, none⟩ = some (.int .i64 no)) := hcc i 1 _ hil (by rw [hx]; rfl)
          have W2 : Hid (w.cell? ⟨lb, lo + i * 4 + 2, none⟩ = some (.int .i64 co)) := hcc i 2 _ hil (by rw [hx]; rfl)
          have W3 : Hid (w.cell? ⟨lb, lo + i * 4 + 3, none⟩ = some (.slice wa ws.length wk)) := hcc i 3 _ hil (by rw [hx]; rfl)
          clear hx hcc
          have c0 := cell_later HT.out.1.hb W0
          have PK := pick_any si k (by have := HN.out; omega) (by have := HN.out; omega) wr
          have xq : Hid (∀ r, r < k → wr.cell? ⟨xb, xo + r, none⟩ = some (.pointer (some ⟨bp r, 0, none⟩))) := hxc
          clear hxc W0
          go_wp2_with fail
          refine PK.mono ?_
          rintro e w2 ⟨r, rfl, hr, hw2⟩
          have hw3 := hw2.symm
          clear hw2 PK
          subst hw3
          have xr := xq.out r hr
          have hr1 : (r : Int) < (k : Int) := by omega
          go_wp2_with fail
          clear xr hr1 xq c0
          go_loopw [13] (fun jv wq => ∃ (j : Nat) (x : Int) (S' : Nat → SiteS), j ≤ all.length ∧ x = j ∧ jv = .int .i64 x ∧ Hid (TSt w k bp (.slice (some ⟨xb, xo, none⟩) k xc) (.slice aa all.length ac) S' all wq ∧ Knit k (all.map (·.t)) S' (30 * i + j))) (fun jv _ => all.length - (intOf jv).toNat)
          case atStart => exact ⟨0, 0, S, by omega, rfl, rfl, HT.out.1, HT.out.2.1⟩
          case round =>
            have HAL : Hid (all.length ≤ i) := HT.out.2.2
            clear HT
            obtain ⟨j, x, S, hj, hx, rfl, HT⟩ := hrel
            have HX : Hid (x = j) := hx
            have hal : all.length ≤ 30 := by have := HAL.out; have := HN.out; omega
            have c2 := cell_later HT.out.1.hb W2.out
            have PK : Calls Tryd.prog 42 #[.int .i64 co, .int .i64 ((all.length : Int) + 1)] wr fun e w' => ∃ r : Nat, e = .returned (.int .i64 r) ∧ r < all.length + 1 ∧ w' = wr := pick_any co (all.length + 1) (by omega) (by omega) wr
            have hal2 : Hid (all.length ≤ 30) := hal
            go_wp2_with fail
            refine PK.mono ?_
            rintro e w2 ⟨r2, rfl, hr2, hw2⟩
            have hw3 := hw2.symm
            clear hw2 PK
            subst hw3
            by_cases hjr : j < r2
            · have f1 : x < (r2 : Int) := by omega
              have f2 : x.toNat = j := by omega
              have f3 : 0 ≤ x := by omega
              have f4 : x < (all.length : Int) := by omega
              have f5 : x < 30 := by omega
              have hjl : j < all.length := by omega
              clear hx
              obtain ⟨ab, ao, haa, hcc⟩ : ∃ b off, aa = some ⟨b, off, none⟩ ∧ ∀ i m r u, all[i]? = some m → (txC m)[r]? = some u → wr.cell? ⟨b, off + (i * 9 + r), none⟩ = some u := by
                obtain ⟨aa', ac', e, hX⟩ := txsIn_own HT.out.1.ar
                injection e with e1 e2 e3
                subst e1
                rcases hX.held with h0 | h0
                · rw [h0] at hjl; simp at hjl
                · exact h0
              subst haa
              obtain ⟨⟨⟨site, seq, wall, count, d0, d1, d2, d3, tws⟩, ta, tc⟩, hm⟩ : ∃ m, all[j]? = some m := ⟨_, List.getElem?_eq_getElem hjl⟩
              have x0 : wr.cell? ⟨ab, ao + j * 9, none⟩ = some (.int .i64 site) := hcc j _ 0 _ hm rfl
              have x1 : wr.cell? ⟨ab, ao + j * 9 + 1, none⟩ = some (.int .i64 seq) := hcc j _ 1 _ hm rfl
              have x2 : wr.cell? ⟨ab, ao + j * 9 + 2, none⟩ = some (.int .i64 wall) := hcc j _ 2 _ hm rfl
              have x3 : wr.cell? ⟨ab, ao + j * 9 + 3, none⟩ = some (.int .i64 count) := hcc j _ 3 _ hm rfl
              have x4 : wr.cell? ⟨ab, ao + j * 9 + 4, none⟩ = some (.int .i64 d0) := hcc j _ 4 _ hm rfl
              have x5 : wr.cell? ⟨ab, ao + j * 9 + 5, none⟩ = some (.int .i64 d1) := hcc j _ 5 _ hm rfl
              have x6 : wr.cell? ⟨ab, ao + j * 9 + 6, none⟩ = some (.int .i64 d2) := hcc j _ 6 _ hm rfl
              have x7 : wr.cell? ⟨ab, ao + j * 9 + 7, none⟩ = some (.int .i64 d3) := hcc j _ 7 _ hm rfl
              have x8 : wr.cell? ⟨ab, ao + j * 9 + 8, none⟩ = some (.slice ta tws.length tc) := hcc j _ 8 _ hm rfl
              have TK : Hid (Calls Tryd.prog 48 #[.pointer (some ⟨bp r, 0, none⟩), txV ⟨⟨site, seq, wall, count, d0, d1, d2, d3, tws⟩, ta, tc⟩] wr fun e w' => e = .returned (errV (takeE (S r) (⟨⟨site, seq, wall, count, d0, d1, d2, d3, tws⟩, ta, tc⟩ : TxM).t)) ∧ ∃ S', Hid (TakesTo (S r) (⟨⟨site, seq, wall, count, d0, d1, d2, d3, tws⟩, ta, tc⟩ : TxM).t S') ∧ TSt w k bp (.slice (some ⟨xb, xo, none⟩) k xc) (.slice (some ⟨ab, ao, none⟩) all.length ac) (setK S r S') all w') := HT.out.1.take hr (HT.out.2.inv r hr) (by have := HT.out.2.wt r hr; have := HN.out; omega) (List.mem_of_getElem? hm)
              have HM : Hid ((⟨site, seq, wall, count, d0, d1, d2, d3, tws⟩ : TxP) ∈ all.map (·.t)) := List.mem_map.2 ⟨_, List.mem_of_getElem? hm, rfl⟩
              clear hcc hm hal
              go_wp2_with fail
              refine TK.out.mono ?_
              rintro e w3 ⟨rfl, S', hT, T3⟩
              obtain ⟨tv, htv⟩ : ∃ tv, errV (takeE (S r) (⟨⟨site, seq, wall, count, d0, d1, d2, d3, tws⟩, ta, tc⟩ : TxM).t) = tv := ⟨_, rfl⟩
              rw [htv]
              clear htv TK x0 x1 x2 x3 x4 x5 x6 x7 x8
              go_wp2_with fail
              go_roundw
              case rel => exact ⟨j + 1, x + 1, _, by omega, by have := HX.out; omega, by go_num, T3, HT.out.2.take hr HM.out hT.out⟩
              case measure => simp [intOf]; have := HX.out; omega
            · have f1 : ¬ x < (r2 : Int) := by omega
              have c1 := cell_later HT.out.1.hb W1.out
              have c3 := cell_later HT.out.1.hb W3.out
              clear hx hal
              go_upto_region 18 with fail
              refine wp_next (toldR18_any (i := i) wr HT.out.1 hr (HT.out.2.inv r hr) g1 g2 g3 c1 c3 (HW.out.later HT.out.1.hb) HA _ ?_)
              rintro u71 u72 u73 u74 u75 u76 u77 u78 u79 u80 u81 u82 u83 u84 u85 u86 u87 u88 m0 m1 m2 m3 m4 m5 m6 m7 mws ma mc ce mb wc H18
              have HB18 : Hid _ := H18
              have RB := H18.1
              clear H18 c1 c3 f1
              by_cases hce : ce = 0
              · have ee : errV ce = .nilIface := by rw [hce]; rfl
                rw [ee]
                have v0 := RB.cell 0 _ rfl
                have v1 := RB.cell 1 _ rfl
                have v2 := RB.cell 2 _ rfl
                have v3 := RB.cell 3 _ rfl
                have v4 := RB.cell 4 _ rfl
                have v5 := RB.cell 5 _ rfl
                have v6 := RB.cell 6 _ rfl
                have v7 := RB.cell 7 _ rfl
                have v8 := RB.cell 8 _ rfl
                simp only at v0 v1 v2 v3 v4 v5 v6 v7 v8
                obtain ⟨i9, ti, tz0, tz1, tz2⟩ := info_parts txInfo
                obtain ⟨now, e0, e1, e2, e3, k1, k2, k3, k4, k5, k6⟩ := HB18.out.2
                have AR : Hid (wc.ownsRow w.heap.size 40 9 (.slice aa all.length ac) all.length (txsC all)) := k5.ar
                have HSZ : Hid (w.heap.size ≤ wc.heap.size) := k5.hb.size
                have bz := boxed (Below.refl _ wc) (.cells #[.int .i64 m0, .int .i64 m1, .int .i64 m2, .int .i64 m3, .int .i64 m4, .int .i64 m5, .int .i64 m6, .int .i64 m7, .slice ma mws.length mc] 40)
                have KK : Hid (Told18 w k bp (.slice (some ⟨xb, xo, none⟩) k xc) (.slice aa all.length ac) S all r ws ce ⟨⟨m0, m1, m2, m3, m4, m5, m6, m7, mws⟩, ma, mc⟩ mb wc) := HB18.out
                clear k1 k2 k3 k4 k5 k6 HB18 ee
                go_wp2_with (at_builtin; refine wpList_append_lies _ rfl (.tmp 91) (.tmp 93) 98 rfl w.heap.size 40 i9 (.agg #[.int .i64 0, .int .i64 0, .int .i64 0, .int .i64 0, .int .i64 0, .int .i64 0, .int .i64 0, .int .i64 0, .slice none 0 0]) 9 88 Tryd.underlying98 ti tz0 tz1 tz2 rfl (by decide) (.slice aa all.length ac) all.length (txsC all) rfl (AR.out.alloc _) ⟨wc.heap.size, 0, none⟩ 1 1 [.int .i64 m0, .int .i64 m1, .int .i64 m2, .int .i64 m3, .int .i64 m4, .int .i64 m5, .int .i64 m6, .int .i64 m7, .slice ma mws.length mc] rfl rfl (World.news_of_block (heap_alloc_new wc (.cells #[.int .i64 m0, .int .i64 m1, .int .i64 m2, .int .i64 m3, .int .i64 m4, .int .i64 m5, .int .i64 m6, .int .i64 m7, .slice ma mws.length mc] 40))) (txC_one ⟨⟨m0, m1, m2, m3, m4, m5, m6, m7, mws⟩, ma, mc⟩) (by decide) (by have := hal2.out; simp only [maxLen]; omega) (by have := hal2.out; omega) (by have := HSZ.out; simp; omega) _ rfl ?_; intro g9 cap9 wE ownE grE egE ltE)
                obtain ⟨now, e0, e1, e2, e3, k1, k2, k3, k4, k5, k6⟩ := KK.out.2
                have hc0 : comE (S r) now e0 e1 e2 e3 ws = 0 := k1.symm.trans hce
                have hS : comS (S r) now e0 e1 e2 e3 ws = applyS (S r) (commitT (S r) now e0 e1 e2 e3 ws) := if_pos hc0
                have hT : comT (S r) now e0 e1 e2 e3 ws = commitT (S r) now e0 e1 e2 e3 ws := if_pos hc0
                have KN := (HT.out.2.commit (by have := HN.out; omega) hr hc0).more (k' := 30 * (i + 1)) (by have := HAL.out; have := HN.out; omega)
                have TP := k5.push k4 k3 k6 bz ownE grE egE ltE
                rw [hS] at TP
                have hmt : commitT (S r) now e0 e1 e2 e3 ws = (⟨m0, m1, m2, m3, m4, m5, m6, m7, mws⟩ : TxP) := hT.symm.trans k2.symm
                clear hS hT k1 k2 k3 k4 k5 k6 AR KK bz v0 v1 v2 v3 v4 v5 v6 v7 v8 RB
                go_roundw
                case rel => exact ⟨i + 1, y + 1, _, all ++ [⟨⟨m0, m1, m2, m3, m4, m5, m6, m7, mws⟩, ma, mc⟩], by omega, by have := HY.out; omega, by go_num, TP, by rw [List.map_append]; show Knit k (_ ++ [(⟨m0, m1, m2, m3, m4, m5, m6, m7, mws⟩ : TxP)]) _ _; rw [← hmt]; exact KN, by have := HAL.out; simp; omega⟩
                case measure => simp [intOf]; have := HY.out; omega
              · have ee : errV ce = .iface 24 (.int .i64 ce) := if_neg hce
                rw [ee]
                go_wp2_with fail
                obtain ⟨now, e0, e1, e2, e3, k1, k2, k3, k4, k5, k6⟩ := HB18.out.2
                have hc0 : ¬ comE (S r) now e0 e1 e2 e3 ws = 0 := fun q => hce (k1.trans q)
                have hS : comS (S r) now e0 e1 e2 e3 ws = S r := if_neg hc0
                have hK : setK S r (S r) = S := by
                  funext q
                  unfold setK
                  split
                  · rename_i e; rw [e]
                  · rfl
                rw [hS, hK] at k5
                have KN := HT.out.2.more (k' := 30 * (i + 1)) (by have := HAL.out; have := HN.out; omega)
                go_roundw
                case rel => exact ⟨i + 1, y + 1, _, all, by omega, by have := HY.out; omega, by go_num, k5, KN, by have := HAL.out; omega⟩
                case measure => simp [intOf]; have := HY.out; omega
        · have g1 : ¬ y < (l.length : Int) := by omega
          go_wp2_with fail
          exact bodyPost_ret (by simp [results, Tryd.results46, go_sem]) rfl ⟨_, all, rfl, HT.out.1.ar, fun m hm => ⟨HT.out.1.wi m hm, HT.out.2.1.low m.t (List.mem_map.2 ⟨m, hm, rfl⟩)⟩, HT.out.2.1.hist, by have := HT.out.2.2; omega, HT.out.1.hb⟩

end Go.Proofs.YtknejedgddlabaaDoor
