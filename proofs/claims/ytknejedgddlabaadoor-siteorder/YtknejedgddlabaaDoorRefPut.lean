/-
  What the document's own Put into a store is, as the model runs it: a version that may be.
-/
import Derived.Test.YtknejedgddlabaaDoorSiteC
import Derived.Test.YtknejedgddlabaaDoorSiteA
namespace Go.Proofs.YtknejedgddlabaaDoor
open Go.RowKit

set_option maxHeartbeats 8000000 in
theorem refPut_ok {sb : Nat} {sv : Value} {l : List Hd} {key : Int} (h : inB key 0 7 = true) (v : Ver) (hv : okVer v = true) (w : World) (hS : RefSt w sb sv l) (hl : l.length ≤ 1000) :
    Calls Tryd.prog 32 #[.pointer (some ⟨sb, 0, none⟩), .int .i64 key, .agg #[.int .i64 v.wall, .int .i64 v.count, .int .i64 v.site, .int .i64 v.seq, .string v.data, .bool v.gone]] w fun e w' => e = .returned (.int .i64 (putE l key v)) ∧ PutPost w sb sv (putL l key v) w' := by
  have he := eqStampB
  have H : Hid (inB key 0 7 = true) := h
  have HV : Hid (okVer v = true) := hv
  clear h
  obtain ⟨wl, ct, st, sq, dt, gn⟩ := v
  have hp := hv
  simp only [okVer, Bool.and_eq_true] at hp
  obtain ⟨⟨⟨⟨p1, p2⟩, p3⟩, p4⟩, p5⟩ := hp
  have P1 : Hid ((timeB wl && timeB ct) = true) := by show (timeB wl && timeB ct) = true; rw [p1.1, p1.2]; rfl
  have P2 : Hid (inB st 0 3 = true) := p2
  have P3 : Hid (inB sq 1 1099511627776 = true) := p3
  have hdt : ¬ 12 < (dt.size : Int) := by have := of_decide_eq_true p4; omega
  have P5 : Hid ((!(gn && !dt.toList.isEmpty)) = true) := p5
  clear p1 p2 p3 p4 p5 hv
  have R := RowL.new (w := w) (T := 71) [.int .i64 wl, .int .i64 ct, .int .i64 st, .int .i64 sq, .string dt, .bool gn] rfl
  have hb := boxed (Below.refl _ w) (.cells #[.int .i64 wl, .int .i64 ct, .int .i64 st, .int .i64 sq, .string dt, .bool gn] 71)
  go_enter Tryd.func32, Tryd.ntmps32
  go_wp2_with fail
  refine (inB_is H.out _).mono ?_
  rintro e w1 ⟨rfl, hb1⟩
  replace R := R.later hb1
  replace hb := behind hb hb1
  have c0 := R.cell 0 _ rfl
  have c1 := R.cell 1 _ rfl
  go_wp2_with fail
  refine (refRight_is P1.out _).mono ?_
  rintro e w2 ⟨rfl, hb2⟩
  replace R := R.later hb2
  replace hb := behind hb hb2
  clear hb1 hb2 c0 c1
  have c2 := R.cell 2 _ rfl
  go_wp2_with fail
  refine (inB_is P2.out _).mono ?_
  rintro e w3 ⟨rfl, hb3⟩
  replace R := R.later hb3
  replace hb := behind hb hb3
  clear hb3 c2
  have c3 := R.cell 3 _ rfl
  go_wp2_with fail
  refine (inB_is P3.out _).mono ?_
  rintro e w4 ⟨rfl, hb4⟩
  replace R := R.later hb4
  replace hb := behind hb hb4
  clear hb4 c3
  have c4 := R.cell 4 _ rfl
  have c5 := R.cell 5 _ rfl
  cases gn
  · skip
    obtain ⟨a, cap, rfl, hH⟩ := hdIn_own hS.own
    have hH4 := hH.later hb
    have box4 := hS.box.later hb
    have s0 : w4.cell? ⟨sb, 0, none⟩ = some (.slice a l.length cap) := box4.cell 0 _ rfl
    go_wp2_with fail
    clear s0 box4
    go_loopw [48] (fun iv wr => ∃ (k : Nat) (z : Int), k ≤ l.length ∧ z = k ∧ iv = .int .i64 z ∧ (∀ j, j < k → twinB key ⟨wl, ct, st, sq, dt, false⟩ (hdAt l j) = false) ∧ RowL wr w.heap.size [.int .i64 wl, .int .i64 ct, .int .i64 st, .int .i64 sq, .string dt, .bool false] ∧ Below w.heap.size w wr) (fun i _ => l.length - (intOf i).toNat)
    case atStart => exact ⟨0, 0, by omega, rfl, rfl, fun j hj => by omega, R, hb⟩
    case round =>
      clear R hb hH4
      obtain ⟨k, z, hk, hz, rfl, hnt, R, hb⟩ := hrel
      have NT : Hid (∀ j, j < k → twinB key ⟨wl, ct, st, sq, dt, false⟩ (hdAt l j) = false) := hnt
      clear hnt
      have HZ : Hid (z = k) := hz
      have hH4 := hH.later hb
      by_cases hlt : k < l.length
      · have h1 : z < (l.length : Int) := by omega
        have h2 : z.toNat = k := by omega
        have h3 : 0 ≤ z := by omega
        clear hz
        obtain ⟨b, off, rfl, hcc⟩ : ∃ b off, a = some ⟨b, off, none⟩ ∧ ∀ i r u, i < l.length → (hdL (hdAt l i))[r]? = some u → wr.cell? ⟨b, off + (i * 7 + r), none⟩ = some u := by
          rcases hH4.held with h0 | h0
          · rw [h0] at hlt; simp at hlt
          · exact h0
        obtain ⟨⟨hk_, ⟨hw, hc, hs, hq, hd, hg⟩⟩, hx⟩ : ∃ x, hdAt l k = x := ⟨_, rfl⟩
        have x0 : wr.cell? ⟨b, off + k * 7, none⟩ = some (.int .i64 hk_) := hcc k 0 _ hlt (by rw [hx]; rfl)
        have x1 : wr.cell? ⟨b, off + k * 7 + 1, none⟩ = some (.int .i64 hw) := hcc k 1 _ hlt (by rw [hx]; rfl)
        have x2 : wr.cell? ⟨b, off + k * 7 + 2, none⟩ = some (.int .i64 hc) := hcc k 2 _ hlt (by rw [hx]; rfl)
        have x3 : wr.cell? ⟨b, off + k * 7 + 3, none⟩ = some (.int .i64 hs) := hcc k 3 _ hlt (by rw [hx]; rfl)
        have x4 : wr.cell? ⟨b, off + k * 7 + 4, none⟩ = some (.int .i64 hq) := hcc k 4 _ hlt (by rw [hx]; rfl)
        have x5 : wr.cell? ⟨b, off + k * 7 + 5, none⟩ = some (.string hd) := hcc k 5 _ hlt (by rw [hx]; rfl)
        have x6 : wr.cell? ⟨b, off + k * 7 + 6, none⟩ = some (.bool hg) := hcc k 6 _ hlt (by rw [hx]; rfl)
        have HX : Hid (hdAt l k = ⟨hk_, ⟨hw, hc, hs, hq, hd, hg⟩⟩) := hx
        clear hx hcc hH4
        have TW : Hid (twinB key ⟨wl, ct, st, sq, dt, false⟩ (hdAt l k) = ((hk_ == key) && same2 hw hc wl ct && (hs == st))) := by
          show twinB key ⟨wl, ct, st, sq, dt, false⟩ (hdAt l k) = _
          rw [HX.out]
          simp only [twinB, same2]
          rw [Bool.eq_iff_iff]
          simp
        have R' := R.boxed (.cells #[.int .i64 hk_, .int .i64 hw, .int .i64 hc, .int .i64 hs, .int .i64 hq, .string hd, .bool hg] 136)
        have hb' := boxed hb (.cells #[.int .i64 hk_, .int .i64 hw, .int .i64 hc, .int .i64 hs, .int .i64 hq, .string hd, .bool hg] 136)
        have c0 := R'.cell 0 _ rfl
        have c1 := R'.cell 1 _ rfl
        have c2 := R'.cell 2 _ rfl
        cases e1 : (hk_ == key)
        · have NT2 : Hid (∀ j, j < k + 1 → twinB key ⟨wl, ct, st, sq, dt, false⟩ (hdAt l j) = false) := fun j hj => by
            rcases Nat.lt_or_ge j k with g | g
            · exact NT.out j g
            · obtain rfl : j = k := by omega
              rw [TW.out, e1]; rfl
          go_wp2_with fail
          go_roundw
          case rel => exact ⟨k + 1, z + 1, by omega, by have := HZ.out; omega, by go_num, NT2.out, R', hb'⟩
          case measure => simp [intOf]; omega
        · cases e2 : same2 hw hc wl ct
          · have NT2 : Hid (∀ j, j < k + 1 → twinB key ⟨wl, ct, st, sq, dt, false⟩ (hdAt l j) = false) := fun j hj => by
              rcases Nat.lt_or_ge j k with g | g
              · exact NT.out j g
              · obtain rfl : j = k := by omega
                rw [TW.out, e1, e2]; rfl
            go_wp2_with fail
            go_roundw
            case rel => exact ⟨k + 1, z + 1, by omega, by have := HZ.out; omega, by go_num, NT2.out, R', hb'⟩
            case measure => simp [intOf]; omega
          · cases e3 : (hs == st)
            · have NT2 : Hid (∀ j, j < k + 1 → twinB key ⟨wl, ct, st, sq, dt, false⟩ (hdAt l j) = false) := fun j hj => by
                rcases Nat.lt_or_ge j k with g | g
                · exact NT.out j g
                · obtain rfl : j = k := by omega
                  rw [TW.out, e1, e2, e3]; rfl
              go_wp2_with fail
              go_roundw
              case rel => exact ⟨k + 1, z + 1, by omega, by have := HZ.out; omega, by go_num, NT2.out, R', hb'⟩
              case measure => simp [intOf]; omega
            · have PE : Hid (putE l key ⟨wl, ct, st, sq, dt, false⟩ = 9) := by
                have tt : twinB key ⟨wl, ct, st, sq, dt, false⟩ (hdAt l k) = true := by rw [TW.out, e1, e2, e3]; rfl
                have ta : l.any (twinB key ⟨wl, ct, st, sq, dt, false⟩) = true := List.any_eq_true.2 ⟨hdAt l k, by simp only [hdAt, List.getD, List.getElem?_eq_getElem hlt, Option.getD_some]; exact List.getElem_mem hlt, tt⟩
                show putE l key ⟨wl, ct, st, sq, dt, false⟩ = 9
                unfold putE
                rw [H.out, HV.out, ta]
                rfl
              have PL : Hid (putL l key ⟨wl, ct, st, sq, dt, false⟩ = l) := by show putL l key ⟨wl, ct, st, sq, dt, false⟩ = l; unfold putL; rw [PE.out]; rfl
              go_wp2_with fail
              go_ret
              exact ⟨by rw [PE.out]; rfl, by rw [PL.out]; exact PutPost.same hS hb'⟩
      · have h4 : ¬ z < (l.length : Int) := by omega
        have PE : Hid (putE l key ⟨wl, ct, st, sq, dt, false⟩ = 0) := by
          have ta : l.any (twinB key ⟨wl, ct, st, sq, dt, false⟩) = false := by
            rw [List.any_eq_false]
            intro x hx
            obtain ⟨i, hi, rfl⟩ := List.mem_iff_getElem.1 hx
            have e := NT.out i (by omega)
            simp only [hdAt, List.getD, List.getElem?_eq_getElem hi, Option.getD_some] at e
            simp [e]
          show putE l key ⟨wl, ct, st, sq, dt, false⟩ = 0
          unfold putE
          rw [H.out, HV.out, ta]
          rfl
        have PL : Hid (putL l key ⟨wl, ct, st, sq, dt, false⟩ = l ++ [⟨key, ⟨wl, ct, st, sq, dt, false⟩⟩]) := by show putL l key ⟨wl, ct, st, sq, dt, false⟩ = _; unfold putL; rw [PE.out]; rfl
        clear hz
        have S4 := hS.later hb
        have s0 : wr.cell? ⟨sb, 0, none⟩ = some (.slice a l.length cap) := S4.box.cell 0 _ rfl
        have s1 : wr.frozen? ⟨sb, 0, none⟩ = false := S4.box.free 0 (by simp)
        have hsb : sb < wr.heap.size := S4.box.lt
        have c0 := R.cell 0 _ rfl
        have c1 := R.cell 1 _ rfl
        have c2 := R.cell 2 _ rfl
        have c3 := R.cell 3 _ rfl
        have c4 := R.cell 4 _ rfl
        have c5 := R.cell 5 _ rfl
        have ownd : wr.drew.ownsRow 0 136 7 (.slice a l.length cap) l.length (hdsL l) := S4.own
        obtain ⟨i0, hi, hz0, hz1, hz2⟩ := info_parts heldInfo
        go_wp2_with fail
        go_region_law (refine step_append_lies _ rfl (.tmp 77) (.tmp 81) 67 rfl 0 136 i0 (.agg #[.int .i64 0, .int .i64 0, .int .i64 0, .int .i64 0, .int .i64 0, .string ⟨#[]⟩, .bool false]) 7 64 Tryd.underlying67 hi hz0 hz1 hz2 rfl (by decide) (.slice a l.length cap) l.length (hdsL l) (by simp [Act.eval]) (ownd.alloc _) ⟨wr.heap.size, 0, none⟩ 1 1 (hdL ⟨key, ⟨wl, ct, st, sq, dt, false⟩⟩) (by simp [Act.eval]) rfl (World.news_of_block (heap_alloc_new wr.drew (.cells #[.int .i64 key, .int .i64 wl, .int .i64 ct, .int .i64 st, .int .i64 sq, .string dt, .bool false] 136))) (by intro u hu; simp [hdL] at hu; rcases hu with rfl | rfl | rfl | rfl | rfl | rfl | rfl <;> rfl) (by decide) (by simp only [maxLen]; omega) (by omega) (by simp) _ rfl ?_
                       intro g cap9 wE ownE grE egE ltE
                       have BE := ((S4.box.drew).boxed (.cells #[.int .i64 key, .int .i64 wl, .int .i64 ct, .int .i64 st, .int .i64 sq, .string dt, .bool false] 136)).grown grE (fun e => S4.apart e.symm)
                       have s0E : wE.cell? ⟨sb, 0, none⟩ = some (.slice a l.length cap) := BE.cell 0 _ rfl
                       have s1E : wE.frozen? ⟨sb, 0, none⟩ = false := BE.free 0 (by simp))
        all_goals
          have BZ := BE.set 0 (.slice (some ⟨g, 0, none⟩) (l.length + 1) cap9) (by simp)
          have gne : g ≠ sb := by
            rcases egE with e | e
            · intro h
              rw [h] at e
              exact S4.apart e
            · simp at e
              omega
          have gnew : (Value.slice a l.length cap).ownBlock = some g ∨ w.heap.size ≤ g := by
            rcases egE with e | e
            · exact .inl e
            · right
              have := hb.size
              simp at e
              omega
          have ownZ := ownE.kept (row := some sb) (onlyCell sb 0 wE (.slice (some ⟨g, 0, none⟩) (l.length + 1) cap9)) (.inr (fun e => gne (by simpa [Value.ownBlock] using e)))
          have TZ : Touch (footR sb (.slice a l.length cap)) w (wE.setCell ⟨sb, 0, none⟩ (.slice (some ⟨g, 0, none⟩) (l.length + 1) cap9)) :=
            (((Touch.ofBelow hb).trans (Touch.ofBelow (boxed ((Below.refl _ wr).drew) (.cells #[.int .i64 key, .int .i64 wl, .int .i64 ct, .int .i64 st, .int .i64 sq, .string dt, .bool false] 136)))).trans (Touch.grown grE (fun k hk => .inr hk))).trans (Touch.setCell wE ⟨sb, 0, none⟩ _ (.inl rfl))
          have FIN : Hid (PutPost w sb (.slice a l.length cap) (l ++ [⟨key, ⟨wl, ct, st, sq, dt, false⟩⟩]) (wE.setCell ⟨sb, 0, none⟩ (.slice (some ⟨g, 0, none⟩) (l.length + 1) cap9))) :=
            ⟨_, ⟨BZ, by rw [hdsL_snoc, List.length_append]; exact ownZ, fun e => gne (by simpa [Value.ownBlock] using e), fun x hx => by
              rcases List.mem_append.1 hx with h | h
              · exact hS.ok x h
              · obtain rfl := List.mem_singleton.1 h
                exact HV.out⟩, fun k hk => by
              have e : g = k := by simpa [Value.ownBlock] using hk
              rw [← e]
              exact gnew, TZ⟩
          clear BZ ownZ TZ gnew gne
          go_wp2_with fail
          go_ret
          exact ⟨by rw [PE.out]; rfl, by rw [PL.out]; exact FIN.out⟩
  · have em : dt.toList.isEmpty = true := by
      have := P5.out
      cases hx : dt.toList.isEmpty
      · rw [hx] at this; cases this
      · rfl
    obtain ⟨a, cap, rfl, hH⟩ := hdIn_own hS.own
    have hH4 := hH.later hb
    have box4 := hS.box.later hb
    have s0 : w4.cell? ⟨sb, 0, none⟩ = some (.slice a l.length cap) := box4.cell 0 _ rfl
    go_wp2_with fail
    clear s0 box4
    go_loopw [48] (fun iv wr => ∃ (k : Nat) (z : Int), k ≤ l.length ∧ z = k ∧ iv = .int .i64 z ∧ (∀ j, j < k → twinB key ⟨wl, ct, st, sq, dt, true⟩ (hdAt l j) = false) ∧ RowL wr w.heap.size [.int .i64 wl, .int .i64 ct, .int .i64 st, .int .i64 sq, .string dt, .bool true] ∧ Below w.heap.size w wr) (fun i _ => l.length - (intOf i).toNat)
    case atStart => exact ⟨0, 0, by omega, rfl, rfl, fun j hj => by omega, R, hb⟩
    case round =>
      clear R hb hH4
      obtain ⟨k, z, hk, hz, rfl, hnt, R, hb⟩ := hrel
      have NT : Hid (∀ j, j < k → twinB key ⟨wl, ct, st, sq, dt, true⟩ (hdAt l j) = false) := hnt
      clear hnt
      have HZ : Hid (z = k) := hz
      have hH4 := hH.later hb
      by_cases hlt : k < l.length
      · have h1 : z < (l.length : Int) := by omega
        have h2 : z.toNat = k := by omega
        have h3 : 0 ≤ z := by omega
        clear hz
        obtain ⟨b, off, rfl, hcc⟩ : ∃ b off, a = some ⟨b, off, none⟩ ∧ ∀ i r u, i < l.length → (hdL (hdAt l i))[r]? = some u → wr.cell? ⟨b, off + (i * 7 + r), none⟩ = some u := by
          rcases hH4.held with h0 | h0
          · rw [h0] at hlt; simp at hlt
          · exact h0
        obtain ⟨⟨hk_, ⟨hw, hc, hs, hq, hd, hg⟩⟩, hx⟩ : ∃ x, hdAt l k = x := ⟨_, rfl⟩
        have x0 : wr.cell? ⟨b, off + k * 7, none⟩ = some (.int .i64 hk_) := hcc k 0 _ hlt (by rw [hx]; rfl)
        have x1 : wr.cell? ⟨b, off + k * 7 + 1, none⟩ = some (.int .i64 hw) := hcc k 1 _ hlt (by rw [hx]; rfl)
        have x2 : wr.cell? ⟨b, off + k * 7 + 2, none⟩ = some (.int .i64 hc) := hcc k 2 _ hlt (by rw [hx]; rfl)
        have x3 : wr.cell? ⟨b, off + k * 7 + 3, none⟩ = some (.int .i64 hs) := hcc k 3 _ hlt (by rw [hx]; rfl)
        have x4 : wr.cell? ⟨b, off + k * 7 + 4, none⟩ = some (.int .i64 hq) := hcc k 4 _ hlt (by rw [hx]; rfl)
        have x5 : wr.cell? ⟨b, off + k * 7 + 5, none⟩ = some (.string hd) := hcc k 5 _ hlt (by rw [hx]; rfl)
        have x6 : wr.cell? ⟨b, off + k * 7 + 6, none⟩ = some (.bool hg) := hcc k 6 _ hlt (by rw [hx]; rfl)
        have HX : Hid (hdAt l k = ⟨hk_, ⟨hw, hc, hs, hq, hd, hg⟩⟩) := hx
        clear hx hcc hH4
        have TW : Hid (twinB key ⟨wl, ct, st, sq, dt, true⟩ (hdAt l k) = ((hk_ == key) && same2 hw hc wl ct && (hs == st))) := by
          show twinB key ⟨wl, ct, st, sq, dt, true⟩ (hdAt l k) = _
          rw [HX.out]
          simp only [twinB, same2]
          rw [Bool.eq_iff_iff]
          simp
        have R' := R.boxed (.cells #[.int .i64 hk_, .int .i64 hw, .int .i64 hc, .int .i64 hs, .int .i64 hq, .string hd, .bool hg] 136)
        have hb' := boxed hb (.cells #[.int .i64 hk_, .int .i64 hw, .int .i64 hc, .int .i64 hs, .int .i64 hq, .string hd, .bool hg] 136)
        have c0 := R'.cell 0 _ rfl
        have c1 := R'.cell 1 _ rfl
        have c2 := R'.cell 2 _ rfl
        cases e1 : (hk_ == key)
        · have NT2 : Hid (∀ j, j < k + 1 → twinB key ⟨wl, ct, st, sq, dt, true⟩ (hdAt l j) = false) := fun j hj => by
            rcases Nat.lt_or_ge j k with g | g
            · exact NT.out j g
            · obtain rfl : j = k := by omega
              rw [TW.out, e1]; rfl
          go_wp2_with fail
          go_roundw
          case rel => exact ⟨k + 1, z + 1, by omega, by have := HZ.out; omega, by go_num, NT2.out, R', hb'⟩
          case measure => simp [intOf]; omega
        · cases e2 : same2 hw hc wl ct
          · have NT2 : Hid (∀ j, j < k + 1 → twinB key ⟨wl, ct, st, sq, dt, true⟩ (hdAt l j) = false) := fun j hj => by
              rcases Nat.lt_or_ge j k with g | g
              · exact NT.out j g
              · obtain rfl : j = k := by omega
                rw [TW.out, e1, e2]; rfl
            go_wp2_with fail
            go_roundw
            case rel => exact ⟨k + 1, z + 1, by omega, by have := HZ.out; omega, by go_num, NT2.out, R', hb'⟩
            case measure => simp [intOf]; omega
          · cases e3 : (hs == st)
            · have NT2 : Hid (∀ j, j < k + 1 → twinB key ⟨wl, ct, st, sq, dt, true⟩ (hdAt l j) = false) := fun j hj => by
                rcases Nat.lt_or_ge j k with g | g
                · exact NT.out j g
                · obtain rfl : j = k := by omega
                  rw [TW.out, e1, e2, e3]; rfl
              go_wp2_with fail
              go_roundw
              case rel => exact ⟨k + 1, z + 1, by omega, by have := HZ.out; omega, by go_num, NT2.out, R', hb'⟩
              case measure => simp [intOf]; omega
            · have PE : Hid (putE l key ⟨wl, ct, st, sq, dt, true⟩ = 9) := by
                have tt : twinB key ⟨wl, ct, st, sq, dt, true⟩ (hdAt l k) = true := by rw [TW.out, e1, e2, e3]; rfl
                have ta : l.any (twinB key ⟨wl, ct, st, sq, dt, true⟩) = true := List.any_eq_true.2 ⟨hdAt l k, by simp only [hdAt, List.getD, List.getElem?_eq_getElem hlt, Option.getD_some]; exact List.getElem_mem hlt, tt⟩
                show putE l key ⟨wl, ct, st, sq, dt, true⟩ = 9
                unfold putE
                rw [H.out, HV.out, ta]
                rfl
              have PL : Hid (putL l key ⟨wl, ct, st, sq, dt, true⟩ = l) := by show putL l key ⟨wl, ct, st, sq, dt, true⟩ = l; unfold putL; rw [PE.out]; rfl
              go_wp2_with fail
              go_ret
              exact ⟨by rw [PE.out]; rfl, by rw [PL.out]; exact PutPost.same hS hb'⟩
      · have h4 : ¬ z < (l.length : Int) := by omega
        have PE : Hid (putE l key ⟨wl, ct, st, sq, dt, true⟩ = 0) := by
          have ta : l.any (twinB key ⟨wl, ct, st, sq, dt, true⟩) = false := by
            rw [List.any_eq_false]
            intro x hx
            obtain ⟨i, hi, rfl⟩ := List.mem_iff_getElem.1 hx
            have e := NT.out i (by omega)
            simp only [hdAt, List.getD, List.getElem?_eq_getElem hi, Option.getD_some] at e
            simp [e]
          show putE l key ⟨wl, ct, st, sq, dt, true⟩ = 0
          unfold putE
          rw [H.out, HV.out, ta]
          rfl
        have PL : Hid (putL l key ⟨wl, ct, st, sq, dt, true⟩ = l ++ [⟨key, ⟨wl, ct, st, sq, dt, true⟩⟩]) := by show putL l key ⟨wl, ct, st, sq, dt, true⟩ = _; unfold putL; rw [PE.out]; rfl
        clear hz
        have S4 := hS.later hb
        have s0 : wr.cell? ⟨sb, 0, none⟩ = some (.slice a l.length cap) := S4.box.cell 0 _ rfl
        have s1 : wr.frozen? ⟨sb, 0, none⟩ = false := S4.box.free 0 (by simp)
        have hsb : sb < wr.heap.size := S4.box.lt
        have c0 := R.cell 0 _ rfl
        have c1 := R.cell 1 _ rfl
        have c2 := R.cell 2 _ rfl
        have c3 := R.cell 3 _ rfl
        have c4 := R.cell 4 _ rfl
        have c5 := R.cell 5 _ rfl
        have ownd : wr.drew.ownsRow 0 136 7 (.slice a l.length cap) l.length (hdsL l) := S4.own
        obtain ⟨i0, hi, hz0, hz1, hz2⟩ := info_parts heldInfo
        go_wp2_with fail
        go_region_law (refine step_append_lies _ rfl (.tmp 77) (.tmp 81) 67 rfl 0 136 i0 (.agg #[.int .i64 0, .int .i64 0, .int .i64 0, .int .i64 0, .int .i64 0, .string ⟨#[]⟩, .bool false]) 7 64 Tryd.underlying67 hi hz0 hz1 hz2 rfl (by decide) (.slice a l.length cap) l.length (hdsL l) (by simp [Act.eval]) (ownd.alloc _) ⟨wr.heap.size, 0, none⟩ 1 1 (hdL ⟨key, ⟨wl, ct, st, sq, dt, true⟩⟩) (by simp [Act.eval]) rfl (World.news_of_block (heap_alloc_new wr.drew (.cells #[.int .i64 key, .int .i64 wl, .int .i64 ct, .int .i64 st, .int .i64 sq, .string dt, .bool true] 136))) (by intro u hu; simp [hdL] at hu; rcases hu with rfl | rfl | rfl | rfl | rfl | rfl | rfl <;> rfl) (by decide) (by simp only [maxLen]; omega) (by omega) (by simp) _ rfl ?_
                       intro g cap9 wE ownE grE egE ltE
                       have BE := ((S4.box.drew).boxed (.cells #[.int .i64 key, .int .i64 wl, .int .i64 ct, .int .i64 st, .int .i64 sq, .string dt, .bool true] 136)).grown grE (fun e => S4.apart e.symm)
                       have s0E : wE.cell? ⟨sb, 0, none⟩ = some (.slice a l.length cap) := BE.cell 0 _ rfl
                       have s1E : wE.frozen? ⟨sb, 0, none⟩ = false := BE.free 0 (by simp))
        all_goals
          have BZ := BE.set 0 (.slice (some ⟨g, 0, none⟩) (l.length + 1) cap9) (by simp)
          have gne : g ≠ sb := by
            rcases egE with e | e
            · intro h
              rw [h] at e
              exact S4.apart e
            · simp at e
              omega
          have gnew : (Value.slice a l.length cap).ownBlock = some g ∨ w.heap.size ≤ g := by
            rcases egE with e | e
            · exact .inl e
            · right
              have := hb.size
              simp at e
              omega
          have ownZ := ownE.kept (row := some sb) (onlyCell sb 0 wE (.slice (some ⟨g, 0, none⟩) (l.length + 1) cap9)) (.inr (fun e => gne (by simpa [Value.ownBlock] using e)))
          have TZ : Touch (footR sb (.slice a l.length cap)) w (wE.setCell ⟨sb, 0, none⟩ (.slice (some ⟨g, 0, none⟩) (l.length + 1) cap9)) :=
            (((Touch.ofBelow hb).trans (Touch.ofBelow (boxed ((Below.refl _ wr).drew) (.cells #[.int .i64 key, .int .i64 wl, .int .i64 ct, .int .i64 st, .int .i64 sq, .string dt, .bool true] 136)))).trans (Touch.grown grE (fun k hk => .inr hk))).trans (Touch.setCell wE ⟨sb, 0, none⟩ _ (.inl rfl))
          have FIN : Hid (PutPost w sb (.slice a l.length cap) (l ++ [⟨key, ⟨wl, ct, st, sq, dt, true⟩⟩]) (wE.setCell ⟨sb, 0, none⟩ (.slice (some ⟨g, 0, none⟩) (l.length + 1) cap9))) :=
            ⟨_, ⟨BZ, by rw [hdsL_snoc, List.length_append]; exact ownZ, fun e => gne (by simpa [Value.ownBlock] using e), fun x hx => by
              rcases List.mem_append.1 hx with h | h
              · exact hS.ok x h
              · obtain rfl := List.mem_singleton.1 h
                exact HV.out⟩, fun k hk => by
              have e : g = k := by simpa [Value.ownBlock] using hk
              rw [← e]
              exact gnew, TZ⟩
          clear BZ ownZ TZ gnew gne
          go_wp2_with fail
          go_ret
          exact ⟨by rw [PE.out]; rfl, by rw [PL.out]; exact FIN.out⟩

/-- Put, of whatever key and version -/
theorem refPut_any {sb : Nat} {sv : Value} {l : List Hd} (key : Int) (v : Ver) (w : World) (hS : RefSt w sb sv l) (hl : l.length ≤ 1000) :
    Calls Tryd.prog 32 #[.pointer (some ⟨sb, 0, none⟩), .int .i64 key, .agg #[.int .i64 v.wall, .int .i64 v.count, .int .i64 v.site, .int .i64 v.seq, .string v.data, .bool v.gone]] w fun e w' => e = .returned (.int .i64 (putE l key v)) ∧ PutPost w sb sv (putL l key v) w' := by
  cases h : inB key 0 7
  · exact refPut_range h v w hS
  · cases hv : okVer v
    · exact refPut_arg h v hv w hS
    · exact refPut_ok h v hv w hS hl

end Go.Proofs.YtknejedgddlabaaDoor
