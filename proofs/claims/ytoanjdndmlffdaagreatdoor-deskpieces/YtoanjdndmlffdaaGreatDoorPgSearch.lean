import Derived.Test.YtoanjdndmlffdaaGreatDoorPgSmall
namespace Go.Proofs.YtoanjdndmlffdaaGreatDoor
open Go.RowKit
/-- each is earlier than those behind it -/
def Sorted (L : List Ver) : Prop := L.Pairwise fun a b => beforeV a b = true
theorem Sorted.at {L : List Ver} (h : Sorted L) {i j : Nat} (hij : i < j) (hj : j < L.length) : beforeV (verAt L i) (verAt L j) = true := by
  rw [verAt_eq hj, verAt_eq (by omega)]
  exact List.pairwise_iff_getElem.1 h i j (by omega) hj hij
theorem Sorted.mono {L : List Ver} (h : Sorted L) {t : Ver} {i j : Nat} (hij : i ≤ j) (hj : j < L.length) (hb : beforeV (verAt L j) t = true) : beforeV (verAt L i) t = true := by
  rcases Nat.lt_or_ge i j with g | g
  · have := h.at g hj
    rw [beforeV_iff] at this hb ⊢
    omega
  · obtain rfl : i = j := by omega
    exact hb

/-- where a version belongs -/
def BsAt (L : List Ver) (t : Ver) (p : Nat) : Prop := p ≤ L.length ∧ (∀ j, j < p → beforeV (verAt L j) t = true) ∧ (∀ j, p ≤ j → j < L.length → beforeV (verAt L j) t = false)
/-- .. and whether one of its stamp and site is there -/
def foundB (L : List Ver) (t : Ver) (p : Nat) : Bool := decide (p < L.length) && decide (ordV (verAt L p) t = 0)

set_option maxHeartbeats 4000000 in
theorem search_any {a : Option Addr} {cap : Nat} {L : List Ver} (t : Ver) (w : World) (hV : VsIn w a cap L) (hs : Sorted L) (hl : L.length ≤ 1000) :
    Calls Tryz.prog 284 #[.slice a L.length cap, .agg #[.int .i64 t.wall, .int .i64 t.count, .int .i64 t.site, .int .i64 t.seq, .string t.data, .bool t.gone], .func (.func 285) #[] #[]] w fun e w' =>
      ∃ p : Nat, e = .returned (.tuple #[.int .i64 p, .bool (foundB L t p)]) ∧ BsAt L t p ∧ Below w.heap.size w w' := by
  have hne := Later.one
  have RB := RowL.new (w := w) (T := 130) (verL t) rfl
  have hb := boxed (Below.refl _ w) (.cells (verL t).toArray 130)
  have HS : Hid (Sorted L) := hs
  clear hs
  go_enter Tryz.func284, Tryz.ntmps284
  go_wp2_with fail
  change RowL (w.alloc (.cells #[.int .i64 t.wall, .int .i64 t.count, .int .i64 t.site, .int .i64 t.seq, .string t.data, .bool t.gone] 130)) w.heap.size (verL t) at RB
  change Below w.heap.size w (w.alloc (.cells #[.int .i64 t.wall, .int .i64 t.count, .int .i64 t.site, .int .i64 t.seq, .string t.data, .bool t.gone] 130)) at hb
  go_loopw [9, 10] (fun s9 s10 wr => ∃ lo hi : Nat, s9 = .int .i64 lo ∧ s10 = .int .i64 hi ∧ lo ≤ hi ∧ hi ≤ L.length ∧ Hid ((∀ j, j < lo → beforeV (verAt L j) t = true) ∧ (∀ j, hi ≤ j → j < L.length → beforeV (verAt L j) t = false)) ∧ RowL wr w.heap.size (verL t) ∧ Below w.heap.size w wr) (fun i j _ => (intOf j).toNat - (intOf i).toNat)
  case atStart => exact ⟨0, L.length, rfl, rfl, by omega, by omega, (⟨fun j hj => by omega, fun j h1 h2 => by omega⟩ : (∀ j, j < 0 → beforeV (verAt L j) t = true) ∧ (∀ j, L.length ≤ j → j < L.length → beforeV (verAt L j) t = false)), RB, hb⟩
  case round =>
    clear RB hb
    obtain ⟨lo, hi, rfl, rfl, h1, h2, I, R, hb⟩ := hrel
    have hV4 := hV.later hb
    have d0 := Later.cell (R.cell 0 _ rfl)
    have d1 := Later.cell (R.cell 1 _ rfl)
    have d2 := Later.cell (R.cell 2 _ rfl)
    have d3 := Later.cell (R.cell 3 _ rfl)
    have d4 := Later.cell (R.cell 4 _ rfl)
    have d5 := Later.cell (R.cell 5 _ rfl)
    by_cases hlt : lo < hi
    · obtain ⟨b, hbl, rfl, hcc⟩ : ∃ b, b < wr.heap.size ∧ a = some ⟨b, 0, none⟩ ∧ ∀ i r u, i < L.length → (verL (verAt L i))[r]? = some u → wr.cell? ⟨b, i * 6 + r, none⟩ = some u := by
        rcases hV4.held with h0 | h0
        · rw [h0] at h2; simp at h2; omega
        · exact h0
      obtain ⟨m, hm⟩ : ∃ m, (lo + hi) / 2 = m := ⟨_, rfl⟩
      have hm1 : m < L.length := by omega
      obtain ⟨y, hy⟩ : ∃ y, verAt L m = y := ⟨_, rfl⟩
      have x0 : wr.cell? ⟨b, m * 6, none⟩ = some (.int .i64 y.wall) := hcc m 0 _ hm1 (by rw [hy]; rfl)
      have x1 : wr.cell? ⟨b, m * 6 + 1, none⟩ = some (.int .i64 y.count) := hcc m 1 _ hm1 (by rw [hy]; rfl)
      have x2 : wr.cell? ⟨b, m * 6 + 2, none⟩ = some (.int .i64 y.site) := hcc m 2 _ hm1 (by rw [hy]; rfl)
      have x3 : wr.cell? ⟨b, m * 6 + 3, none⟩ = some (.int .i64 y.seq) := hcc m 3 _ hm1 (by rw [hy]; rfl)
      have x4 : wr.cell? ⟨b, m * 6 + 4, none⟩ = some (.string y.data) := hcc m 4 _ hm1 (by rw [hy]; rfl)
      have x5 : wr.cell? ⟨b, m * 6 + 5, none⟩ = some (.bool y.gone) := hcc m 5 _ hm1 (by rw [hy]; rfl)
      replace x0 := Later.cell x0
      replace x1 := Later.cell x1
      replace x2 := Later.cell x2
      replace x3 := Later.cell x3
      replace x4 := Later.cell x4
      replace x5 := Later.cell x5
      have M : Hid ((lo + hi) / 2 = m) := hm
      have Y : Hid (verAt L m = y) := hy
      have e1 : ((lo : Int) + (hi : Int)) / 2 = (m : Int) := by omega
      obtain ⟨c, hc⟩ : ∃ c, ordV y t = c := ⟨_, rfl⟩
      have C : Hid (ordV y t = c) := hc
      clear hy hm hc hcc hV4
      by_cases hneg : c < 0
      · go_wp2_with fail
        refine wp_region_later (by kernel_rfl) (by kernel_rfl) ?_
        repeat (go_big_quiet_step ((go_at_call 285; with_reducible exact calls_later (order_is C.out _))))
        refine wpQuiet_nil ?_
        rintro w5 ⟨⟨_, hb7⟩, rfl⟩
        go_wp2_with fail
        go_roundw
        case rel =>
          have hbt : beforeV y t = true := ordV_neg.1 (by rw [C.out]; exact hneg)
          exact ⟨m + 1, hi, by go_num, rfl, by have := M.out; omega, h2, (⟨fun j hj => HS.out.mono (by omega) hm1 (by rw [Y.out]; exact hbt), I.out.2⟩ : _ ∧ _), R.later hb7, behind hb hb7⟩
        case measure => simp [intOf]; have := M.out; omega
      · go_wp2_with fail
        refine wp_region_later (by kernel_rfl) (by kernel_rfl) ?_
        repeat (go_big_quiet_step ((go_at_call 285; with_reducible exact calls_later (order_is C.out _))))
        refine wpQuiet_nil ?_
        rintro w5 ⟨⟨_, hb7⟩, rfl⟩
        go_wp2_with fail
        go_roundw
        case rel =>
          have hbt : beforeV y t = false := by
            cases hq : beforeV y t
            · rfl
            · exfalso
              have := ordV_neg.2 hq
              rw [C.out] at this
              omega
          exact ⟨lo, m, rfl, rfl, by have := M.out; omega, by omega, (⟨I.out.1, fun j h3 h4 => by
            cases hq : beforeV (verAt L j) t
            · rfl
            · have := HS.out.mono h3 h4 hq
              rw [Y.out, hbt] at this
              cases this⟩ : _ ∧ _), R.later hb7, behind hb hb7⟩
        case measure => simp [intOf]; have := M.out; omega
    · obtain rfl : hi = lo := by omega
      have BS : Hid (BsAt L t hi) := ⟨h2, I.out.1, I.out.2⟩
      have hnl : ¬ (hi : Int) < (hi : Int) := by omega
      by_cases hn : hi < L.length
      · obtain ⟨b, hbl, rfl, hcc⟩ : ∃ b, b < wr.heap.size ∧ a = some ⟨b, 0, none⟩ ∧ ∀ i r u, i < L.length → (verL (verAt L i))[r]? = some u → wr.cell? ⟨b, i * 6 + r, none⟩ = some u := by
          rcases hV4.held with h0 | h0
          · rw [h0] at hn; simp at hn
          · exact h0
        obtain ⟨y, hy⟩ : ∃ y, verAt L hi = y := ⟨_, rfl⟩
        have x0 : wr.cell? ⟨b, hi * 6, none⟩ = some (.int .i64 y.wall) := hcc hi 0 _ hn (by rw [hy]; rfl)
        have x1 : wr.cell? ⟨b, hi * 6 + 1, none⟩ = some (.int .i64 y.count) := hcc hi 1 _ hn (by rw [hy]; rfl)
        have x2 : wr.cell? ⟨b, hi * 6 + 2, none⟩ = some (.int .i64 y.site) := hcc hi 2 _ hn (by rw [hy]; rfl)
        have x3 : wr.cell? ⟨b, hi * 6 + 3, none⟩ = some (.int .i64 y.seq) := hcc hi 3 _ hn (by rw [hy]; rfl)
        have x4 : wr.cell? ⟨b, hi * 6 + 4, none⟩ = some (.string y.data) := hcc hi 4 _ hn (by rw [hy]; rfl)
        have x5 : wr.cell? ⟨b, hi * 6 + 5, none⟩ = some (.bool y.gone) := hcc hi 5 _ hn (by rw [hy]; rfl)
        replace x0 := Later.cell x0
        replace x1 := Later.cell x1
        replace x2 := Later.cell x2
        replace x3 := Later.cell x3
        replace x4 := Later.cell x4
        replace x5 := Later.cell x5
        obtain ⟨c, hc⟩ : ∃ c, ordV y t = c := ⟨_, rfl⟩
        have C : Hid (ordV y t = c) := hc
        have hn' : (hi : Int) < (L.length : Int) := by omega
        have dn : decide ((hi : Int) < (L.length : Int)) = true := decide_eq_true hn'
        have FB : Hid (foundB L t hi = (c == 0)) := by
          show foundB L t hi = _
          unfold foundB
          rw [hy, hc, decide_eq_true hn, Bool.true_and]
          by_cases h0 : c = 0 <;> simp [h0]
        clear hy hc hcc hV4
        go_wp2_with fail
        refine wp_region_later (by kernel_rfl) (by kernel_rfl) ?_
        repeat (go_big_quiet_step ((go_at_call 285; with_reducible exact calls_later (order_is C.out _))))
        refine wpQuiet_nil ?_
        rintro w5 ⟨⟨_, hb7⟩, rfl⟩
        go_wp2_with fail
        go_ret2
        exact ⟨hi, by rw [FB.out]; rfl, BS.out, behind hb hb7⟩
      · have dn : decide ((hi : Int) < (L.length : Int)) = false := decide_eq_false (by omega)
        have FB : Hid (foundB L t hi = false) := by
          show foundB L t hi = _
          unfold foundB
          rw [decide_eq_false hn, Bool.false_and]
        clear hV4
        go_wp2_with fail
        refine wp_region_later (by kernel_rfl) (by kernel_rfl) ?_
        repeat (go_big_quiet_step (fail))
        refine wpQuiet_nil ?_
        rintro w5 ⟨⟨_, hb7⟩, rfl⟩
        go_wp2_with fail
        go_ret2
        exact ⟨hi, by rw [FB.out]; rfl, BS.out, behind hb hb7⟩
end Go.Proofs.YtoanjdndmlffdaaGreatDoor
