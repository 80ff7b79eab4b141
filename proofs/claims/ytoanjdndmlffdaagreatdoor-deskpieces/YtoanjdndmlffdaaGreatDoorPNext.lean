import Derived.Test.YtoanjdndmlffdaaGreatDoorSiteE
namespace Go.Proofs.YtoanjdndmlffdaaGreatDoor
open Go.RowKit
theorem look_pick {S : SiteS} {waits : List TxM} {s : Int} {m : TxM} {v : Bool} (hL : LookIs waits s (depOf s S.a0 S.a1 S.a2 S.a3 + 1) m v) (he : waits.map (·.t) = S.waits) (hn : Nums S.waits) :
    (v = false → pickS S s = none) ∧ (v = true → (readyS S m.t = false → pickS S s = none) ∧ (readyS S m.t = true → pickS S s = some m.t)) := by
  refine ⟨fun e => pickS_none' (fun x hx hs => ?_), fun e => ?_⟩
  · obtain ⟨_, h⟩ := hL.no e
    rw [← he] at hx
    obtain ⟨y, hy, rfl⟩ := List.mem_map.1 hx
    have h' := h y hy
    cases hr : readyS S y.t with
    | false => rfl
    | true =>
      have := (readyS_seq hr).1
      rw [hs] at this
      exact absurd ⟨hs, this⟩ h'
  · obtain ⟨h1, h2, h3⟩ := hL.yes e
    have hm : m.t ∈ S.waits := by rw [← he]; exact List.mem_map.2 ⟨m, h1, rfl⟩
    refine ⟨fun hr => ?_, fun hr => by rw [← h2]; exact pickS_some hn hm hr⟩
    cases hp : pickS S s with
    | none => rfl
    | some y =>
      obtain ⟨p1, p2, p3⟩ := pickS_mem hp
      have e1 := (readyS_seq p3).1
      rw [p2] at e1
      rw [hn.uniq p1 hm (by rw [p2, h2]) (by rw [e1, h3]), hr] at p3
      cases p3

/-- what a look at a site reads -/
structure NxB (A b bm : Nat) (s D : Int) (w : World) : Prop where
  c : w.cell? ⟨A, 0, none⟩ = some (.pointer (some ⟨b, 0, none⟩))
  m : w.cell? ⟨b, 8, none⟩ = some (.map (some bm))
  d : w.cell? ⟨b, 1 + s.toNat, none⟩ = some (.int .i64 D)
set_option maxRecDepth 100000 in
set_option maxHeartbeats 8000000 in
theorem isNext_any {A b : Nat} {lv : Value} {bm : Nat} {F : Nat → Prop} {S : SiteS} {log waits : List TxM} (s : Int) (w : World) (hA : w.cell? ⟨A, 0, none⟩ = some (.pointer (some ⟨b, 0, none⟩))) (h : PMem w b lv bm F S log waits) (he : waits.map (·.t) = S.waits) (hI : InvS S) (h0 : 0 ≤ s) (h3 : s ≤ 3) :
    Calls Tryz.prog 277 #[.int .i64 s, .pointer (some ⟨A, 0, none⟩)] w fun e w' => e = .returned (.bool (pickS S s).isSome) ∧ Below w.heap.size w w' := by
  have hd := hI.dep s
  have hn := hI.nums
  have wfd : wfI (depOf s S.a0 S.a1 S.a2 S.a3 + 1) := ⟨by have := hd.1; omega, by have := hd.2; omega⟩
  have wfs : wfI s := ⟨by omega, by omega⟩
  obtain ⟨m, v, hL⟩ := look_ex waits s (depOf s S.a0 S.a1 S.a2 S.a3 + 1)
  have PK := look_pick hL he hn
  have hms : v = true → 0 ≤ m.t.site ∧ m.t.site ≤ 3 := fun e => by rw [(hL.yes e).2.1]; exact ⟨h0, h3⟩
  have NB : NxB A b bm s (depOf s S.a0 S.a1 S.a2 S.a3) w.drew := ⟨hA, h.box.cell 8 _ rfl, h.box.cell _ _ (app_at h0 h3)⟩
  have FD : Hid (∀ W, Below w.heap.size w W → Calls Tryz.prog 276 #[.map (some bm), .int .i64 s, .int .i64 (depOf s S.a0 S.a1 S.a2 S.a3 + 1)] W fun e w' => e = .returned (.tuple #[txV m, .bool v]) ∧ Below W.heap.size W w') := fun W hb => find_any hL wfs wfd W (h.later hb).map
  have RD : Hid (∀ W, Below w.heap.size w W → v = true → ∀ r, readyS S m.t = r → Calls Tryz.prog 254 #[.pointer (some ⟨b, 0, none⟩), txV m] W fun e w' => e = .returned (.bool r) ∧ Below W.heap.size W w') := fun W hb hv r hr => isReady_any m W (h.later hb) (hms hv).1 (hms hv).2 (hI.dep _) hr
  have HPK : Hid ((v = false → pickS S s = none) ∧ (v = true → (readyS S m.t = false → pickS S s = none) ∧ (readyS S m.t = true → pickS S s = some m.t))) := PK
  have hw := wrap_next hd
  obtain ⟨⟨site, seq, wall, count, d0, d1, d2, d3, ws⟩, a, cap⟩ := m
  obtain ⟨D, hD⟩ : ∃ D, depOf s S.a0 S.a1 S.a2 S.a3 = D := ⟨_, rfl⟩
  rw [hD] at hw NB FD
  have hw2 : IntKind.i64.wrap (D + 1) = D + 1 := by rw [← hw]; unfold wrap64 IntKind.wrap; simp [IntKind.signed, IntKind.bits]; omega
  rw [← hw2] at FD
  have h4 : s < 4 := by omega
  have hbl := h.box.lt
  have hal : A < w.heap.size := World.block_lt_of_cell? _ _ hA
  have N0 : NxB A b bm s D w := ⟨NB.c, NB.m, NB.d⟩
  have Y0 := fun (w' : World) (h : Below w.heap.size w w') => cell_later h N0.c
  have Y1 := fun (w' : World) (h : Below w.heap.size w w') => cell_later h N0.m
  have Y2 := fun (w' : World) (h : Below w.heap.size w w') => cell_later h N0.d
  have hbD := (Below.refl w.heap.size w).drew
  clear hw2 PK hL hd hn wfd wfs hms hD hI he h hA
  go_enter Tryz.func277, Tryz.ntmps277
  go_wp2_with fail
  go_region_held3 (fun w' => Below w.heap.size w w') (repeat (first | (with_reducible assumption) | (with_reducible exact Below.refl _ _) | (with_reducible refine boxed ?_ _) | (with_reducible refine Below.drew ?_) | (refine Below.setCell ?_ (by first | (with_reducible exact Nat.le_refl _) | (have := Below.size (by with_reducible assumption); simpa using this)) _)))
    (first
      | (go_at_call 276; with_reducible refine (FD.out (w.alloc (.cells #[.int .i64 0, .int .i64 0, .int .i64 0, .int .i64 0, .int .i64 0, .int .i64 0, .int .i64 0, .int .i64 0, .slice none 0 0] 102)).drew ((boxed (Below.refl w.heap.size w) (.cells #[.int .i64 0, .int .i64 0, .int .i64 0, .int .i64 0, .int .i64 0, .int .i64 0, .int .i64 0, .int .i64 0, .slice none 0 0] 102)).drew)).mono ?_; rintro e w2 ⟨rfl, hb2⟩; have hbE : Below w.heap.size w w2 := behind ((boxed (Below.refl w.heap.size w) (.cells #[.int .i64 0, .int .i64 0, .int .i64 0, .int .i64 0, .int .i64 0, .int .i64 0, .int .i64 0, .int .i64 0, .slice none 0 0] 102)).drew) hb2; have RZ := ((RowL.new (w := w) (T := 102) [.int .i64 0, .int .i64 0, .int .i64 0, .int .i64 0, .int .i64 0, .int .i64 0, .int .i64 0, .int .i64 0, .slice none 0 0] rfl).drew).later hb2; have y0 := RZ.cell 0 _ rfl; have z0 := RZ.free 0 (by simp); have y1 := RZ.cell 1 _ rfl; have z1 := RZ.free 1 (by simp); have y2 := RZ.cell 2 _ rfl; have z2 := RZ.free 2 (by simp); have y3 := RZ.cell 3 _ rfl; have z3 := RZ.free 3 (by simp); have y4 := RZ.cell 4 _ rfl; have z4 := RZ.free 4 (by simp); have y5 := RZ.cell 5 _ rfl; have z5 := RZ.free 5 (by simp); have y6 := RZ.cell 6 _ rfl; have z6 := RZ.free 6 (by simp); have y7 := RZ.cell 7 _ rfl; have z7 := RZ.free 7 (by simp); have y8 := RZ.cell 8 _ rfl; have z8 := RZ.free 8 (by simp); simp only [txV])
      | (go_at_call 276; with_reducible refine (FD.out _ (by with_reducible assumption)).mono ?_; rintro e w2 ⟨rfl, hb2⟩; have hbE : Below w.heap.size w w2 := behind (by with_reducible assumption) hb2; simp only [txV]))
  · have hbW := boxed hbE (.cells #[.int .i64 site, .int .i64 seq, .int .i64 wall, .int .i64 count, .int .i64 d0, .int .i64 d1, .int .i64 d2, .int .i64 d3, .slice a ws.length cap] 102)
    have RT := RowL.new (w := w2) (T := 102) [.int .i64 site, .int .i64 seq, .int .i64 wall, .int .i64 count, .int .i64 d0, .int .i64 d1, .int .i64 d2, .int .i64 d3, .slice a ws.length cap] rfl
    have b0 := cell_later hbW N0.c
    have c0 := RT.cell 0 _ rfl
    have c1 := RT.cell 1 _ rfl
    have c2 := RT.cell 2 _ rfl
    have c3 := RT.cell 3 _ rfl
    have c4 := RT.cell 4 _ rfl
    have c5 := RT.cell 5 _ rfl
    have c6 := RT.cell 6 _ rfl
    have c7 := RT.cell 7 _ rfl
    have c8 := RT.cell 8 _ rfl
    clear Y0 Y1 Y2 hbE hb2
    cases v
    · have HP0 : Hid (pickS S s = none) := HPK.out.1 rfl
      clear HPK RD
      go_wp2_with fail
      go_ret
      exact ⟨by rw [HP0.out]; rfl, hbW⟩
    · obtain ⟨r, hr⟩ : ∃ r, readyS S ⟨site, seq, wall, count, d0, d1, d2, d3, ws⟩ = r := ⟨_, rfl⟩
      have HR : Hid (readyS S ⟨site, seq, wall, count, d0, d1, d2, d3, ws⟩ = r) := hr
      clear hr
      have RR := RD.out _ hbW rfl r HR.out
      have HP1 : Hid ((pickS S s).isSome = r) := by
        show _ = _
        cases r
        · rw [((HPK.out.2 rfl).1 HR.out)]; rfl
        · rw [((HPK.out.2 rfl).2 HR.out)]; rfl
      clear HPK RD HR
      simp only [txV] at RR
      go_wp2_with fail
      refine RR.mono ?_
      rintro e w3 ⟨rfl, hb3⟩
      go_wp2_with fail
      go_ret
      exact ⟨by rw [HP1.out]; rfl, behind hbW hb3⟩
  · have hbW := tx_far hbE (Nat.le_refl _) site seq wall count d0 d1 d2 d3 (.slice a ws.length cap)
    have RT := tx_set RZ rfl site seq wall count d0 d1 d2 d3 (.slice a ws.length cap)
    clear RZ y0 y1 y2 y3 y4 y5 y6 y7 y8 z0 z1 z2 z3 z4 z5 z6 z7 z8
    have b0 := cell_later hbW N0.c
    have c0 := RT.cell 0 _ rfl
    have c1 := RT.cell 1 _ rfl
    have c2 := RT.cell 2 _ rfl
    have c3 := RT.cell 3 _ rfl
    have c4 := RT.cell 4 _ rfl
    have c5 := RT.cell 5 _ rfl
    have c6 := RT.cell 6 _ rfl
    have c7 := RT.cell 7 _ rfl
    have c8 := RT.cell 8 _ rfl
    clear Y0 Y1 Y2 hbE hb2
    cases v
    · have HP0 : Hid (pickS S s = none) := HPK.out.1 rfl
      clear HPK RD
      go_wp2_with fail
      go_ret
      exact ⟨by rw [HP0.out]; rfl, hbW⟩
    · obtain ⟨r, hr⟩ : ∃ r, readyS S ⟨site, seq, wall, count, d0, d1, d2, d3, ws⟩ = r := ⟨_, rfl⟩
      have HR : Hid (readyS S ⟨site, seq, wall, count, d0, d1, d2, d3, ws⟩ = r) := hr
      clear hr
      have RR := RD.out _ hbW rfl r HR.out
      have HP1 : Hid ((pickS S s).isSome = r) := by
        show _ = _
        cases r
        · rw [((HPK.out.2 rfl).1 HR.out)]; rfl
        · rw [((HPK.out.2 rfl).2 HR.out)]; rfl
      clear HPK RD HR
      simp only [txV] at RR
      go_wp2_with fail
      refine RR.mono ?_
      rintro e w3 ⟨rfl, hb3⟩
      go_wp2_with fail
      go_ret
      exact ⟨by rw [HP1.out]; rfl, behind hbW hb3⟩

/-- .. of the first n sites -/
def nextN (S : SiteS) : Nat → Option TxP
  | 0 => none
  | n + 1 => match nextN S n with
    | some x => some x
    | none => pickS S n
theorem nextN_four (S : SiteS) : nextN S 4 = nextS S := by
  cases h0 : pickS S 0 <;> cases h1 : pickS S 1 <;> cases h2 : pickS S 2 <;> simp [nextN, nextS, h0, h1, h2]

def LeastIs (S : SiteS) (e : Ending) : Prop := (∃ x, nextS S = some x ∧ e = .returned (.tuple #[.int .i64 x.site, .bool true])) ∨ (nextS S = none ∧ e = .returned (.tuple #[.int .i64 0, .bool false]))
set_option maxRecDepth 100000 in
set_option maxHeartbeats 8000000 in
theorem least_any {A b : Nat} {lv : Value} {bm : Nat} {F : Nat → Prop} {S : SiteS} {log waits : List TxM} (w : World) (hA : w.cell? ⟨A, 0, none⟩ = some (.pointer (some ⟨b, 0, none⟩))) (h : PMem w b lv bm F S log waits) (he : waits.map (·.t) = S.waits) (hI : InvS S) :
    Calls Tryz.prog 278 #[.func (.func 277) #[] #[.pointer (some ⟨A, 0, none⟩)]] w fun e w' =>
      LeastIs S e ∧ Below w.heap.size w w' := by
  have NX : Hid (∀ W, Below w.heap.size w W → ∀ s, 0 ≤ s → s ≤ 3 → Calls Tryz.prog 277 #[.int .i64 s, .pointer (some ⟨A, 0, none⟩)] W fun e w' => e = .returned (.bool (pickS S s).isSome) ∧ Below W.heap.size W w') := fun W hb s h0 h3 => isNext_any s W (cell_later hb hA) (h.later hb) he hI h0 h3
  clear hA h he hI
  go_enter Tryz.func278, Tryz.ntmps278
  go_wp2_with fail
  go_loopw [5] (fun iv wr => ∃ (k : Nat) (z : Int), k ≤ 4 ∧ z = k ∧ iv = .int .i64 z ∧ Hid (nextN S k = none) ∧ Below w.heap.size w wr) (fun i _ => 4 - (intOf i).toNat)
  case atStart => exact ⟨0, 0, by omega, rfl, rfl, rfl, Below.refl _ _⟩
  case round =>
    obtain ⟨k, z, hk, hz, rfl, HN, hb⟩ := hrel
    have HZ : Hid (z = k) := hz
    by_cases hlt : k < 4
    · have h1 : z < 4 := by omega
      have h3 : 0 ≤ z := by omega
      have CC := NX.out wr hb z (by omega) (by omega)
      cases hp : pickS S z with
      | none =>
        have HP : Hid (pickS S z = none) := hp
        rw [hp] at CC
        clear hz hp
        go_wp2_with fail
        refine CC.mono ?_
        rintro e w2 ⟨rfl, hb2⟩
        go_wp2_with fail
        go_roundw
        case rel =>
          refine ⟨k + 1, z + 1, by omega, by have := HZ.out; omega, by go_num, ?_, behind hb hb2⟩
          show nextN S (k + 1) = none
          simp only [nextN]
          rw [HN.out, ← HZ.out]
          exact HP.out
        case measure => simp [intOf]; have := HZ.out; omega
      | some x =>
        have HP : Hid (pickS S z = some x) := hp
        rw [hp] at CC
        clear hz hp
        go_wp2_with fail
        refine CC.mono ?_
        rintro e w2 ⟨rfl, hb2⟩
        go_wp2_with fail
        refine bodyPost_ret (v := .tuple #[.int .i64 z, .bool true]) (by simp [results, Tryz.results278, go_sem]) rfl ⟨.inl ⟨x, ?_, by rw [(pickS_mem HP.out).2.1]⟩, behind hb hb2⟩
        have h2 : nextN S (k + 1) = some x := by
          simp only [nextN]
          rw [HN.out, ← HZ.out]
          exact HP.out
        have up : ∀ j, nextN S (k + 1 + j) = some x := fun j => by
          induction j with
          | zero => exact h2
          | succ j ih => rw [← Nat.add_assoc]; simp only [nextN]; rw [ih]
        have := up (3 - k)
        rw [show k + 1 + (3 - k) = 4 by omega, nextN_four] at this
        exact this
    · have h1 : ¬ z < 4 := by omega
      obtain rfl : k = 4 := by omega
      clear hz
      go_wp2_with fail
      exact bodyPost_ret (v := .tuple #[.int .i64 0, .bool false]) (by simp [results, Tryz.results278, go_sem]) rfl ⟨.inr ⟨by rw [← nextN_four]; exact HN.out, rfl⟩, hb⟩
end Go.Proofs.YtoanjdndmlffdaaGreatDoor
