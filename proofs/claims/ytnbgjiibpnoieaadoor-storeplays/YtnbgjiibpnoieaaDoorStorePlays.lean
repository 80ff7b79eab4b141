/-
  'copselaw.StorePlays', whatever the program's store is: the walk.
-/
import Derived.Test.YtnbgjiibpnoieaaDoorStoreLaw
namespace Go.Proofs.YtnbgjiibpnoieaaDoor
open Go.RowKit

variable {St : World → Nat → (Nat → Prop) → List Hd → Prop}

theorem neVer (v : Ver) (w : World) : (binOp .neq 71 (.agg #[.int .i64 v.wall, .int .i64 v.count, .int .i64 v.site, .int .i64 v.seq, .string v.data, .bool v.gone]) (.agg #[.int .i64 v.wall, .int .i64 v.count, .int .i64 v.site, .int .i64 v.seq, .string v.data, .bool v.gone])).run Tryd.prog w = .ok (.bool false) w := by
  have h := eqVerB v v w
  have e : eqV v v = true := by simp [eqV]
  rw [run_eql_struct, e] at h
  rw [run_neq_struct]
  generalize (Op.equalIn 10000 71 _ _).run Tryd.prog w = r at *
  cases r with
  | ok b w1 =>
    simp only [Result.andThen] at h ⊢
    injection h with h1 h2
    injection h1 with h1
    rw [h1, h2]
    rfl
  | halt x w1 => simp [Result.andThen] at h

/-- what stands while a round is asked: the step's box, the two versions', how many the document's store holds -/
structure Stt (rb xb pb qb : Nat) (xs vs : List Value) (n : Value) (w : World) : Prop where
  x : RowL w xb xs
  p : RowL w pb vs
  q : RowL w qb vs
  n : w.cell? ⟨rb, 0, none⟩ = some n
theorem Stt.later {rb xb pb qb : Nat} {xs vs : List Value} {n : Value} {w w' : World} (h : Stt rb xb pb qb xs vs n w) (hb : Below w.heap.size w w') : Stt rb xb pb qb xs vs n w' := ⟨h.x.later hb, h.p.later hb, h.q.later hb, cell_later hb h.n⟩

/-- two stores that hold nothing -/
theorem two_init (PS : ProgSt St) {w : World} (o : Obj) (h : St (w.alloc o) w.heap.size (fun k => k = w.heap.size) []) :
    Two St ((w.alloc o).alloc (.cells #[.slice none 0 0] 69)) w.heap.size (w.heap.size + 1) [] [] (fun j => j < w.heap.size) := by
  have hb := boxed (Below.refl (w.alloc o).heap.size (w.alloc o)) (.cells #[.slice none 0 0] 69)
  have hs : (w.alloc o).heap.size = w.heap.size + 1 := by simp
  have r : RefSt ((w.alloc o).alloc (.cells #[.slice none 0 0] 69)) (w.heap.size + 1) (.slice none 0 0) [] :=
    ⟨RowL.new (T := 69) [.slice none 0 0] hs, World.ownsRow_nil _ _ _ _, by simp [Value.ownBlock], fun x hx => (by cases hx)⟩
  refine ⟨_, _, PS.kept h (fun k hk => hb.block k (PS.lt h k hk)) hb.size, r, ?_, ?_⟩
  · rintro k rfl (h | h)
    · omega
    · simp [Value.ownBlock] at h
  · intro k hk
    refine ⟨by have := hb.size; omega, fun e => by have e' : k = w.heap.size := e; omega, ?_⟩
    rintro (h | h)
    · omega
    · simp [Value.ownBlock] at h

/-- behind the switch: both stores, the step's box, how many there are -/
def Mid (St : World → Nat → (Nat → Prop) → List Hd → Prop) (k xb : Nat) (xs : List Value) (w wc : World) : Prop :=
  ∃ (pv : Value) (M : List Hd), Two St wc w.heap.size (w.heap.size + 1) M M (fun j => j < w.heap.size ∨ j = xb) ∧ RowL wc xb (pv :: xs) ∧ M.length ≤ 1000 ∧ Hid (M.length ≤ k + 1) ∧ Hid (Apart M) ∧ Hid (∀ h ∈ M, okVer h.v = true) ∧ Below w.heap.size w wc

set_option maxRecDepth 100000 in
set_option maxHeartbeats 8000000 in
theorem plays_true (PS : ProgSt St) (init : ∀ w : World, St (w.alloc (.cells #[.slice none 0 0, .slice none 0 0, .slice none 0 0, .slice none 0 0, .slice none 0 0, .slice none 0 0, .slice none 0 0, .slice none 0 0] 65)) w.heap.size (fun k => k = w.heap.size) []) (a : Option Addr) (cap : Nat) (l : List PutV) (w : World) (hP : PutIn w a cap l) (hg : w.cell? ⟨0, 0, none⟩ = some (.iface 157 (.agg #[.pointer (some ⟨1, 28, none⟩)]))) :
    Calls Tryd.prog 6 #[.slice a l.length cap] w fun e w' => e = .returned (.bool true) ∧ Below w.heap.size w w' := by
  have HG : Hid (w.cell? ⟨0, 0, none⟩ = some (.iface 157 (.agg #[.pointer (some ⟨1, 28, none⟩)]))) := hg
  clear hg
  have HPS : Hid (ProgSt St) := PS
  have HIN : Hid (∀ w : World, St (w.alloc (.cells #[.slice none 0 0, .slice none 0 0, .slice none 0 0, .slice none 0 0, .slice none 0 0, .slice none 0 0, .slice none 0 0, .slice none 0 0] 65)) w.heap.size (fun k => k = w.heap.size) []) := init
  have BR : Hid (∀ (n : Int) (w : World), w.cell? ⟨0, 0, none⟩ = some (.iface 157 (.agg #[.pointer (some ⟨1, 28, none⟩)])) → Calls Tryd.prog 11 #[errV n, .int .i64 n] w fun e w' => e = .returned (.bool true) ∧ Below w.heap.size w w') := fun n w h => sameErr_errV n w h
  clear PS init
  by_cases h80 : 80 < (l.length : Int)
  · go_enter Tryd.func6, Tryd.ntmps6
    go_wp2_with fail
    go_ret
    exact ⟨rfl, Below.refl _ _⟩
  · go_enter Tryd.func6, Tryd.ntmps6
    go_wp2_with fail
    go_loopw [5] (fun iv wr => ∃ (k : Nat) (z : Int) (m : List Hd), k ≤ l.length ∧ z = k ∧ iv = .int .i64 z ∧ Two St wr w.heap.size (w.heap.size + 1) m m (fun j => j < w.heap.size) ∧ Apart m ∧ (∀ h ∈ m, okVer h.v = true) ∧ m.length ≤ k ∧ Below w.heap.size w wr) (fun i _ => l.length - (intOf i).toNat)
    case atStart =>
      exact ⟨0, 0, [], by omega, rfl, rfl, two_init HPS.out _ (HIN.out w), fun x hx => (by cases hx), fun x hx => (by cases hx), Nat.le_refl _, boxed (boxed (Below.refl _ _) _) _⟩
    case round =>
      obtain ⟨k, z, m, hk, hz, rfl, two, hap, hok, hml, hb⟩ := hrel
      have HZ : Hid (z = k) := hz
      have HAP : Hid (Apart m) := hap
      have HOK : Hid (∀ h ∈ m, okVer h.v = true) := hok
      clear hap hok
      by_cases hlt : k < l.length
      · have h1 : z < (l.length : Int) := by omega
        have h2 : z.toNat = k := by omega
        have h3 : 0 ≤ z := by omega
        clear hz
        have hP4 := hP.later hb
        obtain ⟨b, off, rfl, hcc⟩ : ∃ b off, a = some ⟨b, off, none⟩ ∧ ∀ i r u, i < l.length → (putC (putAt l i))[r]? = some u → wr.cell? ⟨b, off + (i * 12 + r), none⟩ = some u := by
          rcases hP4.held with h0 | h0
          · rw [h0] at hlt; simp at hlt
          · exact h0
        obtain ⟨⟨pw, pk, ⟨vw, vc, vs, vq, vd, vg⟩, b0, b1, b2, b3⟩, hx⟩ : ∃ x, putAt l k = x := ⟨_, rfl⟩
        have x0 : wr.cell? ⟨b, off + k * 12, none⟩ = some (.int .i64 pw) := hcc k 0 _ hlt (by rw [hx]; rfl)
        have x1 : wr.cell? ⟨b, off + k * 12 + 1, none⟩ = some (.int .i64 pk) := hcc k 1 _ hlt (by rw [hx]; rfl)
        have x2 : wr.cell? ⟨b, off + k * 12 + 2, none⟩ = some (.int .i64 vw) := hcc k 2 _ hlt (by rw [hx]; rfl)
        have x3 : wr.cell? ⟨b, off + k * 12 + 3, none⟩ = some (.int .i64 vc) := hcc k 3 _ hlt (by rw [hx]; rfl)
        have x4 : wr.cell? ⟨b, off + k * 12 + 4, none⟩ = some (.int .i64 vs) := hcc k 4 _ hlt (by rw [hx]; rfl)
        have x5 : wr.cell? ⟨b, off + k * 12 + 5, none⟩ = some (.int .i64 vq) := hcc k 5 _ hlt (by rw [hx]; rfl)
        have x6 : wr.cell? ⟨b, off + k * 12 + 6, none⟩ = some (.string vd) := hcc k 6 _ hlt (by rw [hx]; rfl)
        have x7 : wr.cell? ⟨b, off + k * 12 + 7, none⟩ = some (.bool vg) := hcc k 7 _ hlt (by rw [hx]; rfl)
        have x8 : wr.cell? ⟨b, off + k * 12 + 8, none⟩ = some (.int .i64 b0) := hcc k 8 _ hlt (by rw [hx]; rfl)
        have x9 : wr.cell? ⟨b, off + k * 12 + 9, none⟩ = some (.int .i64 b1) := hcc k 9 _ hlt (by rw [hx]; rfl)
        have x10 : wr.cell? ⟨b, off + k * 12 + 10, none⟩ = some (.int .i64 b2) := hcc k 10 _ hlt (by rw [hx]; rfl)
        have x11 : wr.cell? ⟨b, off + k * 12 + 11, none⟩ = some (.int .i64 b3) := hcc k 11 _ hlt (by rw [hx]; rfl)
        clear hx hcc hP4
        have two1 := two.new HPS.out (.cells #[.int .i64 pw, .int .i64 pk, .int .i64 vw, .int .i64 vc, .int .i64 vs, .int .i64 vq, .string vd, .bool vg, .int .i64 b0, .int .i64 b1, .int .i64 b2, .int .i64 b3] 73)
        have RX := RowL.new (w := wr) (T := 73) [.int .i64 pw, .int .i64 pk, .int .i64 vw, .int .i64 vc, .int .i64 vs, .int .i64 vq, .string vd, .bool vg, .int .i64 b0, .int .i64 b1, .int .i64 b2, .int .i64 b3] rfl
        have hb1 := boxed hb (.cells #[.int .i64 pw, .int .i64 pk, .int .i64 vw, .int .i64 vc, .int .i64 vs, .int .i64 vq, .string vd, .bool vg, .int .i64 b0, .int .i64 b1, .int .i64 b2, .int .i64 b3] 73)
        by_cases hd : 100 < (vd.size : Int)
        · go_wp2_with fail
          go_roundw
          case rel => exact ⟨k + 1, z + 1, m, by omega, by have := HZ.out; omega, by go_num, two1.less (fun j hj => .inl hj), HAP.out, HOK.out, by omega, hb1⟩
          case measure => simp [intOf]; omega
        · by_cases hw0 : pw = 0
          rotate_left
          by_cases hw1 : pw = 1
          focus
            subst hw1
            have hm8 : m.length ≤ 1000 := by omega
            go_wp2_with fail
            clear x0 x1 x2 x3 x4 x5 x6 x7 x8 x9 x10 x11
            refine (two_sweep HPS.out b0 b1 b2 b3 two1 hm8 HAP.out HOK.out).mono ?_
            rintro e wa ⟨rfl, TA, KA⟩
            have RA := RX.keeps KA (.inr rfl)
            have hbA := hb1.trans (KA.below (fun j hj => .inl hj))
            have k8 := RA.cell 8 _ rfl
            have k9 := RA.cell 9 _ rfl
            have k10 := RA.cell 10 _ rfl
            have k11 := RA.cell 11 _ rfl
            go_wp2_with fail
            refine (two_refSweep HPS.out b0 b1 b2 b3 TA hm8).mono ?_
            rintro e wc ⟨rfl, TC, KB⟩
            have RC := RA.keeps KB (.inr rfl)
            have hbC := hbA.trans (KB.below (fun j hj => .inl hj))
            have MID : Mid St k wr.heap.size [.int .i64 pk, .int .i64 vw, .int .i64 vc, .int .i64 vs, .int .i64 vq, .string vd, .bool vg, .int .i64 b0, .int .i64 b1, .int .i64 b2, .int .i64 b3] w wc := ⟨_, _, TC, RC, Nat.le_trans sweepL_length hm8, show _ ≤ _ from Nat.le_trans sweepL_length (by omega), apart_sweep HAP.out, two_ok TC, hbC⟩
            clear k8 k9 k10 k11
            have k1 := RC.cell 1 _ rfl
            have k8 := RC.cell 8 _ rfl
            have k9 := RC.cell 9 _ rfl
            have k10 := RC.cell 10 _ rfl
            have k11 := RC.cell 11 _ rfl
            go_wp2_with fail
            clear two1 RX hb1 TA RA hbA KA KB TC RC hbC k1 k8 k9 k10 k11
          rotate_left
          focus
            have MID : Mid St k wr.heap.size [.int .i64 pk, .int .i64 vw, .int .i64 vc, .int .i64 vs, .int .i64 vq, .string vd, .bool vg, .int .i64 b0, .int .i64 b1, .int .i64 b2, .int .i64 b3] w _ := ⟨_, m, two1, RX, by omega, show _ ≤ _ by omega, HAP, HOK, hb1⟩
            go_wp2_with fail
            clear x0 x1 x2 x3 x4 x5 x6 x7 x8 x9 x10 x11 two1 RX hb1
          rotate_left
          focus
            subst hw0
            have T0 := (two1.later HPS.out ((Below.refl _ (wr.alloc (.cells #[.int .i64 0, .int .i64 pk, .int .i64 vw, .int .i64 vc, .int .i64 vs, .int .i64 vq, .string vd, .bool vg, .int .i64 b0, .int .i64 b1, .int .i64 b2, .int .i64 b3] 73))).drew)).1
            have RD := RX.drew
            have hbD := hb1.drew
            have Y1 := fun (w' : World) (h : RowL w' wr.heap.size [.int .i64 0, .int .i64 pk, .int .i64 vw, .int .i64 vc, .int .i64 vs, .int .i64 vq, .string vd, .bool vg, .int .i64 b0, .int .i64 b1, .int .i64 b2, .int .i64 b3]) => h.cell 1 _ rfl
            have Y2 := fun (w' : World) (h : RowL w' wr.heap.size [.int .i64 0, .int .i64 pk, .int .i64 vw, .int .i64 vc, .int .i64 vs, .int .i64 vq, .string vd, .bool vg, .int .i64 b0, .int .i64 b1, .int .i64 b2, .int .i64 b3]) => h.cell 2 _ rfl
            have Y3 := fun (w' : World) (h : RowL w' wr.heap.size [.int .i64 0, .int .i64 pk, .int .i64 vw, .int .i64 vc, .int .i64 vs, .int .i64 vq, .string vd, .bool vg, .int .i64 b0, .int .i64 b1, .int .i64 b2, .int .i64 b3]) => h.cell 3 _ rfl
            have Y4 := fun (w' : World) (h : RowL w' wr.heap.size [.int .i64 0, .int .i64 pk, .int .i64 vw, .int .i64 vc, .int .i64 vs, .int .i64 vq, .string vd, .bool vg, .int .i64 b0, .int .i64 b1, .int .i64 b2, .int .i64 b3]) => h.cell 4 _ rfl
            have Y5 := fun (w' : World) (h : RowL w' wr.heap.size [.int .i64 0, .int .i64 pk, .int .i64 vw, .int .i64 vc, .int .i64 vs, .int .i64 vq, .string vd, .bool vg, .int .i64 b0, .int .i64 b1, .int .i64 b2, .int .i64 b3]) => h.cell 5 _ rfl
            have Y6 := fun (w' : World) (h : RowL w' wr.heap.size [.int .i64 0, .int .i64 pk, .int .i64 vw, .int .i64 vc, .int .i64 vs, .int .i64 vq, .string vd, .bool vg, .int .i64 b0, .int .i64 b1, .int .i64 b2, .int .i64 b3]) => h.cell 6 _ rfl
            have Y7 := fun (w' : World) (h : RowL w' wr.heap.size [.int .i64 0, .int .i64 pk, .int .i64 vw, .int .i64 vc, .int .i64 vs, .int .i64 vq, .string vd, .bool vg, .int .i64 b0, .int .i64 b1, .int .i64 b2, .int .i64 b3]) => h.cell 7 _ rfl
            have hm8 : m.length ≤ 1000 := by omega
            go_wp2_with fail
            clear x0 x1 x2 x3 x4 x5 x6 x7 x8 x9 x10 x11
            go_region_held3 (fun w' => RowL w' wr.heap.size [.int .i64 0, .int .i64 pk, .int .i64 vw, .int .i64 vc, .int .i64 vs, .int .i64 vq, .string vd, .bool vg, .int .i64 b0, .int .i64 b1, .int .i64 b2, .int .i64 b3]) (with_reducible assumption)
              (first
                | (go_at_call 30; with_reducible refine (two_put HPS.out pk ⟨vw, vc, vs, vq, vd, vg⟩ T0 hm8 HAP.out HOK.out).mono ?_; rintro e wa ⟨rfl, TA, KA⟩; have RA := RD.keeps KA (.inr rfl); have hbA := hbD.trans (KA.below (fun j hj => .inl hj)))
                | (go_at_call 31; with_reducible refine (two_refPut HPS.out pk ⟨vw, vc, vs, vq, vd, vg⟩ TA hm8).mono ?_; rintro e wb ⟨rfl, TB, KB⟩; have RB := RA.keeps KB (.inr rfl); have hbB := hbA.trans (KB.below (fun j hj => .inl hj)))
                | (go_at_call 31; with_reducible refine (two_refPut HPS.out pk ⟨vw, vc, vs, vq, vd, vg⟩ T0 hm8).mono ?_; rintro e wa ⟨rfl, TA, KA⟩; have RA := RD.keeps KA (.inr rfl); have hbA := hbD.trans (KA.below (fun j hj => .inl hj)))
                | (go_at_call 30; with_reducible refine (two_put HPS.out pk ⟨vw, vc, vs, vq, vd, vg⟩ TA hm8 HAP.out HOK.out).mono ?_; rintro e wb ⟨rfl, TB, KB⟩; have RB := RA.keeps KB (.inr rfl); have hbB := hbA.trans (KB.below (fun j hj => .inl hj)))
                | (go_at_call 11; with_reducible refine (BR.out _ _ (cell_later hbB HG.out)).mono ?_; rintro e wc ⟨rfl, hbc⟩; have TC := (TB.later HPS.out hbc).1; have RC := RB.later hbc; have hbC := behind hbB hbc))
            all_goals
              have MID : Mid St k wr.heap.size [.int .i64 pk, .int .i64 vw, .int .i64 vc, .int .i64 vs, .int .i64 vq, .string vd, .bool vg, .int .i64 b0, .int .i64 b1, .int .i64 b2, .int .i64 b3] w wc := ⟨_, _, TC, RC, by have := putL_length (l := m) (key := pk) (v := ⟨vw, vc, vs, vq, vd, vg⟩); omega, by have := putL_length (l := m) (key := pk) (v := ⟨vw, vc, vs, vq, vd, vg⟩); show _ ≤ _; omega, apart_put HAP.out, two_ok TC, hbC⟩
              have k1 := RC.cell 1 _ rfl
              have k8 := RC.cell 8 _ rfl
              have k9 := RC.cell 9 _ rfl
              have k10 := RC.cell 10 _ rfl
              have k11 := RC.cell 11 _ rfl
              go_wp2_with fail
              clear Y1 Y2 Y3 Y4 Y5 Y6 Y7 two1 RX hb1 T0 RD hbD TA KA RA hbA TB KB RB hbB hbc TC RC hbC k1 k8 k9 k10 k11
          all_goals
            obtain ⟨pv, M, TC, RC, hM, HLM, HAPM, HOKM, hbC⟩ := MID
            refine (two_refRead pk b0 b1 b2 b3 TC hM).mono ?_
            rintro e wd ⟨rfl, hbd⟩
            obtain ⟨⟨⟨rw_, rc, rs, rq, rd, rg⟩, re⟩, hrd⟩ : ∃ x, readV pk b0 b1 b2 b3 M = x := ⟨_, rfl⟩
            have HRD : Hid (readV pk b0 b1 b2 b3 M = (⟨rw_, rc, rs, rq, rd, rg⟩, re)) := hrd
            rw [hrd, show verL ((⟨rw_, rc, rs, rq, rd, rg⟩, re) : Ver × Int).1 = [.int .i64 rw_, .int .i64 rc, .int .i64 rs, .int .i64 rq, .string rd, .bool rg] from rfl]
            clear hrd
            replace TC := ((TC.later HPS.out hbd).1).new HPS.out (.cells #[.int .i64 rw_, .int .i64 rc, .int .i64 rs, .int .i64 rq, .string rd, .bool rg] 71)
            replace RC := (RC.later hbd).boxed (.cells #[.int .i64 rw_, .int .i64 rc, .int .i64 rs, .int .i64 rq, .string rd, .bool rg] 71)
            have R1 := RowL.new (w := wd) (T := 71) [.int .i64 rw_, .int .i64 rc, .int .i64 rs, .int .i64 rq, .string rd, .bool rg] rfl
            replace hbC := boxed (behind hbC hbd) (.cells #[.int .i64 rw_, .int .i64 rc, .int .i64 rs, .int .i64 rq, .string rd, .bool rg] 71)
            clear hbd
            have k1 := RC.cell 1 _ rfl
            have k8 := RC.cell 8 _ rfl
            have k9 := RC.cell 9 _ rfl
            have k10 := RC.cell 10 _ rfl
            have k11 := RC.cell 11 _ rfl
            go_wp2_with fail
            refine (two_read HPS.out pk b0 b1 b2 b3 TC hM HAPM.out HOKM.out).mono ?_
            rintro e we ⟨rfl, hbe⟩
            rw [HRD.out, show verL ((⟨rw_, rc, rs, rq, rd, rg⟩, re) : Ver × Int).1 = [.int .i64 rw_, .int .i64 rc, .int .i64 rs, .int .i64 rq, .string rd, .bool rg] from rfl]
            clear k1 k8 k9 k10 k11
            replace TC := ((TC.later HPS.out hbe).1).new HPS.out (.cells #[.int .i64 rw_, .int .i64 rc, .int .i64 rs, .int .i64 rq, .string rd, .bool rg] 71)
            replace RC := (RC.later hbe).boxed (.cells #[.int .i64 rw_, .int .i64 rc, .int .i64 rs, .int .i64 rq, .string rd, .bool rg] 71)
            replace R1 := (R1.later hbe).boxed (.cells #[.int .i64 rw_, .int .i64 rc, .int .i64 rs, .int .i64 rq, .string rd, .bool rg] 71)
            have R2 := RowL.new (w := we) (T := 71) [.int .i64 rw_, .int .i64 rc, .int .i64 rs, .int .i64 rq, .string rd, .bool rg] rfl
            replace hbC := boxed (behind hbC hbe) (.cells #[.int .i64 rw_, .int .i64 rc, .int .i64 rs, .int .i64 rq, .string rd, .bool rg] 71)
            clear hbe
            obtain ⟨la, lc, hlen⟩ := two_len TC
            have nv := neVer ⟨rw_, rc, rs, rq, rd, rg⟩
            have SD : Stt (w.heap.size + 1) wr.heap.size wd.heap.size we.heap.size (pv :: [.int .i64 pk, .int .i64 vw, .int .i64 vc, .int .i64 vs, .int .i64 vq, .string vd, .bool vg, .int .i64 b0, .int .i64 b1, .int .i64 b2, .int .i64 b3]) [.int .i64 rw_, .int .i64 rc, .int .i64 rs, .int .i64 rq, .string rd, .bool rg] (.slice la M.length lc) (we.alloc (.cells #[.int .i64 rw_, .int .i64 rc, .int .i64 rs, .int .i64 rq, .string rd, .bool rg] 71)).drew := ⟨RC.drew, R1.drew, R2.drew, hlen⟩
            have TD := (TC.later HPS.out ((Below.refl _ _).drew)).1
            have hbD2 := hbC.drew
            have Y8 := fun (w' : World) (h : Stt (w.heap.size + 1) wr.heap.size wd.heap.size we.heap.size (pv :: [.int .i64 pk, .int .i64 vw, .int .i64 vc, .int .i64 vs, .int .i64 vq, .string vd, .bool vg, .int .i64 b0, .int .i64 b1, .int .i64 b2, .int .i64 b3]) [.int .i64 rw_, .int .i64 rc, .int .i64 rs, .int .i64 rq, .string rd, .bool rg] (.slice la M.length lc) w') => h.x.cell 8 _ rfl
            have Y9 := fun (w' : World) (h : Stt (w.heap.size + 1) wr.heap.size wd.heap.size we.heap.size (pv :: [.int .i64 pk, .int .i64 vw, .int .i64 vc, .int .i64 vs, .int .i64 vq, .string vd, .bool vg, .int .i64 b0, .int .i64 b1, .int .i64 b2, .int .i64 b3]) [.int .i64 rw_, .int .i64 rc, .int .i64 rs, .int .i64 rq, .string rd, .bool rg] (.slice la M.length lc) w') => h.x.cell 9 _ rfl
            have Y10 := fun (w' : World) (h : Stt (w.heap.size + 1) wr.heap.size wd.heap.size we.heap.size (pv :: [.int .i64 pk, .int .i64 vw, .int .i64 vc, .int .i64 vs, .int .i64 vq, .string vd, .bool vg, .int .i64 b0, .int .i64 b1, .int .i64 b2, .int .i64 b3]) [.int .i64 rw_, .int .i64 rc, .int .i64 rs, .int .i64 rq, .string rd, .bool rg] (.slice la M.length lc) w') => h.x.cell 10 _ rfl
            have Y11 := fun (w' : World) (h : Stt (w.heap.size + 1) wr.heap.size wd.heap.size we.heap.size (pv :: [.int .i64 pk, .int .i64 vw, .int .i64 vc, .int .i64 vs, .int .i64 vq, .string vd, .bool vg, .int .i64 b0, .int .i64 b1, .int .i64 b2, .int .i64 b3]) [.int .i64 rw_, .int .i64 rc, .int .i64 rs, .int .i64 rq, .string rd, .bool rg] (.slice la M.length lc) w') => h.x.cell 11 _ rfl
            have U0 := fun (w' : World) (h : Stt (w.heap.size + 1) wr.heap.size wd.heap.size we.heap.size (pv :: [.int .i64 pk, .int .i64 vw, .int .i64 vc, .int .i64 vs, .int .i64 vq, .string vd, .bool vg, .int .i64 b0, .int .i64 b1, .int .i64 b2, .int .i64 b3]) [.int .i64 rw_, .int .i64 rc, .int .i64 rs, .int .i64 rq, .string rd, .bool rg] (.slice la M.length lc) w') => h.p.cell 0 _ rfl
            have Q0 := fun (w' : World) (h : Stt (w.heap.size + 1) wr.heap.size wd.heap.size we.heap.size (pv :: [.int .i64 pk, .int .i64 vw, .int .i64 vc, .int .i64 vs, .int .i64 vq, .string vd, .bool vg, .int .i64 b0, .int .i64 b1, .int .i64 b2, .int .i64 b3]) [.int .i64 rw_, .int .i64 rc, .int .i64 rs, .int .i64 rq, .string rd, .bool rg] (.slice la M.length lc) w') => h.q.cell 0 _ rfl
            have U1 := fun (w' : World) (h : Stt (w.heap.size + 1) wr.heap.size wd.heap.size we.heap.size (pv :: [.int .i64 pk, .int .i64 vw, .int .i64 vc, .int .i64 vs, .int .i64 vq, .string vd, .bool vg, .int .i64 b0, .int .i64 b1, .int .i64 b2, .int .i64 b3]) [.int .i64 rw_, .int .i64 rc, .int .i64 rs, .int .i64 rq, .string rd, .bool rg] (.slice la M.length lc) w') => h.p.cell 1 _ rfl
            have Q1 := fun (w' : World) (h : Stt (w.heap.size + 1) wr.heap.size wd.heap.size we.heap.size (pv :: [.int .i64 pk, .int .i64 vw, .int .i64 vc, .int .i64 vs, .int .i64 vq, .string vd, .bool vg, .int .i64 b0, .int .i64 b1, .int .i64 b2, .int .i64 b3]) [.int .i64 rw_, .int .i64 rc, .int .i64 rs, .int .i64 rq, .string rd, .bool rg] (.slice la M.length lc) w') => h.q.cell 1 _ rfl
            have U2 := fun (w' : World) (h : Stt (w.heap.size + 1) wr.heap.size wd.heap.size we.heap.size (pv :: [.int .i64 pk, .int .i64 vw, .int .i64 vc, .int .i64 vs, .int .i64 vq, .string vd, .bool vg, .int .i64 b0, .int .i64 b1, .int .i64 b2, .int .i64 b3]) [.int .i64 rw_, .int .i64 rc, .int .i64 rs, .int .i64 rq, .string rd, .bool rg] (.slice la M.length lc) w') => h.p.cell 2 _ rfl
            have Q2 := fun (w' : World) (h : Stt (w.heap.size + 1) wr.heap.size wd.heap.size we.heap.size (pv :: [.int .i64 pk, .int .i64 vw, .int .i64 vc, .int .i64 vs, .int .i64 vq, .string vd, .bool vg, .int .i64 b0, .int .i64 b1, .int .i64 b2, .int .i64 b3]) [.int .i64 rw_, .int .i64 rc, .int .i64 rs, .int .i64 rq, .string rd, .bool rg] (.slice la M.length lc) w') => h.q.cell 2 _ rfl
            have U3 := fun (w' : World) (h : Stt (w.heap.size + 1) wr.heap.size wd.heap.size we.heap.size (pv :: [.int .i64 pk, .int .i64 vw, .int .i64 vc, .int .i64 vs, .int .i64 vq, .string vd, .bool vg, .int .i64 b0, .int .i64 b1, .int .i64 b2, .int .i64 b3]) [.int .i64 rw_, .int .i64 rc, .int .i64 rs, .int .i64 rq, .string rd, .bool rg] (.slice la M.length lc) w') => h.p.cell 3 _ rfl
            have Q3 := fun (w' : World) (h : Stt (w.heap.size + 1) wr.heap.size wd.heap.size we.heap.size (pv :: [.int .i64 pk, .int .i64 vw, .int .i64 vc, .int .i64 vs, .int .i64 vq, .string vd, .bool vg, .int .i64 b0, .int .i64 b1, .int .i64 b2, .int .i64 b3]) [.int .i64 rw_, .int .i64 rc, .int .i64 rs, .int .i64 rq, .string rd, .bool rg] (.slice la M.length lc) w') => h.q.cell 3 _ rfl
            have U4 := fun (w' : World) (h : Stt (w.heap.size + 1) wr.heap.size wd.heap.size we.heap.size (pv :: [.int .i64 pk, .int .i64 vw, .int .i64 vc, .int .i64 vs, .int .i64 vq, .string vd, .bool vg, .int .i64 b0, .int .i64 b1, .int .i64 b2, .int .i64 b3]) [.int .i64 rw_, .int .i64 rc, .int .i64 rs, .int .i64 rq, .string rd, .bool rg] (.slice la M.length lc) w') => h.p.cell 4 _ rfl
            have Q4 := fun (w' : World) (h : Stt (w.heap.size + 1) wr.heap.size wd.heap.size we.heap.size (pv :: [.int .i64 pk, .int .i64 vw, .int .i64 vc, .int .i64 vs, .int .i64 vq, .string vd, .bool vg, .int .i64 b0, .int .i64 b1, .int .i64 b2, .int .i64 b3]) [.int .i64 rw_, .int .i64 rc, .int .i64 rs, .int .i64 rq, .string rd, .bool rg] (.slice la M.length lc) w') => h.q.cell 4 _ rfl
            have U5 := fun (w' : World) (h : Stt (w.heap.size + 1) wr.heap.size wd.heap.size we.heap.size (pv :: [.int .i64 pk, .int .i64 vw, .int .i64 vc, .int .i64 vs, .int .i64 vq, .string vd, .bool vg, .int .i64 b0, .int .i64 b1, .int .i64 b2, .int .i64 b3]) [.int .i64 rw_, .int .i64 rc, .int .i64 rs, .int .i64 rq, .string rd, .bool rg] (.slice la M.length lc) w') => h.p.cell 5 _ rfl
            have Q5 := fun (w' : World) (h : Stt (w.heap.size + 1) wr.heap.size wd.heap.size we.heap.size (pv :: [.int .i64 pk, .int .i64 vw, .int .i64 vc, .int .i64 vs, .int .i64 vq, .string vd, .bool vg, .int .i64 b0, .int .i64 b1, .int .i64 b2, .int .i64 b3]) [.int .i64 rw_, .int .i64 rc, .int .i64 rs, .int .i64 rq, .string rd, .bool rg] (.slice la M.length lc) w') => h.q.cell 5 _ rfl
            have LN := fun (w' : World) (h : Stt (w.heap.size + 1) wr.heap.size wd.heap.size we.heap.size (pv :: [.int .i64 pk, .int .i64 vw, .int .i64 vc, .int .i64 vs, .int .i64 vq, .string vd, .bool vg, .int .i64 b0, .int .i64 b1, .int .i64 b2, .int .i64 b3]) [.int .i64 rw_, .int .i64 rc, .int .i64 rs, .int .i64 rq, .string rd, .bool rg] (.slice la M.length lc) w') => h.n
            clear hlen
            go_wp2_with fail
            go_region_held3 (fun w' => Stt (w.heap.size + 1) wr.heap.size wd.heap.size we.heap.size (pv :: [.int .i64 pk, .int .i64 vw, .int .i64 vc, .int .i64 vs, .int .i64 vq, .string vd, .bool vg, .int .i64 b0, .int .i64 b1, .int .i64 b2, .int .i64 b3]) [.int .i64 rw_, .int .i64 rc, .int .i64 rs, .int .i64 rq, .string rd, .bool rg] (.slice la M.length lc) w') (with_reducible assumption)
              (first
                | (go_at_call 11; with_reducible refine (BR.out _ _ (cell_later hbD2 HG.out)).mono ?_; rintro e wf ⟨rfl, hbf⟩; have TF := (TD.later HPS.out hbf).1; have SF := SD.later hbf; have hbF := behind hbD2 hbf)
                | (go_at_call 36; with_reducible refine (two_many HPS.out TF hM).mono ?_; rintro e wg ⟨rfl, hbg⟩; have TG := (TF.later HPS.out hbg).1; have SG := SF.later hbg; have hbG := behind hbF hbg)
                | (go_at_call 38; with_reducible refine (two_all HPS.out b0 b1 b2 b3 TG hM HAPM.out HOKM.out).mono ?_; rintro e wh ⟨v5, rfl, own5, hbh⟩; obtain ⟨a5, c5, rfl, X5⟩ := told_txt own5; clear own5; have TH := (TG.later HPS.out hbh).1; have SH := SG.later hbh; have hbH := behind hbG hbh)
                | (go_at_call 39; with_reducible refine (two_told b0 b1 b2 b3 TH hM).mono ?_; rintro e wi ⟨v6, rfl, own6, hbi⟩; obtain ⟨a6, c6, rfl, X6⟩ := told_txt own6; clear own6; replace X5 := X5.later hbi; have TI := (TH.later HPS.out hbi).1; have SI := SH.later hbi; have hbI := behind hbH hbi)
                | (go_at_call 39; with_reducible refine (two_told b0 b1 b2 b3 TG hM).mono ?_; rintro e wh ⟨v6, rfl, own6, hbh⟩; obtain ⟨a6, c6, rfl, X6⟩ := told_txt own6; clear own6; have TH := (TG.later HPS.out hbh).1; have SH := SG.later hbh; have hbH := behind hbG hbh)
                | (go_at_call 38; with_reducible refine (two_all HPS.out b0 b1 b2 b3 TH hM HAPM.out HOKM.out).mono ?_; rintro e wi ⟨v5, rfl, own5, hbi⟩; obtain ⟨a5, c5, rfl, X5⟩ := told_txt own5; clear own5; replace X6 := X6.later hbi; have TI := (TH.later HPS.out hbi).1; have SI := SH.later hbi; have hbI := behind hbH hbi)
                | (go_at_call 37; with_reducible refine (sameTexts_any _ X5 X6 (by simp [toldT])).mono ?_; rintro e wj ⟨rfl, hbj⟩; have TJ := (TI.later HPS.out hbj).1; have SJ := SI.later hbj; have hbJ := behind hbI hbj))
            all_goals
              go_wp2_with fail
              go_roundw
              case rel => exact ⟨k + 1, z + 1, _, by omega, by have := HZ.out; omega, by go_num, TJ.less (fun j hj => .inl (.inl (.inl hj))), HAPM.out, HOKM.out, HLM.out, hbJ⟩
              case measure => simp [intOf]; omega
      · have h1 : ¬ z < (l.length : Int) := by have := HZ.out; omega
        go_wp2_with fail
        go_ret
        exact ⟨rfl, hb⟩

end Go.Proofs.YtnbgjiibpnoieaaDoor
