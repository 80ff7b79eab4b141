import Derived.Test.YtoanjdndmlffdaaGreatDoorSiteK
namespace Go.Proofs.YtoanjdndmlffdaaGreatDoor
open Go.RowKit
set_option maxRecDepth 100000
set_option maxHeartbeats 8000000
theorem lines_in (s : ByteArray) (w : World) : Calls Tryz.prog 9 #[.string s] w fun e w' => e = .returned (.func (.func 21) #[] #[.pointer (some ⟨w.heap.size, 0, none⟩)]) ∧ w' = w.alloc (.cells #[.string s] 9) := by
  have hmf : ∀ (fn : Fn) (first cap : Array Value) (w : World), (Instr.makeFunc fn first cap).run Tryz.prog w = .ok (.func fn first cap) w := fun _ _ _ _ => rfl
  go_enter Tryz.func9, Tryz.ntmps9
  go_wp2
  go_ret
  exact ⟨rfl, rfl⟩
/-- what was handed on, and what is left -/
def LnMid (s : List UInt8) (pre : List ByteArray) (rest : List UInt8) (more : Bool) : Prop := rest.length ≤ s.length ∧ (linesT s).map bya = pre ++ if more = true then (linesL rest).map bya else []
def strLen : Value → Nat
  | .string b => b.size
  | _ => 0
def boolN : Value → Nat
  | .bool true => 1
  | _ => 0
theorem lines1_seq (n : Nat) (hn : 1 ≤ n) (s : ByteArray) (hs : s.size ≤ 20000) (B : Nat) (w : World) (hB : B < w.heap.size) (hc : w.cell? ⟨B, 0, none⟩ = some (.string s)) :
    SeqAll Fence.wide n Tryz.prog 21 #[.pointer (some ⟨B, 0, none⟩)] (fun x : ByteArray => #[.string x]) ((linesT s.data.toList).map bya) Gl w := fun l J W hW hN hb hY h0 => by
  have c0 : W.cell? ⟨B, 0, none⟩ = some (.string s) := (hW.cell (p := ⟨B, 0, none⟩) hB).trans hc
  have hs2 : s.data.toList.length ≤ 20000 := by rw [← Lib.size_eq]; exact hs
  have TS := Tryz.strings_TrimSuffix s ⟨#[10]⟩ W (by omega)
  refine callsIn_of_wp Tryz.func21 rfl trivial ?_ rfl
  simp only [Tryz.ntmps21, List.size_toArray, List.length_cons, List.length_nil, Nat.reduceAdd, Nat.reduceSub, Array.replicate_succ, Array.replicate_zero, List.push_toArray, List.append_toArray, List.nil_append, List.cons_append]
  gi_wp2_with (refine ⟨trivial, ?_⟩; gi_at_call 22; refine (callsIn_wide.2 TS).mono ?_; rintro e w' ⟨rfl, rfl⟩)
  clear TS c0 hW hc
  have HS : Hid (s.data.toList.length ≤ 20000) := hs2
  gi_loopw [3, 4] (fun v3 v4 wr => ∃ (pre : List ByteArray) (r : List UInt8) (m : Bool), v3 = .string ⟨r.toArray⟩ ∧ v4 = .bool m ∧ Hid (LnMid s.data.toList pre r m) ∧ J pre wr) (fun v3 v4 _ => strLen v3 + boolN v4)
  case atStart => exact ⟨[], _, true, rfl, rfl, ⟨by unfold Lib.trimSuffix; split <;> simp, by simp [linesT]⟩, h0⟩
  case round =>
    obtain ⟨pre, r, m, rfl, rfl, HM, hJ⟩ := hrel
    cases m with
    | false =>
      gi_wp2
      go_end0
      have e := HM.out.2
      simp only [Bool.false_eq_true, if_false, List.append_nil] at e
      rw [e]
      exact ⟨⟨_, rfl⟩, hJ⟩
    | true =>
      obtain ⟨k, hk⟩ := (hN _ _ hJ).ml
      have CU := Tryz.strings_Cut ⟨r.toArray⟩ ⟨#[10]⟩ k wr (by have := HM.out.1; have := HS.out; show r.toArray.size < _; simp; omega) hk
      obtain ⟨⟨x, y, f⟩, hxy⟩ : ∃ z, Lib.cut r [10] = z := ⟨_, rfl⟩
      have LX := linesL_cut r
      have LL := cut_less r
      rw [hxy] at LX LL
      replace CU : Calls Tryz.prog 23 #[.string ⟨r.toArray⟩, .string ⟨#[10]⟩] wr fun e w' => e = .returned (.tuple #[.string ⟨x.toArray⟩, .string ⟨y.toArray⟩, .bool f]) ∧ ∃ q, w' = wr.drewN q := CU.mono fun e w' ⟨h1, q, h2⟩ => by
        have e0 : Lib.cut (⟨r.toArray⟩ : ByteArray).data.toList (⟨#[10]⟩ : ByteArray).data.toList = (x, y, f) := hxy
        rw [e0] at h1
        exact ⟨h1, q, h2⟩
      have hsz := HM.out.1
      have e := HM.out.2
      rw [if_pos rfl, LX] at e
      have NX : Hid (∃ rest, (linesT s.data.toList).map bya = pre ++ bya x :: rest ∧ LnMid s.data.toList (pre ++ [bya x]) y f ∧ y.length + (if f = true then 1 else 0) < r.length + 1) := by
        cases f with
        | true =>
          have l1 := LL rfl
          simp only at l1
          simp only [if_true] at e ⊢
          exact ⟨(linesL y).map bya, by rw [e]; rfl, ⟨by omega, by rw [e]; simp⟩, by omega⟩
        | false =>
          simp only [Bool.false_eq_true, if_false] at e ⊢
          have y0 : y = [] := by
            have q : (Lib.cut r [10]).2.2 = false := by rw [hxy]
            have : (Lib.cut r [10]).2.1 = [] := by
              unfold Lib.cut at q ⊢
              split at q
              · cases q
              · rename_i u; rw [if_neg u]
            rw [hxy] at this
            exact this
          subst y0
          exact ⟨[], by rw [e]; rfl, ⟨by simp, by rw [e]; simp⟩, by simp⟩
      obtain ⟨rest, n1, n2, n3⟩ := NX.out
      have HX : Hid (LnMid s.data.toList (pre ++ [bya x]) y f ∧ y.length + (if f = true then 1 else 0) < r.length + 1) := ⟨n2, n3⟩
      have YY : Hid (∀ q, YieldAt Fence.wide (n - 1) Tryz.prog l #[.string ⟨x.toArray⟩] (wr.drewN q) fun e W' => e = .returned (.bool true) ∧ J (pre ++ [bya x]) W') := fun q => hY pre (bya x) rest (wr.drewN q) (hb _ _ _ hJ ⟨rfl, rfl, rfl, Nat.le_refl _, fun _ _ => rfl⟩) n1
      clear hY hsz e n1 n2 n3 NX HM LX LL hk hxy
      gi_wp2_with (refine ⟨trivial, ?_⟩; gi_at_call 23; refine (callsIn_wide.2 CU).mono ?_; rintro e w' ⟨rfl, q, rfl⟩)
      obtain ⟨fn, tmps, assign, body, hyy, hR⟩ := YY.out q
      rw [hyy]
      gi_wp2
      refine hR.mono ?_
      rintro e W3 ⟨rfl, hJ3⟩
      gi_wp2
      go_roundw
      case rel => exact ⟨_, y, f, rfl, rfl, HX.out.1, hJ3⟩
      case measure =>
        have := HX.out.2
        cases f <;> simp [strLen, boolN, Lib.size_eq] at this ⊢ <;> omega
end Go.Proofs.YtoanjdndmlffdaaGreatDoor
