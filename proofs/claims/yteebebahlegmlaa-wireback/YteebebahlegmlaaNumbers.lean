/-
  What wire.numbers does, as the model runs it: numbers' bytes behind a row of bytes that the caller owns.
-/
import Derived.Test.YteebebahlegmlaaChecked
import Derived.Test.YteebebahlegmlaaOwn
import Derived.WalkSpells
import Derived.WalkLawsBesides
import Derived.LoopN
namespace Go.Proofs.Yteebebahlegmlaa
open Go.RowKit

/-- numbers' bytes behind others -/
def numsS (S : ByteArray) (ns : List Int) : ByteArray := ns.foldl (fun s n => s ++ numS 5 n) S
theorem numsS_snoc {S : ByteArray} {ns : List Int} {k : Nat} (hk : k < ns.length) : numsS S (ns.take (k + 1)) = numsS S (ns.take k) ++ numS 5 (ns.getD k 0) := by
  unfold numsS
  rw [List.take_succ_eq_append_getElem hk, List.foldl_append]
  simp [List.getD, List.getElem?_eq_getElem hk]
theorem numsS_size (S : ByteArray) (ns : List Int) : ∀ k, k ≤ ns.length → (numsS S (ns.take k)).size ≤ S.size + 6 * k
  | 0, _ => by simp [numsS]
  | k + 1, hk => by
    rw [numsS_snoc (by omega), ByteArray.size_append]
    have a := numsS_size S ns k (by omega)
    have b := numS_size 5 (ns.getD k 0)
    omega

theorem nrem {m : Int} (h0 : 0 ≤ m) : IntKind.i64.wrap (m.tmod 128) = m % 128 := by
  rw [Int.tmod_eq_emod_of_nonneg h0]
  unfold IntKind.wrap
  simp [IntKind.signed, IntKind.bits]
  omega
theorem nquo {m : Int} (h0 : 0 ≤ m) (hm : m ≤ 1099511627776) : IntKind.i64.wrap (m.tdiv 128) = m / 128 := by
  rw [Int.tdiv_eq_ediv_of_nonneg h0]
  unfold IntKind.wrap
  simp [IntKind.signed, IntKind.bits]
  omega

theorem u8info : (Try.prog.info? 5).map (fun i => (i.zero, i.size, i.bytes)) = some (some (.int .u8 0), 1, 1) := by kernel_rfl

set_option maxHeartbeats 4000000 in
theorem numbers_any (B g cap : Nat) (S : ByteArray) (lb lo lc : Nat) (ns : List Int) (w : World) (hO : Own w B g cap S) (hB : B ≤ w.heap.size) (hne : lb ≠ g)
    (hC : ∀ i, i < ns.length → w.cell? ⟨lb, lo + i, none⟩ = some (.int .i64 (ns.getD i 0))) (hr : ∀ i, i < ns.length → 0 ≤ ns.getD i 0 ∧ ns.getD i 0 ≤ 1099511627776) (hs : S.size + 6 * ns.length ≤ 900000) :
    Calls Try.prog 35 #[.slice (some ⟨g, 0, none⟩) S.size cap, .slice (some ⟨lb, lo, none⟩) ns.length lc] w fun e w' =>
      ∃ S' g' cap', e = .returned (.slice (some ⟨g', 0, none⟩) S'.size cap') ∧ S' = numsS S ns ∧ Own w' B g' cap' S' ∧ (g' = g ∨ w.heap.size ≤ g') ∧ Only g w w' := by
  have HC : Hid (∀ i, i < ns.length → w.cell? ⟨lb, lo + i, none⟩ = some (.int .i64 (ns.getD i 0))) := hC
  have HR : Hid (∀ i, i < ns.length → 0 ≤ ns.getD i 0 ∧ ns.getD i 0 ≤ 1099511627776) := hr
  clear hC hr
  go_enter Try.func35, Try.ntmps35
  go_wp2_with fail
  go_loopw [0, 9] (fun bv i wr => ∃ (k : Nat) (z : Int) (S' : ByteArray) (g' cap' : Nat), k ≤ ns.length ∧ z = k ∧ i = .int .i64 z ∧ bv = .slice (some ⟨g', 0, none⟩) S'.size cap' ∧ S' = numsS S (ns.take k) ∧ Own wr B g' cap' S' ∧ (g' = g ∨ w.heap.size ≤ g') ∧ Only g w wr) (fun _ i _ => ns.length - (intOf i).toNat)
  case atStart => exact ⟨0, 0, S, g, cap, by omega, rfl, rfl, rfl, rfl, hO, .inl rfl, Only.refl _ _⟩
  case round =>
    obtain ⟨k, z, S1, g1, c1, hk, hz, rfl, rfl, hS1, O1, e1, y1⟩ := hrel
    have HS1 : Hid (S1 = numsS S (ns.take k)) := hS1
    clear hS1
    have hsz1 : S1.size ≤ S.size + 6 * k := by rw [HS1.out]; exact numsS_size S ns k hk
    by_cases hlt : k < ns.length
    · have x0 := y1.cell (HC.out k hlt) hne
      obtain ⟨r0, r1⟩ := HR.out k hlt
      have h1 : z < (ns.length : Int) := by omega
      have h2 : z.toNat = k := by omega
      have h3 : 0 ≤ z := by omega
      have HZ : Hid (z = k) := hz
      clear hz
      have HN := numsS_snoc (S := S) hlt
      obtain ⟨n, hn⟩ : ∃ n, ns.getD k 0 = n := ⟨_, rfl⟩
      rw [hn] at x0 r0 r1 HN
      rw [← HS1.out] at HN
      obtain ⟨T, hT⟩ : ∃ T, T = S1 ++ numS 5 n := ⟨_, rfl⟩
      rw [← hT] at HN
      have HN2 : Hid (numsS S (ns.take (k + 1)) = T) := HN
      have HT : Hid (T = S1 ++ numS 5 n) := hT
      clear HN hT hn
      have hszT : T.size ≤ S.size + 6 * k + 6 := by rw [HT.out, ByteArray.size_append]; have := numS_size 5 n; omega
      go_wp2_with fail
      go_loopw [0, 6] (fun bv nv wi => ∃ (m : Int) (f : Nat) (S2 : ByteArray) (g2 c2 : Nat), nv = .int .i64 m ∧ bv = .slice (some ⟨g2, 0, none⟩) S2.size c2 ∧ 0 ≤ m ∧ m ≤ 1099511627776 ∧ m < 128 ^ (f + 1) ∧ S2 ++ numS f m = T ∧ Own wi B g2 c2 S2 ∧ (g2 = g ∨ w.heap.size ≤ g2) ∧ Only g w wi) (fun _ nv _ => (intOf nv).toNat)
      case atStart => exact ⟨n, 5, S1, g1, c1, rfl, rfl, r0, r1, by have e : (128 : Int) ^ (5 + 1) = 4398046511104 := by decide
                                                                    rw [e]; omega, HT.out.symm, O1, e1, y1⟩
      case round =>
        obtain ⟨m, f, S2, g2, c2, rfl, rfl, m0, m1, mf, hT2, O2, e2, y2⟩ := hrel
        have HT2 : Hid (S2 ++ numS f m = T) := hT2
        clear hT2
        have hszS : S2.size ≤ T.size := by rw [← HT2.out, ByteArray.size_append]; omega
        have q := nquo m0 m1
        have r := nrem m0
        by_cases hm : 127 < m
        · obtain ⟨f, rfl⟩ : ∃ f', f = f' + 1 := by
            cases f with
            | zero => simp at mf; omega
            | succ f => exact ⟨f, rfl⟩
          have MF : Hid (m < 128 ^ (f + 1 + 1)) := mf
          clear mf
          have hc : (wr.alloc (.cells #[.int .u8 (m % 128 + 128)] 5)).cell? ⟨wr.heap.size, 0, none⟩ = some (.int .u8 (m % 128 + 128)) := by go_simp
          go_wp2_with (at_builtin; refine wpList_append_bytes rfl (.tmp 15) (.tmp 20) 44 44 5 rfl Try.underlying44 u8info rfl (O2.alloc _) (byteS (m % 128 + 128)) _ rfl (srcByte Try.underlying44 (by omega) (by omega) 1 hc) (by rw [byteS_size]; omega) (by have := y2.size; simp; omega) ?_; intro S3 g3 c3 w3 hS3 O3 e3 y3)
          go_roundw
          case rel =>
            have h128 : (128 : Int) ^ (f + 1 + 1) = 128 ^ (f + 1) * 128 := Int.pow_succ 128 (f + 1)
            have hmf := MF.out
            rw [h128] at hmf
            have y4 : Only g2 wr w3 := (Only.ofBelow (boxed (Below.refl _ _) _)).trans y3 (.inl rfl)
            refine ⟨m / 128, f, S3, g3, c3, rfl, rfl, by omega, by omega, by omega, ?_, O3, ?_, y2.trans y4 e2⟩
            · rw [hS3.out, ← HT2.out, numS_ge (by omega), ByteArray.append_assoc]
            · rcases e3 with rfl | rfl
              · exact e2
              · exact .inr (by have := y2.size; simp; omega)
          case measure => simp [intOf]; omega
        · have hc : (wr.alloc (.cells #[.int .u8 m] 5)).cell? ⟨wr.heap.size, 0, none⟩ = some (.int .u8 m) := by go_simp
          have MF : Hid (m < 128 ^ (f + 1)) := mf
          clear mf
          go_wp2_with (at_builtin; refine wpList_append_bytes rfl (.tmp 24) (.tmp 27) 44 44 5 rfl Try.underlying44 u8info rfl (O2.alloc _) (byteS m) _ rfl (srcByte Try.underlying44 (by omega) (by omega) 1 hc) (by rw [byteS_size]; omega) (by have := y2.size; simp; omega) ?_; intro S3 g3 c3 w3 hS3 O3 e3 y3)
          go_roundw
          case rel =>
            have y4 : Only g2 wr w3 := (Only.ofBelow (boxed (Below.refl _ _) _)).trans y3 (.inl rfl)
            refine ⟨k + 1, z + 1, S3, g3, c3, by omega, by have := HZ.out; omega, by go_num, rfl, ?_, O3, ?_, y2.trans y4 e2⟩
            · rw [hS3.out, HN2.out, ← HT2.out, numS_lt (by omega)]
            · rcases e3 with rfl | rfl
              · exact e2
              · exact .inr (by have := y2.size; simp; omega)
          case measure => simp [intOf]; omega
    · have e : k = ns.length := by omega
      go_wp2_with fail
      go_ret
      exact ⟨S1, g1, c1, rfl, by rw [HS1.out, e, List.take_length], O1, e1, y1⟩

end Go.Proofs.Yteebebahlegmlaa
