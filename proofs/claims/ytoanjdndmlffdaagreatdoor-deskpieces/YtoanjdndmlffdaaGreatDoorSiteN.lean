/-
  PROVED: whatever its arguments are, the law 'copsekeep.DeskPieces' returns true, and its arguments read behind the call as before it; the package-level variables on its road start as the program's text lays them, which the card ties ('Rows.DeskPiecesCardSaid' whole; the tie is the given one; it speaks of the pruned copy of the project).
-/
import Derived.Test.YtoanjdndmlffdaaGreatDoorDkAn
import Derived.Test.YtoanjdndmlffdaaGreatDoorSiteL
import Derived.Test.YtoanjdndmlffdaaGreatDoorDkLi
import Derived.Shelf.Strings.BuilderK
import Derived.Test.YtoanjdndmlffdaaGreatDoorGlOf
import Derived.LaidMore
import Derived.Test.YtoanjdndmlffdaaGreatDoorTie
import Derived.Test.YtoanjdndmlffdaaGreatDoorCards
namespace Go.Proofs.YtoanjdndmlffdaaGreatDoor
open Go.RowKit
theorem words_size (s : ByteArray) : ∀ x ∈ wordsB s, x.size ≤ s.size := fun x hx => by
  unfold wordsB Lib.goFieldsP at hx
  obtain ⟨p, _, rfl⟩ := List.mem_map.1 hx
  rw [ByteArray.size_extract]
  omega
theorem answer_any (hh : DoesIt 9) {w : World} {cb mb b j : Nat} {Gw G : Nat → Prop} {W : WoS} (h : AnPre w cb mb b Gw G W j) {line : ByteArray} (hl : line.size ≤ 20000) :
    Calls Tryz.prog 11 #[.pointer (some ⟨cb, 0, none⟩), .string line] w (AnPost W line w cb mb G) := by
  have hz := words_size line
  cases hw : wordsB line with
  | nil => exact answer_empty h hl hw
  | cons x l =>
    rw [hw] at hz
    have hx : x.size ≤ maxLen := by have := hz x (by simp); simp only [maxLen]; omega
    cases hn : cmdN.idxOf? x.data.toList with
    | none => exact answer_form h hl hw hx hn
    | some i =>
      cases l with
      | nil => exact answer_do0 hh h hl hw hx hn
      | cons y l => exact answer_do1 hh h hl hw hx (fun z q => by have := hz z (by simp only [List.mem_cons] at q ⊢; exact .inr q); omega) hn
section
/-- a clerk (in blocks of G), a builder (in blocks of H), apart; X: blocks that are as they were; Z: blocks that are nobody's -/
structure SsAt (w0 : World) (B cb mb tb : Nat) (X Z : Nat → Prop) (W : WoS) (out : List UInt8) (A : World) (G H : Nat → Prop) : Prop where
  ck : CkIs cb mb W A G
  bl : BldIs B tb out A H
  ap : ∀ k, G k → ¬ H k
  xz : ∀ k, X k → Z k ∧ k < w0.heap.size
  gx : ∀ k, k < 10 → X k
  z : ∀ k, Z k → ¬ G k ∧ ¬ H k
  gl : Gl A
  kp : Keeps X w0 A
section
variable {w0 A A' : World} {B cb mb tb : Nat} {X Z G H : Nat → Prop} {W W' : WoS} {out out' : List UInt8}
theorem SsAt.later (h : SsAt w0 B cb mb tb X Z W out A G H) (hb : Below A.heap.size A A') : SsAt w0 B cb mb tb X Z W out A' G H :=
  ⟨h.ck.kept (fun k e => hb.block k (h.ck.lt k e)) hb.size, h.bl.kept (fun k e => hb.block k (h.bl.lt k e)), h.ap, h.xz, h.gx, h.z, h.gl.later hb, h.kp.trans ⟨hb.os, hb.tape, hb.output, hb.size, fun k e => hb.block k (Nat.lt_of_lt_of_le (h.xz k e).2 h.kp.size)⟩⟩
theorem SsAt.puts (h : SsAt w0 B cb mb tb X Z W out A G H) {q : Nat} (hq : Z q) (hx : ¬ X q) (o : Obj) : SsAt w0 B cb mb tb X Z W out (A.putObj q o) G H := by
  have ne : ∀ k, k ≠ q → (A.putObj q o).heap[k]? = A.heap[k]? := fun k hk => World.putObj_heap_other hk
  have sz : A.heap.size ≤ (A.putObj q o).heap.size := by simp
  exact ⟨h.ck.kept (fun k e => ne k (fun e2 => (h.z q hq).1 (e2 ▸ e))) sz, h.bl.kept (fun k e => ne k (fun e2 => (h.z q hq).2 (e2 ▸ e))), h.ap, h.xz, h.gx, h.z, h.gl.kept (fun k e => ne k (fun e2 => hx (e2 ▸ h.gx k e))) sz, h.kp.trans ⟨rfl, rfl, rfl, sz, fun k e => ne k (fun e2 => hx (e2 ▸ e))⟩⟩
theorem SsAt.ans (h : SsAt w0 B cb mb tb X Z W out A G H) (hz : ∀ k, Z k → k < A.heap.size) (hl : Left (ckP cb mb W') A G A') : ∃ G', SsAt w0 B cb mb tb X Z W' out A' G' H ∧ Keeps Z A A' := by
  obtain ⟨G', p1, p2, tt⟩ := hl
  have kz : Keeps Z A A' := ⟨tt.os, tt.tape, tt.output, tt.size, fun k e => tt.block k (hz k e) (h.z k e).1⟩
  refine ⟨G', ⟨p1, h.bl.kept (fun k e => tt.block k (h.bl.lt k e) (fun q => h.ap k q e)), fun k e e2 => ?_, h.xz, h.gx, fun k e => ⟨fun e2 => ?_, (h.z k e).2⟩, h.gl.kept (fun k e => kz.block k (h.xz k (h.gx k e)).1) tt.size, h.kp.trans ⟨tt.os, tt.tape, tt.output, tt.size, fun k e => kz.block k (h.xz k e).1⟩⟩, kz⟩
  · rcases p2 k e with q | q
    · exact h.ap k q e2
    · have := h.bl.lt k e2; omega
  · rcases p2 k e2 with q | q
    · exact (h.z k e).1 q
    · have := hz k e; omega
theorem SsAt.wrote (h : SsAt w0 B cb mb tb X Z W out A G H) (hz : ∀ k, Z k → k < A.heap.size) (hl : Left (bldP B tb out') A H A') : ∃ H', SsAt w0 B cb mb tb X Z W out' A' G H' ∧ Keeps Z A A' := by
  obtain ⟨H', p1, p2, tt⟩ := hl
  have kz : Keeps Z A A' := ⟨tt.os, tt.tape, tt.output, tt.size, fun k e => tt.block k (hz k e) (h.z k e).2⟩
  refine ⟨H', ⟨h.ck.kept (fun k e => tt.block k (h.ck.lt k e) (h.ap k e)) tt.size, p1, fun k e e2 => ?_, h.xz, h.gx, fun k e => ⟨(h.z k e).1, fun e2 => ?_⟩, h.gl.kept (fun k e => kz.block k (h.xz k (h.gx k e)).1) tt.size, h.kp.trans ⟨tt.os, tt.tape, tt.output, tt.size, fun k e => kz.block k (h.xz k e).1⟩⟩, kz⟩
  · rcases p2 k e2 with q | q
    · exact h.ap k e q
    · have := h.ck.lt k e; omega
  · rcases p2 k e2 with q | q
    · exact (h.z k e).2 q
    · have := hz k e; omega
theorem SsAt.answer (h : SsAt w0 B cb mb tb X Z W out A G H) (hD : DkI W) {line : ByteArray} (hl : line.size ≤ 20000) :
    Calls Tryz.prog 11 #[.pointer (some ⟨cb, 0, none⟩), .string line] A (AnPost W line A cb mb G) := by
  obtain ⟨b, Gw, hc, hg⟩ := h.ck
  obtain ⟨j, hj⟩ := hD.pl
  exact answer_any do_help ⟨hc, hg, h.gl, fun k e => (h.z k (h.xz k (h.gx k e)).1).1, hj, hD⟩ hl
end
/-- where a session stands behind some lines -/
def SsI (w0 : World) (B cb mb tb : Nat) (X Z : Nat → Prop) (pre : List ByteArray) (A : World) : Prop := ∃ W out G H, TalkTo (newW 2 2) pre out W ∧ SsAt w0 B cb mb tb X Z W out A G H
end
section
open Go.Shelf
attribute [local go_sem] Oper.semAt_some

theorem bldString_any {B b : Nat} {l : List UInt8} {G : Nat → Prop} (w : World) (h : BldIs B b l w G) (hBw : B ≤ w.heap.size) :
    Calls Tryz.prog 13 #[.pointer (some ⟨b, 0, none⟩)] w fun e w' => e = .returned (.string (bya l)) ∧ Below B w w' ∧ ∀ (k : Nat) D, w.heap[k]? = some (Obj.deferred D) → w'.heap[k]? = some (Obj.deferred D) :=
  (Any.Builder_String_any_k Tryz.lays169 Tryz.Builder_Extra_169 B b l w (Lib.IsBuilderF.of h.is) hBw).mono fun e w' ⟨h1, _, h2, h3⟩ => ⟨h1, h2, fun k D hk => h3 k _ hk (fun e => by
    injection e with e
    subst e
    obtain ⟨_, _, _, _, q, _⟩ := h
    rw [hk] at q
    cases q) (fun _ _ e => by cases e)⟩
def SsEnd (s : ByteArray) (out : List UInt8) : Prop := ∃ A, TalkTo (newW 2 2) ((linesT s.data.toList).map bya) out A

set_option maxRecDepth 100000
set_option maxHeartbeats 8000000
theorem session_any (s : ByteArray) (hs : s.size ≤ 20000) (w : World) (g : Gl w) :
    Calls Tryz.prog 5 #[.string s] w fun e w' => ∃ out, e = .returned (.string (bya out)) ∧ SsEnd s out ∧ Below w.heap.size w w' := by
  refine (callsIn_wide (n := 6)).1 ?_
  have NC := newClerk_any w g
  have HG : Hid (Gl w) := g
  have hmany : ¬ 20000 < (s.size : Int) := by omega
  have HSZ : Hid (s.size ≤ 20000) := hs
  clear g hs
  refine callsIn_of_wp_marks Tryz.func5 rfl trivial ?_ rfl
  simp only [Tryz.ntmps5, List.size_toArray, List.length_cons, List.length_nil, Nat.reduceAdd, Nat.reduceSub, Array.replicate_succ, Array.replicate_zero, List.push_toArray, List.append_toArray, List.nil_append, List.cons_append]
  gi_wp2_with (refine ⟨trivial, ?_⟩; gi_at_call 8; refine (callsIn_wide.2 NC).mono ?_; rintro e w1 ⟨cb, rfl, HN⟩)
  gi_wp2_with (refine ⟨trivial, ?_⟩; gi_at_call 9; refine (callsIn_wide.2 (lines_in s _)).mono ?_; rintro e w' ⟨rfl, rfl⟩)
  obtain ⟨mb, G, hck, hgn, hb1, g1⟩ := HN
  obtain ⟨W0, hW0⟩ : ∃ W0, ((w1.alloc (.cells #[.pointer (some ⟨cb, 0, none⟩)] 27)).alloc (.cells #[.pointer none, .slice none 0 0] 32)).alloc (.cells #[.string s] 9) = W0 := ⟨_, rfl⟩
  have hb2 : Below w1.heap.size w1 W0 := by rw [← hW0]; exact boxed (boxed (boxed (Below.refl _ w1) _) _) _
  have sz0 : W0.heap.size = w1.heap.size + 3 := by rw [← hW0]; simp
  have RC : RowL W0 w1.heap.size [.pointer (some ⟨cb, 0, none⟩)] := by rw [← hW0]; exact ((RowL.new (w := w1) (T := 27) [.pointer (some ⟨cb, 0, none⟩)] rfl).boxed _).boxed _
  have RL : RowL W0 (w1.heap.size + 1 + 1) [.string s] := by rw [← hW0]; exact RowL.new (w := (w1.alloc (.cells #[.pointer (some ⟨cb, 0, none⟩)] 27)).alloc (.cells #[.pointer none, .slice none 0 0] 32)) (T := 9) (n := w1.heap.size + 1 + 1) [.string s] (by simp)
  have hbx : W0.heap[w1.heap.size + 1]? = some (.cells #[.pointer none, .slice none 0 0] 32 (0, 0)) := by
    rw [← hW0]
    refine (Below.heap_alloc _ _ _ (by simp)).trans ?_
    have := World.alloc_heap_new (w1.alloc (.cells #[.pointer (some ⟨cb, 0, none⟩)] 27)) (.cells #[.pointer none, .slice none 0 0] 32 (0, 0))
    rwa [World.size_alloc] at this
  rw [hW0]
  clear hW0
  have ls := hb1.size
  have S0 : SsAt W0 w1.heap.size cb mb (w1.heap.size + 1) (fun k => k < w.heap.size ∨ k = w1.heap.size) (fun k => k < w.heap.size ∨ k = w1.heap.size ∨ k = W0.heap.size ∨ k = W0.heap.size + 1) (newW 2 2) [] W0 G (fun k => k = w1.heap.size + 1) := by
    have lt := hck.lt
    refine ⟨hck.kept (fun k e => hb2.block k (lt k e)) hb2.size, ⟨by omega, .pointer none, .slice none 0 0, .inl rfl, hbx, ⟨rfl, .inl ⟨rfl, rfl⟩⟩, by simp [Value.ownBlock], fun k => by simp [Value.ownBlock]⟩, fun k e e2 => ?_, fun k e => ?_, fun k e => ?_, fun k e => ?_, g1.later hb2, Keeps.refl _ _⟩
    · have := lt k e; omega
    · rcases e with e | e
      · exact ⟨.inl e, by omega⟩
      · exact ⟨.inr (.inl e), by omega⟩
    · exact .inl (Nat.lt_of_lt_of_le e HG.out.sz)
    · refine ⟨fun q => ?_, ?_⟩
      · have := hgn k q
        have := lt k q
        omega
      · omega
  have hd0 : DkI (newW 2 2) := DkI.new (by decide) (by decide) (by decide)
  have hmanyL := linesT_many s.data.toList
  have hsl : s.data.toList.length ≤ 20000 := by rw [← Lib.size_eq]; exact HSZ.out
  have LQ := lines1_seq 5 (by decide) s HSZ.out (w1.heap.size + 1 + 1) W0 (by omega) (RL.cell 0 _ rfl)
  have HB : Hid (Below w.heap.size w w1 ∧ Below w1.heap.size w1 W0) := ⟨hb1, hb2⟩
  clear NC hck hgn g1 hb1 hb2 hbx RL
  refine wpIn_rangeFunc_two rfl (by decide) (gf := 21) (lb := #[.pointer (some ⟨w1.heap.size + 1 + 1, 0, none⟩)]) rfl trivial (enters_of Tryz.func21 (by kernel_rfl) rfl) LQ (Below.refl _ _) (fun _ => rfl)
    (SsI W0 w1.heap.size cb mb (w1.heap.size + 1) (fun k => k < w.heap.size ∨ k = w1.heap.size) (fun k => k < w.heap.size ∨ k = w1.heap.size ∨ k = W0.heap.size ∨ k = W0.heap.size + 1))
    (fun _ _ ⟨_, _, _, _, _, h⟩ => h.gl) (fun _ _ _ ⟨Wd, out, G, H, h1, h⟩ hb => ⟨Wd, out, G, H, h1, h.later hb⟩) (fun _ _ o ⟨Wd, out, G, H, h1, h⟩ => ⟨Wd, out, G, H, h1, h.puts (by simp) (by omega) o⟩) ⟨_, _, _, _, .nil, S0⟩
    (fun x => { tmps := #[.string s, undef, .string ⟨#[]⟩, .pointer (some ⟨w1.heap.size, 0, none⟩), .pointer (some ⟨w1.heap.size + 1, 0, none⟩), .string x, .string s, .int .i64 s.size, .bool false, undef, undef, .pointer (some ⟨cb, 0, none⟩), .string s, .func (.func 21) #[] #[.pointer (some ⟨w1.heap.size + 1 + 1, 0, none⟩)], .string x, undef, undef, undef, undef, undef, undef], defers := [] })
    ?assign ?body ?done
  case assign =>
    intro l x W K hK
    gi_wp2
    exact hK
  case body =>
    rintro l pre x rest W hx hsz2 ⟨Wd, out, G, H, hT, hS⟩
    clear S0 LQ
    obtain ⟨hol, hD⟩ := hT.len hd0
    have hxl : x.size ≤ 20000 := by
      have hm : x ∈ (linesT s.data.toList).map bya := by rw [hx]; simp
      obtain ⟨y, hy, rfl⟩ := List.mem_map.1 hm
      have := hmanyL.2 y hy
      rw [Lib.size_eq]
      show y.length ≤ 20000
      omega
    have hpl : pre.length ≤ 20001 := by
      have := congrArg List.length hx
      simp only [List.length_map, List.length_append, List.length_cons] at this
      omega
    have hz : ∀ k, (k < w.heap.size ∨ k = w1.heap.size ∨ k = W0.heap.size ∨ k = W0.heap.size + 1) → k < W.heap.size := fun k e => by omega
    have c0 := (RC.keeps hS.kp (.inr rfl)).cell 0 _ rfl
    have AN := hS.answer hD hxl
    have HX : Hid (out.length ≤ 401 * pre.length ∧ pre.length ≤ 20001 ∧ TalkTo (newW 2 2) pre out Wd ∧ DkI Wd) := ⟨hol, hpl, hT, hD⟩
    have HS : Hid (SsAt W0 w1.heap.size cb mb (w1.heap.size + 1) (fun k => k < w.heap.size ∨ k = w1.heap.size) (fun k => k < w.heap.size ∨ k = w1.heap.size ∨ k = W0.heap.size ∨ k = W0.heap.size + 1) Wd out W G H) := hS
    have HZ : Hid (∀ k, (k < w.heap.size ∨ k = w1.heap.size ∨ k = W0.heap.size ∨ k = W0.heap.size + 1) → k < W.heap.size) := hz
    clear hT hS hx hD hol hpl hz hmanyL
    gi_wp2_with (refine ⟨trivial, ?_⟩; gi_at_call 11; refine (CallsIn.inRound l (callsIn_wide.2 AN)).mono ?_; rintro e W3 ⟨told, rfl, Wd', hA, hL⟩)
    obtain ⟨G3, S3, K3⟩ := HS.out.ans HZ.out hL
    have tl := hA.len HX.out.2.2.2
    have hz3 : ∀ k, (k < w.heap.size ∨ k = w1.heap.size ∨ k = W0.heap.size ∨ k = W0.heap.size + 1) → k < W3.heap.size := fun k e => Nat.lt_of_lt_of_le (HZ.out k e) K3.size
    have WS := writeString_any (bya told) W3 S3.bl (by rw [Lib.size_eq]; show out.length + told.length ≤ _; have := HX.out.1; have := HX.out.2.1; omega) (by have := S3.kp.size; omega)
    have H3 : Hid (AnsTo Wd x Wd' told ∧ Keeps (fun k => k < w.heap.size ∨ k = w1.heap.size ∨ k = W0.heap.size ∨ k = W0.heap.size + 1) W W3) := ⟨hA, K3⟩
    have HS3 : Hid (SsAt W0 w1.heap.size cb mb (w1.heap.size + 1) (fun k => k < w.heap.size ∨ k = w1.heap.size) (fun k => k < w.heap.size ∨ k = w1.heap.size ∨ k = W0.heap.size ∨ k = W0.heap.size + 1) Wd' out W3 G3 H) := S3
    have HZ3 : Hid (∀ k, (k < w.heap.size ∨ k = w1.heap.size ∨ k = W0.heap.size ∨ k = W0.heap.size + 1) → k < W3.heap.size) := hz3
    clear hA hL S3 K3 hz3 AN
    gi_wp2_with (refine ⟨trivial, ?_⟩; gi_at_call 10; refine (CallsIn.inRound l (callsIn_wide.2 WS)).mono ?_; rintro e W4 ⟨rfl, hL4⟩)
    obtain ⟨H4, S4, K4⟩ := HS3.out.wrote HZ3.out hL4
    have hz4 : ∀ k, (k < w.heap.size ∨ k = w1.heap.size ∨ k = W0.heap.size ∨ k = W0.heap.size + 1) → k < W4.heap.size := fun k e => Nat.lt_of_lt_of_le (HZ3.out k e) K4.size
    have WB := writeByte_any 10 10 rfl W4 S4.bl (by rw [List.length_append]; show out.length + told.length + 1 ≤ _; have := HX.out.1; have := HX.out.2.1; omega) (by have := S4.kp.size; omega)
    have HK4 : Hid (Keeps (fun k => k < w.heap.size ∨ k = w1.heap.size ∨ k = W0.heap.size ∨ k = W0.heap.size + 1) W3 W4 ∧ SsAt W0 w1.heap.size cb mb (w1.heap.size + 1) (fun k => k < w.heap.size ∨ k = w1.heap.size) (fun k => k < w.heap.size ∨ k = w1.heap.size ∨ k = W0.heap.size ∨ k = W0.heap.size + 1) Wd' (out ++ told) W4 G3 H4 ∧ (∀ k, (k < w.heap.size ∨ k = w1.heap.size ∨ k = W0.heap.size ∨ k = W0.heap.size + 1) → k < W4.heap.size)) := ⟨K4, S4, hz4⟩
    clear hL4 S4 K4 hz4 WS
    gi_wp2_with (refine ⟨trivial, ?_⟩; gi_at_call 12; refine (CallsIn.inRound l (callsIn_wide.2 WB)).mono ?_; rintro e W5 ⟨rfl, hL5⟩)
    obtain ⟨H5, S5, K5⟩ := HK4.out.2.1.wrote HK4.out.2.2 hL5
    have KA := (H3.out.2.trans HK4.out.1).trans K5
    exact ⟨⟨KA.block _ (by simp), KA.block _ (by simp)⟩, Wd', _, G3, H5, .snoc HX.out.2.2.1 H3.out.1, S5⟩
  case done =>
    rintro W ⟨Wd, out, G, H, hT, hS⟩ hK
    have ST := bldString_any W hS.bl (by have := hS.kp.size; omega)
    have HS : Hid (Keeps (fun k => k < w.heap.size ∨ k = w1.heap.size) W0 W ∧ TalkTo (newW 2 2) ((linesT s.data.toList).map bya) out Wd) := ⟨hS.kp, hT⟩
    clear S0 LQ hS hT
    gi_wp2_with (refine ⟨trivial, ?_⟩; gi_at_call 13; refine (callsIn_wide.2 ST).mono ?_; rintro e W6 ⟨rfl, hb6, hd6⟩)
    rw [sz0] at hK
    refine ⟨by simp, .inl ⟨_, _, rfl, run_takeDeferred (hd6 _ _ hK), ?_⟩⟩
    have b1 : Below w.heap.size w W6 := ((HB.out.1.trans (HB.out.2.mono ls)).trans (HS.out.1.below (fun k hk => .inl hk))).trans (hb6.mono ls)
    exact ⟨_, results_tmp rfl _ _ _, out, rfl, ⟨Wd, HS.out.2⟩, b1.os, b1.tape, b1.output, Nat.le_trans b1.size (by simp), fun k hk => (World.putObj_heap_other (by omega)).trans (b1.block k hk)⟩
end
section
theorem bya_cut (x u : List UInt8) : (((bya (x ++ u)).extract 0 x.length).toList == x) = true := by
  rw [byteList]
  show (((bya (x ++ u)).extract 0 x.length).data.toList == x) = true
  rw [ByteArray.data_extract]
  simp
set_option maxRecDepth 100000
set_option maxHeartbeats 8000000
theorem pieces_walk (a b : ByteArray) (ha : a.size ≤ 140737488351232) (hb : b.size ≤ 140737488351232) (w : World) (g : Gl w) :
    Calls Tryz.prog 3 #[.string a, .string b] w fun e w' => e = .returned (.bool true) ∧ Below w.heap.size w w' := by
  by_cases h : 2000 < (a.size : Int) + b.size
  · go_enter Tryz.func3, Tryz.ntmps3
    go_wp2
    go_ret
    exact ⟨rfl, Below.refl _ _⟩
  · have S0 := session_any ⟨#[98, 101, 103, 105, 110, 32, 48, 10, 120, 10]⟩ (by decide) w g
    have q0 := strB ⟨#[98, 101, 103, 105, 110, 10, 101, 114, 114, 111, 114, 32, 51, 10]⟩ ⟨#[98, 101, 103, 105, 110, 10, 101, 114, 114, 111, 114, 32, 51, 10]⟩
    go_enter Tryz.func3, Tryz.ntmps3
    go_wp2_with fail
    refine S0.mono ?_
    rintro e w1 ⟨out, rfl, ⟨A, hT⟩, hb1⟩
    obtain rfl := t_told hT
    clear S0 hT
    have s1 : (a ++ ⟨#[10]⟩).data.toList = a.data.toList ++ [10] := by simp [ByteArray.data_append]
    have s2 : (a ++ ⟨#[10]⟩ ++ b).data.toList = a.data.toList ++ 10 :: b.data.toList := by simp [ByteArray.data_append]
    have z1 : (a ++ ⟨#[10]⟩).size = a.size + 1 := by rw [ByteArray.size_append]; rfl
    have z2 : (a ++ ⟨#[10]⟩ ++ b).size = a.size + 1 + b.size := by rw [ByteArray.size_append, z1]
    have S1 := session_any (a ++ ⟨#[10]⟩) (by omega) w1 (g.later hb1)
    have S2 := fun w2 (hb2 : Below w1.heap.size w1 w2) => session_any (a ++ ⟨#[10]⟩ ++ b) (by omega) w2 ((g.later hb1).later hb2)
    have HS : Hid ((a ++ ⟨#[10]⟩).data.toList = a.data.toList ++ [10] ∧ (a ++ ⟨#[10]⟩ ++ b).data.toList = a.data.toList ++ 10 :: b.data.toList) := ⟨s1, s2⟩
    clear s1 s2 z1 z2
    go_wp2_with fail
    refine S1.mono ?_
    rintro e w2 ⟨x, rfl, ⟨A1, hT1⟩, hb2⟩
    have S3 := S2 w2 hb2
    clear S1 S2
    go_wp2_with fail
    refine S3.mono ?_
    rintro e w3 ⟨y, rfl, ⟨A2, hT2⟩, hb3⟩
    rw [HS.out.1] at hT1
    rw [HS.out.2] at hT2
    obtain ⟨u, hu⟩ := pieces_pure hT1 hT2
    have bw : Below w.heap.size w w3 := behind (behind hb1 hb2) hb3
    clear S3 hT1 hT2 hb1 hb2 hb3 HS q0 h g
    have E := bya_cut x u
    go_wp2
    go_ret
    exact ⟨rfl, bw⟩
end
section
open Go.ChangeShapes Go.WideShapes Go.ChangeAt Go.ChangeMaps
set_option maxRecDepth 100000
theorem door_met (os : Os) (args : Array Value) : laidMetH Tryz.prog Rows.deskPiecesRow.laid ((World.doorLaid Tryz.prog 179 os).forCall (fun _ _ => 0) ⟨#[], args, []⟩).memory :=
  laidMetH_of_parts3 (fuel := 8) (laidMet_of_run' 8 (by kernel_rfl) (by kernel_rfl)) (by kernel_rfl) (by kernel_rfl)
theorem pieces_gl {W : World} (h : laidMetH Tryz.prog Rows.deskPiecesRow.laid W) (hs : W.ShapedOpen Tryz.prog) : Gl W := by
  have h' : laidMet Tryz.prog [("math/bits.deBruijn32tab", Rows.laid_math_bits_deBruijn32tab), ("math/bits.deBruijn64tab", Rows.laid_math_bits_deBruijn64tab), ("internal/strconv.uint64pow10", Rows.laid_internal_strconv_uint64pow10), ("strconv.ErrRange", Rows.laid_strconv_ErrRange), ("strconv.ErrSyntax", Rows.laid_strconv_ErrSyntax)] W ∧ handlesMet Tryz.prog [("errors.errorType", Rows.laid_errors_errorType)] W := h
  exact gl_of ⟨_, h'.1.tail.tail⟩ ⟨_, h'.1.tail.tail.tail⟩ h'.2 hs
theorem pieces_contract {H : Type} {enc : TypeId × Value → H} (W : World) (base : Nat) (args : Array Value) (ds gs : List (DataW H)) (before : List MemPlace)
    (hval0 : ∀ (j : Nat) t v, Tryz.f3.params[j]? = some t → args[j]? = some v → Value.okWide Tryz.prog W .any base t v) (hW : DataW.Whole enc Tryz.prog Tryz.f3.params.toList Rows.deskPiecesSpec.vars false W args.toList ds gs before)
    (hz : (DataW.weightsEach Tryz.prog (Tryz.f3.params.toList ++ Rows.deskPiecesSpec.plain.varTypes Tryz.prog) (ds ++ gs)).all (· ≤ reachBytes) = true) (g : Gl W) :
    Calls Tryz.prog 3 args W fun e W' => ∃ v, e = .returned v ∧ Rows.deskPiecesSpec.post enc Tryz.prog Tryz.f3 false true false false W args v W' := by
  have hval : ∀ (j : Nat) t v, Tryz.f3.params[j]? = some t → args[j]? = some v → Value.okWide Tryz.prog W .any base t v := hval0
  have hW' := hW
  obtain ⟨p, q, hA0, hV0, rfl, hfz, hnd⟩ := hW
  have hA : DataW.TrodAll enc Tryz.prog W 0 (fun _ => true) true Tryz.f3.params.toList args.toList ds p := hA0
  have hV : DataW.TrodVars enc Tryz.prog W (fun _ => true) [] gs q := hV0
  rw [Tryz.params3] at hA hval
  obtain ⟨v0, vs0, d0, ds0, p0, q0, hargs, rfl, rfl, h0, r0⟩ := trodAll_cons hA
  obtain ⟨v1, vs1, d1, ds1, p1, q1, rfl, rfl, rfl, h1, r1⟩ := trodAll_cons r0
  obtain ⟨rfl, rfl, rfl⟩ := trodAll_nil r1
  obtain rfl : args = #[v0, v1] := by cases args; simp_all
  obtain ⟨rfl, rfl⟩ : gs = [] ∧ q = [] := by
    cases gs with
    | nil => exact ⟨rfl, hV⟩
    | cons g r => exact absurd hV (by intro h; cases h)
  obtain ⟨s0, rfl, rfl, rfl, u0⟩ := open_string Tryz.underlying9 (hval 0 9 v0 rfl rfl) h0
  obtain ⟨s1, rfl, rfl, rfl, u1⟩ := open_string Tryz.underlying9 (hval 1 9 v1 rfl rfl) h1
  have hz1 : (DataW.weightsEach Tryz.prog ([9, 9] ++ []) ([DataW.lit (.string s0.data.toList), .lit (.string s1.data.toList)] ++ ([] : List (DataW H)))).all (· ≤ reachBytes) = true := hz
  have z0 : s0.data.toList.length ≤ reachBytes := of_decide_eq_true (List.all_eq_true.1 hz1 s0.data.toList.length (by simp [DataW.weights, DataW.weightsEach]))
  have z1 : s1.data.toList.length ≤ reachBytes := of_decide_eq_true (List.all_eq_true.1 hz1 s1.data.toList.length (by simp [DataW.weights, DataW.weightsEach]))
  clear hA0 hval0
  refine (pieces_walk s0 s1 (by rw [Lib.size_eq]; exact z0) (by rw [Lib.size_eq]; exact z1) W g).mono fun e W' ⟨he, bel⟩ => ?_
  subst he
  exact ⟨_, rfl, _, _, _, [], _, [], hW', trodAll_mk1 (shut_bool Tryz.underlying4 _), trodAll_cons_mk (shut_string Tryz.underlying9 u0) (trodAll_cons_mk (shut_string Tryz.underlying9 u1) trodAll_mk0), rfl, bel.frame _, fun h => by cases h⟩
theorem deskPieces_lifted (os : Os) (started : os.Started) (H : Type) (enc : TypeId × Value → H) :
    ReturnsInHanded {} Tryz.checked os 3 .any (fun w args => (Rows.deskPiecesSpec.pre enc Tryz.prog Tryz.f3 [] false w args ∧ laidMetH Tryz.prog Rows.deskPiecesRow.laid w) ∧ sizedMet enc Tryz.prog Tryz.f3 (OpenSpec.ofChange Rows.deskPiecesSpec) false w args)
      (Rows.deskPiecesSpec.post enc Tryz.prog Tryz.f3 false true false false) := by
  refine returnsInHanded_of_calls own started (by kernel_rfl)
    (ChangeSpec.witness_shaped (enc := enc) (C := Tryz.checked) (os := os) (fn := Tryz.f3) (s := Rows.deskPiecesSpec) (conds := []) (apart := false) (X := fun w _ => laidMetH Tryz.prog Rows.deskPiecesRow.laid w) false (World.doorLaid Tryz.prog 179 os) #[.string ⟨#[]⟩, .string ⟨#[]⟩] 8 rfl (World.shaped_of_RefB (by kernel_rfl) (by kernel_rfl)) (by kernel_rfl) (by kernel_rfl) (by kernel_rfl) (door_met os _)) ?_
  intro w tape i _ hsh _ hok hpre _
  obtain ⟨_, _, _, fn, hfn, _, _, _, _, hval0⟩ := hok
  obtain rfl : fn = Tryz.f3 := Option.some.inj (hfn.symm.trans Tryz.func3)
  obtain ⟨⟨⟨ds, gs, before, hw, _⟩, hx⟩, hz0⟩ := hpre
  refine (pieces_contract (w.forCall tape i) w.heap.size i.args ds gs before hval0 (DataW.Whole.of_heap (w' := w.forCall tape i) (by rfl) hw) (hz0.weights hw) (pieces_gl (hx.of_heap (by rfl)) hsh)).mono fun e W' ⟨v, he, hp⟩ => ?_
  subst he
  exact ChangeSpec.post_blind hp
end
open Go.ChangeShapes Go.WideShapes Go.ChangeAt Go.ChangeMaps
set_option maxRecDepth 100000
theorem deskPieces_over : Rows.DeskPiecesSaid :=
  OpenClaim.holds_of_wide 3 Tryz.f3 rfl rfl rfl rfl rfl rfl rfl ⟨rfl, rfl, rfl, rfl, rfl⟩ rfl rfl rfl rfl rfl (by kernel_rfl) Tryz.func3 (by kernel_rfl)
    (of_decide_eq_true (by kernel_rfl)) (by unfold Func.isWrapper; rw [if_neg (of_decide_eq_false (by kernel_rfl))]; exact ⟨rfl, rfl⟩)
    (fun os started H enc _ => deskPieces_lifted os started H enc)

theorem deskPieces_card : Rows.DeskPiecesCardSaid :=
  Claim7.holds_tied_plain_at .later [] [.data, .data, .data, .handle, .sentinel, .sentinel] true _ true
    deskPieces_over (fun _ h => by cases h) (by kernel_rfl) (fun _ h => by cases h) deskPieces_row_tie rfl ⟨rfl, rfl⟩ (by kernel_rfl) rfl
    (fun f fn hf hfn => by
      obtain rfl : f = 3 := Option.some.inj ((show Tryz.prog.funcNamed Rows.deskPiecesRow.func = some 3 by kernel_rfl).symm.trans hf) |>.symm
      obtain rfl : fn = Tryz.f3 := (Option.some.inj (Tryz.func3.symm.trans hfn)).symm
      exact ⟨by kernel_rfl, fun j t ht => by
        rw [Tryz.params3] at ht
        have h3 : t = 9 := by
          rcases j with _ | _ | j
          · simpa using ht.symm
          · simpa using ht.symm
          · simp at ht
        subst h3
        exact (show Tryz.prog.wantsStandIn 9 = false by kernel_rfl)⟩)
    (by kernel_rfl)
#print axioms deskPieces_card
end Go.Proofs.YtoanjdndmlffdaaGreatDoor
