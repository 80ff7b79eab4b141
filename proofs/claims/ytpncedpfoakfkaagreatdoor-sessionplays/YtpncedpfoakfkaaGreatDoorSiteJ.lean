/-
  'copselaw.SessionPlays': two sites and a session of the program, two sites and a session of the document, apart; what each call does to them.
  'copselaw.SessionPlays': what its walk stands on besides: what is always so of both; the boxes of the sites, and of a turn; all of it at first.
  'copselaw.SessionPlays': the sites and the sessions as they are made.
  The switch of a round of 'copselaw.SessionPlays': what its arms stand on.
  The switch of a round of 'copselaw.SessionPlays': Begin, as the model runs it, whatever the rest of the frame is.
  The switch of a round of 'copselaw.SessionPlays': Read, as the model runs it, whatever the rest of the frame is.
  The switch of a round of 'copselaw.SessionPlays': Abort, as the model runs it, whatever the rest of the frame is.
  The switch of a round of 'copselaw.SessionPlays': nothing, as the model runs it, whatever the rest of the frame is.
-/
import Derived.Test.YtpncedpfoakfkaaGreatDoorSiteI
import Derived.Test.YtpncedpfoakfkaaGreatDoorRSesCom
import Derived.Test.YtpncedpfoakfkaaGreatDoorPSesCom
import Derived.Test.YtpncedpfoakfkaaGreatDoorRSesWri
import Derived.Test.YtpncedpfoakfkaaGreatDoorRTakeY
import Derived.Test.YtpncedpfoakfkaaGreatDoorPTake
import Derived.Test.YtpncedpfoakfkaaGreatDoorSiteE
import Derived.Test.YtpncedpfoakfkaaGreatDoorSiteA
import Derived.Test.YtpncedpfoakfkaaGreatDoorSiteB
import Derived.Test.YtpncedpfoakfkaaGreatDoorSiteH
namespace Go.Proofs.YtpncedpfoakfkaaGreatDoor
open Go.RowKit

def setS (f : Nat → SiteS) (i : Nat) (S : SiteS) : Nat → SiteS := fun j => if j = i then S else f j
theorem setS_same (f : Nat → SiteS) (i : Nat) (S : SiteS) : setS f i S i = S := by simp [setS]
theorem setS_self (f : Nat → SiteS) (i : Nat) : setS f i (f i) = f := by
  funext j
  unfold setS
  split
  · rename_i h; rw [h]
  · rfl
/-- all of it: sites of the program, sites of the document, a session of each -/
def six (bp br : Nat → Nat) (bs cs : Nat) (Sp Sr : Nat → SiteS) (sp sr : SesS) : Nat → Part := fun j => if j < 2 then siteP (bp j) (Sp j) else if j < 4 then siteR (br (j - 2)) (Sr (j - 2)) else if j = 4 then sesP bs sp else sesR cs sr
/-- apart -/
def Six (w : World) (bp br : Nat → Nat) (bs cs : Nat) (Sp Sr : Nat → SiteS) (sp sr : SesS) (X : Nat → Prop) (o : Nat) (Y : Nat → Prop) : Prop := Aside w 6 (six bp br bs cs Sp Sr sp sr) X o Y
section
variable {w w' : World} {bp br : Nat → Nat} {bs cs : Nat} {Sp Sr : Nat → SiteS} {sp sr sp' sr' : SesS} {X Y : Nat → Prop} {o i : Nat} {S : SiteS}
theorem six_p (hi : i < 2) : six bp br bs cs Sp Sr sp sr i = siteP (bp i) (Sp i) := by unfold six; rw [if_pos hi]
theorem six_r (hi : i < 2) : six bp br bs cs Sp Sr sp sr (2 + i) = siteR (br i) (Sr i) := by
  unfold six
  rw [if_neg (by omega), if_pos (by omega)]
  have e : 2 + i - 2 = i := by omega
  rw [e]
theorem six_4 : six bp br bs cs Sp Sr sp sr 4 = sesP bs sp := rfl
theorem six_5 : six bp br bs cs Sp Sr sp sr 5 = sesR cs sr := rfl
theorem six_np (hi : i < 2) (j : Nat) (hj : j ≠ i) : six bp br bs cs (setS Sp i S) Sr sp sr j = six bp br bs cs Sp Sr sp sr j := by
  have := hi
  simp [six, setS, hj]
theorem six_nr (hi : i < 2) (j : Nat) (hj : j ≠ 2 + i) : six bp br bs cs Sp (setS Sr i S) sp sr j = six bp br bs cs Sp Sr sp sr j := by
  have := hi
  unfold six
  by_cases h2 : j < 2
  · rw [if_pos h2, if_pos h2]
  · rw [if_neg h2, if_neg h2]
    by_cases h4 : j < 4
    · rw [if_pos h4, if_pos h4]
      have : j - 2 ≠ i := by omega
      simp [setS, this]
    · rw [if_neg h4, if_neg h4]
theorem six_n4 (j : Nat) (hj : j ≠ 4) : six bp br bs cs Sp Sr sp' sr j = six bp br bs cs Sp Sr sp sr j := by simp [six, hj]
theorem six_n5 (j : Nat) (hj : j < 6) (hj5 : j ≠ 5) : six bp br bs cs Sp Sr sp sr' j = six bp br bs cs Sp Sr sp sr j := by
  unfold six
  by_cases h2 : j < 2
  · rw [if_pos h2, if_pos h2]
  · rw [if_neg h2, if_neg h2]
    by_cases h4 : j < 4
    · rw [if_pos h4, if_pos h4]
    · have : j = 4 := by omega
      rw [if_neg h4, if_neg h4, if_pos this, if_pos this]
theorem Six.isP {Gs : Nat → Nat → Prop} (h : AsideAt w 6 (six bp br bs cs Sp Sr sp sr) Gs X o Y) (hi : i < 2) : PS w (bp i) (Gs i) (Sp i) := by
  have := h.is i (by omega)
  rw [six_p hi] at this
  exact this
theorem Six.isR {Gs : Nat → Nat → Prop} (h : AsideAt w 6 (six bp br bs cs Sp Sr sp sr) Gs X o Y) (hi : i < 2) : RS w (br i) (Gs (2 + i)) (Sr i) := by
  have := h.is (2 + i) (by omega)
  rw [six_r hi] at this
  exact this
theorem Six.is4 {Gs : Nat → Nat → Prop} (h : AsideAt w 6 (six bp br bs cs Sp Sr sp sr) Gs X o Y) : PSe w bs (Gs 4) sp := h.is 4 (by omega)
theorem Six.is5 {Gs : Nat → Nat → Prop} (h : AsideAt w 6 (six bp br bs cs Sp Sr sp sr) Gs X o Y) : RSe w cs (Gs 5) sr := h.is 5 (by omega)
theorem Six.later (h : Six w bp br bs cs Sp Sr sp sr X o Y) (hb : Below w.heap.size w w') : Six w' bp br bs cs Sp Sr sp sr X o Y := Aside.later h hb
theorem Six.less {X' : Nat → Prop} {o' : Nat} (h : Six w bp br bs cs Sp Sr sp sr X o Y) (hX : ∀ k, X' k → X k) : Six w bp br bs cs Sp Sr sp sr X' o' NoY := Aside.less h hX
theorem Six.new (h : Six w bp br bs cs Sp Sr sp sr X o Y) (x : Obj) : Six (w.alloc x) bp br bs cs Sp Sr sp sr (fun k => X k ∨ k = w.heap.size) o Y := Aside.new h x
/-- the document's session, as the law reads it -/
theorem Six.box (h : Six w bp br bs cs Sp Sr sp sr X o Y) : ∃ wv, RowL w cs (rsesC sr wv) := by
  obtain ⟨Gs, h⟩ := h
  obtain ⟨wv, h, _⟩ := Six.is5 h
  exact ⟨wv, h.box⟩
theorem keepsX (h : Keeps (fun k => X k ∨ NoY k) w w') : Keeps X w w' := ⟨h.os, h.tape, h.output, h.size, fun k hk => h.block k (.inl hk)⟩

theorem six_take (m : TxM) (hi : i < 2) (h : Six w bp br bs cs Sp Sr sp sr X 6 NoY) (hI : InvS (Sp i)) (hn : (Sp i).waits.length ≤ 900) (hW : WrIn w m.wa m.wc m.t.ws) :
    Calls Tryz.prog 11 #[.pointer (some ⟨bp i, 0, none⟩), txV m] w fun e w' => e = .returned (errV (takeE (Sp i) m.t)) ∧ ∃ S', Hid (TakesTo (Sp i) m.t S') ∧ Six w' bp br bs cs (setS Sp i S') Sr sp sr X 6 NoY ∧ Keeps X w w' := by
  obtain ⟨Gs, h⟩ := h
  refine (take_site m w (Six.isP h hi) hI (by omega) hW).mono fun e w' ⟨he, S', hT, hp⟩ => ?_
  obtain ⟨h1, h2⟩ := h.step (ps' := six bp br bs cs (setS Sp i S') Sr sp sr) (i := i) (by omega) (p := siteP (bp i) S') hp (by rw [six_p hi, setS_same]) (fun j _ hj => six_np hi j hj) (by omega)
  exact ⟨he, S', hT, h1, keepsX h2⟩
theorem six_rtake (m : TxM) (hi : i < 2) (h : Six w bp br bs cs Sp Sr sp sr X 6 NoY) (hI : InvS (Sr i)) (hn : (Sr i).waits.length ≤ 900) (hW : WrIn w m.wa m.wc m.t.ws) :
    Calls Tryz.prog 12 #[.pointer (some ⟨br i, 0, none⟩), txV m] w fun e w' => e = .returned (.int .i64 (takeE (Sr i) m.t)) ∧ ∃ S', Hid (TakesTo (Sr i) m.t S') ∧ Six w' bp br bs cs Sp (setS Sr i S') sp sr X 6 NoY ∧ Keeps X w w' := by
  obtain ⟨Gs, h⟩ := h
  refine (refTake_any m w (Six.isR h hi) hI hn hW).mono fun e w' ⟨he, S', hT, hp⟩ => ?_
  obtain ⟨h1, h2⟩ := h.step (ps' := six bp br bs cs Sp (setS Sr i S') sp sr) (i := 2 + i) (by omega) (p := siteR (br i) S') hp (by rw [six_r hi, setS_same]) (fun j _ hj => six_nr hi j hj) (by omega)
  exact ⟨he, S', hT, h1, keepsX h2⟩
theorem six_begin (hi : i < 2) (h : Six w bp br bs cs Sp Sr sp sr X 6 NoY) :
    Calls Tryz.prog 32 #[.pointer (some ⟨bs, 0, none⟩), .pointer (some ⟨bp i, 0, none⟩)] w fun e w' => e = .returned (errV (begE (Sp i) sp)) ∧ Six w' bp br bs cs Sp Sr (begS (Sp i) sp) sr X 6 NoY ∧ Keeps X w w' := by
  obtain ⟨Gs, h⟩ := h
  refine (pbegin_any w (Six.is4 h) (Six.isP h hi)).mono fun e w' ⟨he, hp⟩ => ?_
  obtain ⟨h1, h2⟩ := h.step (ps' := six bp br bs cs Sp Sr (begS (Sp i) sp) sr) (i := 4) (by omega) (p := sesP bs (begS (Sp i) sp)) hp rfl (fun j _ hj => six_n4 j hj) (by omega)
  exact ⟨he, h1, keepsX h2⟩
theorem six_rbegin (hi : i < 2) (h : Six w bp br bs cs Sp Sr sp sr X 6 NoY) :
    Calls Tryz.prog 33 #[.pointer (some ⟨cs, 0, none⟩), .pointer (some ⟨br i, 0, none⟩)] w fun e w' => e = .returned (.int .i64 (begE (Sr i) sr)) ∧ Six w' bp br bs cs Sp Sr sp (begS (Sr i) sr) X 6 NoY ∧ Keeps X w w' := by
  obtain ⟨Gs, h⟩ := h
  obtain ⟨wv, hs, hG⟩ := Six.is5 h
  refine (refBegin_any w hs (Six.isR h hi) (fun e => h.apart (2 + i) 5 cs (by omega) (by omega) (by omega) e ((hG cs).2 (.inl rfl)))).mono fun e w' ⟨he, hp⟩ => ?_
  obtain ⟨h1, h2⟩ := h.step (ps' := six bp br bs cs Sp Sr sp (begS (Sr i) sr)) (i := 5) (by omega) (p := sesR cs (begS (Sr i) sr)) (hp.left hG) rfl (fun j hj6 hj => six_n5 j hj6 hj) (by omega)
  exact ⟨he, h1, keepsX h2⟩
theorem six_read (key : Int) (hk : (Lit.int .i64 key).wf = true) (hi : i < 2) (h : Six w bp br bs cs Sp Sr sp sr X o Y) (hI : InvS (Sp i)) :
    Calls Tryz.prog 35 #[.pointer (some ⟨bs, 0, none⟩), .pointer (some ⟨bp i, 0, none⟩), .int .i64 key] w fun e w' => e = .returned (.tuple #[.string (sreadV (Sp i) sp key).1, errV (sreadV (Sp i) sp key).2]) ∧ Below w.heap.size w w' := by
  obtain ⟨Gs, h⟩ := h
  exact psread_any key hk w (Six.is4 h) (Six.isP h hi) hI
theorem six_rread (key : Int) (hi : i < 2) (h : Six w bp br bs cs Sp Sr sp sr X o Y) (hI : InvS (Sr i)) :
    Calls Tryz.prog 34 #[.pointer (some ⟨cs, 0, none⟩), .pointer (some ⟨br i, 0, none⟩), .int .i64 key] w fun e w' => e = .returned (.tuple #[.string (sreadV (Sr i) sr key).1, .int .i64 (sreadV (Sr i) sr key).2]) ∧ Below w.heap.size w w' := by
  obtain ⟨Gs, h⟩ := h
  obtain ⟨wv, hs, hG⟩ := Six.is5 h
  exact refSesRead_any key w hs (Six.isR h hi) hI
theorem six_write (x : Wr) (h : Six w bp br bs cs Sp Sr sp sr X 6 NoY) :
    Calls Tryz.prog 36 #[.pointer (some ⟨bs, 0, none⟩), wrV x] w fun e w' => e = .returned (errV (wriE sp x)) ∧ Six w' bp br bs cs Sp Sr (wriS sp x) sr X 6 NoY ∧ Keeps X w w' := by
  obtain ⟨Gs, h⟩ := h
  refine (pwrite_any x w (Six.is4 h)).mono fun e w' ⟨he, hp⟩ => ?_
  obtain ⟨h1, h2⟩ := h.step (ps' := six bp br bs cs Sp Sr (wriS sp x) sr) (i := 4) (by omega) (p := sesP bs (wriS sp x)) hp rfl (fun j _ hj => six_n4 j hj) (by omega)
  exact ⟨he, h1, keepsX h2⟩
theorem six_rwrite (x : Wr) (h : Six w bp br bs cs Sp Sr sp sr X 6 NoY) (hl : sr.ws.length ≤ 1000) :
    Calls Tryz.prog 37 #[.pointer (some ⟨cs, 0, none⟩), wrV x] w fun e w' => e = .returned (.int .i64 (wriE sr x)) ∧ Six w' bp br bs cs Sp Sr sp (wriS sr x) X 6 NoY ∧ Keeps X w w' := by
  obtain ⟨Gs, h⟩ := h
  obtain ⟨wv, hs, hG⟩ := Six.is5 h
  refine (refWrite_any x w hs hl).mono fun e w' ⟨he, hp⟩ => ?_
  obtain ⟨h1, h2⟩ := h.step (ps' := six bp br bs cs Sp Sr sp (wriS sr x)) (i := 5) (by omega) (p := sesR cs (wriS sr x)) (hp.left hG) rfl (fun j hj6 hj => six_n5 j hj6 hj) (by omega)
  exact ⟨he, h1, keepsX h2⟩
theorem six_abort (h : Six w bp br bs cs Sp Sr sp sr X 6 NoY) :
    Calls Tryz.prog 40 #[.pointer (some ⟨bs, 0, none⟩)] w fun e w' => e = .returned (errV (aboE sp)) ∧ Six w' bp br bs cs Sp Sr (aboS sp) sr X 6 NoY ∧ Keeps X w w' := by
  obtain ⟨Gs, h⟩ := h
  refine (pabort_any w (Six.is4 h)).mono fun e w' ⟨he, hp⟩ => ?_
  obtain ⟨h1, h2⟩ := h.step (ps' := six bp br bs cs Sp Sr (aboS sp) sr) (i := 4) (by omega) (p := sesP bs (aboS sp)) hp rfl (fun j _ hj => six_n4 j hj) (by omega)
  exact ⟨he, h1, keepsX h2⟩
theorem six_rabort (h : Six w bp br bs cs Sp Sr sp sr X 6 NoY) :
    Calls Tryz.prog 41 #[.pointer (some ⟨cs, 0, none⟩)] w fun e w' => e = .returned (.int .i64 (aboE sr)) ∧ Six w' bp br bs cs Sp Sr sp (aboS sr) X 6 NoY ∧ Keeps X w w' := by
  obtain ⟨Gs, h⟩ := h
  obtain ⟨wv, hs, hG⟩ := Six.is5 h
  refine (refAbort_any w hs).mono fun e w' ⟨he, hp⟩ => ?_
  obtain ⟨h1, h2⟩ := h.step (ps' := six bp br bs cs Sp Sr sp (aboS sr)) (i := 5) (by omega) (p := sesR cs (aboS sr)) (hp.left hG) rfl (fun j hj6 hj => six_n5 j hj6 hj) (by omega)
  exact ⟨he, h1, keepsX h2⟩
/-- what comes of the document's commit -/
def SixRCommit (w : World) (bp br : Nat → Nat) (bs cs : Nat) (Sp Sr : Nat → SiteS) (sp sr : SesS) (X : Nat → Prop) (i : Nat) (now : Int) (e : Ending) (w' : World) : Prop :=
  ∃ m : TxM, e = .returned (.tuple #[txV m, .int .i64 (scomE (Sr i) sr now)]) ∧ m.t = scomT (Sr i) sr now ∧ Hid (WrIn w' m.wa m.wc m.t.ws ∧ Six w' bp br bs cs Sp (setS Sr i (scomS (Sr i) sr now)) sp (scomSes (Sr i) sr now) X (2 + i) m.blk ∧ Keeps X w w') ∧ ∀ k, m.blk k → w.heap.size ≤ k
theorem six_rcommit (now : Int) (hi : i < 2) (h : Six w bp br bs cs Sp Sr sp sr X 6 NoY) (hI : InvS (Sr i)) (hp : 0 ≤ sr.p0) :
    Calls Tryz.prog 38 #[.pointer (some ⟨cs, 0, none⟩), .pointer (some ⟨br i, 0, none⟩), .int .i64 now] w (SixRCommit w bp br bs cs Sp Sr sp sr X i now) := by
  obtain ⟨Gs, h⟩ := h
  refine (refSesCommit_any now w (Six.is5 h) (Six.isR h hi) hI (fun k hk => h.apart 5 (2 + i) k (by omega) (by omega) (by omega) hk) hp).mono fun e w' ⟨m, he, hm, hh⟩ => ?_
  obtain ⟨h1, h2⟩ := h.step2 (ps' := six bp br bs cs Sp (setS Sr i (scomS (Sr i) sr now)) sp (scomSes (Sr i) sr now)) (i := 5) (j := 2 + i) (by omega) (by omega) hh.out.2 rfl (by rw [six_r hi, setS_same]) (fun j hj6 hj hj2 => (six_n5 j hj6 hj).trans (six_nr hi j hj2))
  obtain ⟨_, _, _, _, _, _, _, hY, _⟩ := hh.out.2
  exact ⟨m, he, hm, ⟨hh.out.1, h1, h2⟩, fun k hk => (hY k hk).1⟩
/-- what comes of the program's -/
def SixCommit (w : World) (bp br : Nat → Nat) (bs cs : Nat) (Sp Sr : Nat → SiteS) (sp sr : SesS) (X Y : Nat → Prop) (i : Nat) (now : Int) (e : Ending) (w' : World) : Prop :=
  ∃ m : TxM, e = .returned (.tuple #[txV m, errV (scomE (Sp i) sp now)]) ∧ m.t = scomT (Sp i) sp now ∧ Hid (WrIn w' m.wa m.wc m.t.ws ∧ Six w' bp br bs cs (setS Sp i (scomS (Sp i) sp now)) Sr (scomSes (Sp i) sp now) sr X 6 NoY ∧ Keeps (fun k => X k ∨ Y k) w w') ∧ ∀ k, m.blk k → w.heap.size ≤ k
theorem six_commit (now : Int) (hi : i < 2) (ho : 2 ≤ o) (ho4 : o ≠ 4) (h : Six w bp br bs cs Sp Sr sp sr X o Y) (hI : InvS (Sp i)) :
    Calls Tryz.prog 39 #[.pointer (some ⟨bs, 0, none⟩), .pointer (some ⟨bp i, 0, none⟩), .int .i64 now] w (SixCommit w bp br bs cs Sp Sr sp sr X Y i now) := by
  obtain ⟨Gs, h⟩ := h
  refine (pscommit_any now w (Six.is4 h) (Six.isP h hi) hI (fun k hk => h.apart 4 i k (by omega) (by omega) (by omega) hk)).mono fun e w' ⟨m, he, hm, hh, hnw⟩ => ?_
  obtain ⟨h1, h2⟩ := h.step2h (ps' := six bp br bs cs (setS Sp i (scomS (Sp i) sp now)) Sr (scomSes (Sp i) sp now) sr) (i := 4) (j := i) (by omega) (by omega) (by omega) (by omega) hh.out.2 rfl (by rw [six_p hi, setS_same]) (fun j hj6 hj hj2 => (six_n4 j hj).trans (six_np hi j hj2))
  exact ⟨m, he, hm, ⟨hh.out.1, Aside.less h1 (fun k hk => hk), h2⟩, hnw⟩
theorem six_past (h : Six w bp br bs cs Sp Sr sp sr X o Y) :
    Calls Tryz.prog 42 #[.pointer (some ⟨bs, 0, none⟩)] w fun e w' => e = .returned (.agg #[.int .i64 sp.p0, .int .i64 sp.p1, .int .i64 sp.p2, .int .i64 sp.p3]) ∧ Below w.heap.size w w' := by
  obtain ⟨Gs, h⟩ := h
  exact ppast_any w (Six.is4 h)
theorem six_snap (h : Six w bp br bs cs Sp Sr sp sr X o Y) :
    Calls Tryz.prog 43 #[.pointer (some ⟨bs, 0, none⟩)] w fun e w' => e = .returned (.agg #[.int .i64 sp.s0, .int .i64 sp.s1, .int .i64 sp.s2, .int .i64 sp.s3]) ∧ Below w.heap.size w w' := by
  obtain ⟨Gs, h⟩ := h
  exact psnap_any w (Six.is4 h)
theorem six_open (h : Six w bp br bs cs Sp Sr sp sr X o Y) :
    Calls Tryz.prog 44 #[.pointer (some ⟨bs, 0, none⟩)] w fun e w' => e = .returned (.bool sp.opn) ∧ Below w.heap.size w w' := by
  obtain ⟨Gs, h⟩ := h
  exact popen_any w (Six.is4 h)
end

end Go.Proofs.YtpncedpfoakfkaaGreatDoor

namespace Go.Proofs.YtpncedpfoakfkaaGreatDoor
open Go.RowKit

theorem pick2 (a : Int) : ∃ r : Nat, wrap64 ((IntKind.u64.wrap a).tmod 2) = r ∧ r < 2 := by
  have hw : 0 ≤ IntKind.u64.wrap a := by
    unfold IntKind.wrap
    simp [IntKind.signed, IntKind.bits]
    omega
  rw [Int.tmod_eq_emod_of_nonneg hw]
  refine ⟨(IntKind.u64.wrap a % 2).toNat, ?_, by omega⟩
  unfold wrap64
  omega
/-- what is always so -/
structure SInv (k : Nat) (S : Nat → SiteS) (s : SesS) : Prop where
  i0 : ∀ i, i < 2 → InvS (S i)
  wt : ∀ i, i < 2 → (S i).waits.length ≤ k
  p0 : 0 ≤ s.p0
  ln : s.ws.length ≤ k
theorem SInv.mono {k k' : Nat} {S : Nat → SiteS} {s : SesS} (h : SInv k S s) (hk : k ≤ k') : SInv k' S s := ⟨h.i0, fun i hi => Nat.le_trans (h.wt i hi) hk, h.p0, Nat.le_trans h.ln hk⟩
theorem SInv.site {k i : Nat} {S : Nat → SiteS} {s : SesS} {S' : SiteS} (h : SInv k S s) (hI : InvS S') (hw : S'.waits.length ≤ k) : SInv k (setS S i S') s := by
  refine ⟨fun j hj => ?_, fun j hj => ?_, h.p0, h.ln⟩
  · unfold setS; split
    · exact hI
    · exact h.i0 j hj
  · unfold setS; split
    · exact hw
    · exact h.wt j hj
theorem SInv.ses {k : Nat} {S : Nat → SiteS} {s s' : SesS} (h : SInv k S s) (hp : 0 ≤ s'.p0) (hl : s'.ws.length ≤ k) : SInv k S s' := ⟨h.i0, h.wt, hp, hl⟩
theorem beg_p0 {S : SiteS} {s : SesS} : (begS S s).p0 = s.p0 := by unfold begS; split <;> rfl
theorem beg_ws {S : SiteS} {s : SesS} : (begS S s).ws.length ≤ s.ws.length := by
  unfold begS; split
  · exact Nat.zero_le _
  · exact Nat.le_refl _
theorem wri_p0 {s : SesS} {x : Wr} : (wriS s x).p0 = s.p0 := by unfold wriS; split <;> rfl
theorem wri_ws {s : SesS} {x : Wr} : (wriS s x).ws.length ≤ s.ws.length + 1 := by
  unfold wriS; split
  · simp
  · omega
theorem end_p0 {s : SesS} (h : 0 ≤ s.p0) : 0 ≤ (endS s).p0 := by
  show 0 ≤ maxZ s.p0 s.s0
  unfold maxZ; split <;> omega
theorem abo_p0 {s : SesS} (h : 0 ≤ s.p0) : 0 ≤ (aboS s).p0 := by
  unfold aboS; split
  · exact h
  · exact end_p0 h
theorem abo_ws {s : SesS} : (aboS s).ws.length ≤ s.ws.length := by
  unfold aboS; split
  · exact Nat.le_refl _
  · exact Nat.zero_le _
theorem scom_p0 {S : SiteS} {s : SesS} {now : Int} (h : 0 ≤ s.p0) : 0 ≤ (scomSes S s now).p0 := by
  unfold scomSes; split
  · exact h
  · split
    · exact end_p0 h
    · have := end_p0 h
      show 0 ≤ (if _ then maxZ (endS s).p0 _ else (endS s).p0)
      split
      · unfold maxZ; split <;> omega
      · exact this
theorem scom_ws {S : SiteS} {s : SesS} {now : Int} : (scomSes S s now).ws.length ≤ s.ws.length := by
  unfold scomSes; split
  · exact Nat.le_refl _
  · split
    · exact Nat.zero_le _
    · exact Nat.zero_le _
theorem scom_waits {S : SiteS} {s : SesS} {now : Int} : (scomS S s now).waits = S.waits := by
  unfold scomS; split
  · rfl
  · exact comS_waits

/-- two pointers -/
def ptrs (f : Nat → Nat) : List Value := [.pointer (some ⟨f 0, 0, none⟩), .pointer (some ⟨f 1, 0, none⟩)]
theorem ptrs_at {z : Int} (h0 : 0 ≤ z) (h2 : z < 2) (f : Nat → Nat) : (ptrs f)[z.toNat]? = some (.pointer (some ⟨f z.toNat, 0, none⟩)) := by
  have hc : z = 0 ∨ z = 1 := by omega
  rcases hc with rfl | rfl <;> rfl
/-- blocks that are nobody's -/
def SX (n b5 b6 xb : Nat) : Nat → Prop := fun j => j < n ∨ (j = b5 ∨ j = b6 ∨ j = xb)
/-- the boxes: the program's sites, the document's, a turn -/
structure SH (b5 b6 xb : Nat) (bp br : Nat → Nat) (xs : List Value) (w : World) : Prop where
  r5 : RowL w b5 (ptrs bp)
  r6 : RowL w b6 (ptrs br)
  x : RowL w xb xs
theorem SH.kept {b5 b6 xb : Nat} {bp br : Nat → Nat} {xs : List Value} {w w' : World} (h : SH b5 b6 xb bp br xs w) (hk : ∀ j, (j = b5 ∨ j = b6 ∨ j = xb) → w'.heap[j]? = w.heap[j]?) (hs : w.heap.size ≤ w'.heap.size) : SH b5 b6 xb bp br xs w' := ⟨h.r5.kept (hk _ (.inl rfl)) hs, h.r6.kept (hk _ (.inr (.inl rfl))) hs, h.x.kept (hk _ (.inr (.inr rfl))) hs⟩
theorem SH.later {b5 b6 xb : Nat} {bp br : Nat → Nat} {xs : List Value} {w w' : World} (h : SH b5 b6 xb bp br xs w) (hb : Below w.heap.size w w') : SH b5 b6 xb bp br xs w' := ⟨h.r5.later hb, h.r6.later hb, h.x.later hb⟩
theorem SH.keeps {b5 b6 xb : Nat} {bp br : Nat → Nat} {xs : List Value} {w w' : World} {X : Nat → Prop} (h : SH b5 b6 xb bp br xs w) (K : Keeps X w w') (hX : ∀ j, (j = b5 ∨ j = b6 ∨ j = xb) → X j) : SH b5 b6 xb bp br xs w' := h.kept (fun j hj => K.block j (hX j hj)) K.size
/-- behind the switch -/
def SesMid (bp br : Nat → Nat) (bs cs b5 b6 xb k : Nat) (w wc : World) : Prop :=
  ∃ S s, Six wc bp br bs cs S S s s (SX w.heap.size b5 b6 xb) 6 NoY ∧ RowL wc b5 (ptrs bp) ∧ RowL wc b6 (ptrs br) ∧ Hid (SInv (k + 1) S s) ∧ Below w.heap.size w wc
/-- blocks that are nobody's may change -/
theorem Six.touch {w w' : World} {bp br : Nat → Nat} {bs cs o : Nat} {Sp Sr : Nat → SiteS} {sp sr : SesS} {X Y : Nat → Prop} (h : Six w bp br bs cs Sp Sr sp sr X o Y) (t : Touch X w w') : Six w' bp br bs cs Sp Sr sp sr X o Y := by
  obtain ⟨Gs, h⟩ := h
  exact ⟨Gs, fun i hi => (six bp br bs cs Sp Sr sp sr i).kept _ _ _ (h.is i hi) (fun k hk => t.block k ((six bp br bs cs Sp Sr sp sr i).lt _ _ (h.is i hi) k hk) (fun e => (h.free k e).2 i hi hk)) t.size, h.apart, fun k hk => ⟨Nat.lt_of_lt_of_le (h.free k hk).1 t.size, (h.free k hk).2⟩, fun k hk => ⟨Nat.lt_of_lt_of_le (h.half k hk).1 t.size, (h.half k hk).2⟩⟩
theorem tx_far' {n : Nat} {w w2 W : World} {b : Nat} (h : Below n w W) (hB : w2.heap.size ≤ b) (hn : n ≤ w2.heap.size) (x0 x1 x2 x3 x4 x5 x6 x7 : Int) (v : Value) : Below n w (setTx W b x0 x1 x2 x3 x4 x5 x6 x7 v) := by
  have hb : n ≤ b := Nat.le_trans hn hB
  exact ((((((((h.setCell (p := ⟨b, 0, none⟩) hb _).setCell (p := ⟨b, 1, none⟩) hb _).setCell (p := ⟨b, 2, none⟩) hb _).setCell (p := ⟨b, 3, none⟩) hb _).setCell (p := ⟨b, 4, none⟩) hb _).setCell (p := ⟨b, 5, none⟩) hb _).setCell (p := ⟨b, 6, none⟩) hb _).setCell (p := ⟨b, 7, none⟩) hb _).setCell (p := ⟨b, 8, none⟩) hb _

end Go.Proofs.YtpncedpfoakfkaaGreatDoor

namespace Go.Proofs.YtpncedpfoakfkaaGreatDoor
open Go.RowKit

theorem PS.blocks {w : World} {b : Nat} {G H : Nat → Prop} {S : SiteS} (h : PS w b G S) (e : ∀ k, G k ↔ H k) : PS w b H S := by
  have : G = H := funext fun k => propext (e k)
  rw [← this]; exact h
theorem RS.blocks {w : World} {b : Nat} {G H : Nat → Prop} {S : SiteS} (h : RS w b G S) (e : ∀ k, G k ↔ H k) : RS w b H S := by
  have : G = H := funext fun k => propext (e k)
  rw [← this]; exact h
theorem PSe.blocks {w : World} {b : Nat} {G H : Nat → Prop} {s : SesS} (h : PSe w b G s) (e : ∀ k, G k ↔ H k) : PSe w b H s := by
  have : G = H := funext fun k => propext (e k)
  rw [← this]; exact h
theorem RSe.blocks {w : World} {b : Nat} {G H : Nat → Prop} {s : SesS} (h : RSe w b G s) (e : ∀ k, G k ↔ H k) : RSe w b H s := by
  have : G = H := funext fun k => propext (e k)
  rw [← this]; exact h
/-- a pointer, where it is made -/
def ptrTo (n : Nat) (f : Nat → Nat) (i : Nat) : Value := if i < n then .pointer (some ⟨f i, 0, none⟩) else .pointer none
/-- n sites are made -/
structure Made (w0 : World) (bs cs b5 b6 n : Nat) (bp br : Nat → Nat) (wr : World) : Prop where
  ses : PSe wr bs (fun k => k = bs) newSes
  rses : RSe wr cs (fun k => k = cs) newSes
  r5 : RowL wr b5 [ptrTo n bp 0, ptrTo n bp 1]
  r6 : RowL wr b6 [ptrTo n br 0, ptrTo n br 1]
  ps : ∀ i, i < n → PS wr (bp i) (fun k => k = bp i ∨ k + 1 = bp i) (newS i)
  rs : ∀ i, i < n → RS wr (br i) (fun k => k = br i) (newS i)
  o1 : w0.heap.size ≤ bs ∧ bs < cs ∧ cs < b5 ∧ b5 < b6
  o2 : ∀ i, i < n → b6 + 1 < bp i ∧ bp i < br i
  o3 : 1 < n → br 0 + 1 < bp 1
  hb : Below w0.heap.size w0 wr
theorem Made.first {w w1 : World} {bs : Nat} {T1 T2 T3 : TypeId} (f : Nat → Nat) (hs : PSe w1 bs (fun k => k = bs) newSes) (h0 : w.heap.size ≤ bs) (hb : Below w.heap.size w w1) : Made w bs w1.heap.size (w1.heap.size + 1) (w1.heap.size + 2) 0 f f (((w1.alloc (.cells (rsesC newSes (.slice none 0 0)).toArray T1)).alloc (.cells #[.pointer none, .pointer none] T2)).alloc (.cells #[.pointer none, .pointer none] T3)) := by
  have l1 := boxed (Below.refl _ w1) (.cells (rsesC newSes (.slice none 0 0)).toArray T1)
  have l2 := boxed (Below.refl _ (w1.alloc (.cells (rsesC newSes (.slice none 0 0)).toArray T1))) (.cells #[.pointer none, .pointer none] T2)
  have l3 := boxed (Below.refl _ ((w1.alloc (.cells (rsesC newSes (.slice none 0 0)).toArray T1)).alloc (.cells #[.pointer none, .pointer none] T2))) (.cells #[.pointer none, .pointer none] T3)
  have hlt := hs.lt bs rfl
  refine ⟨((hs.later l1).later l2).later l3, ((rse_new T1).later l2).later l3, ?_, ?_, fun i hi => by omega, fun i hi => by omega, ⟨h0, by omega, by omega, by omega⟩, fun i hi => by omega, fun h => by omega, boxed (boxed (boxed hb _) _) _⟩
  · exact (RowL.new (w := w1.alloc (.cells (rsesC newSes (.slice none 0 0)).toArray T1)) (T := T2) (n := w1.heap.size + 1) [.pointer none, .pointer none] (by simp)).boxed _
  · exact RowL.new (w := (w1.alloc (.cells (rsesC newSes (.slice none 0 0)).toArray T1)).alloc (.cells #[.pointer none, .pointer none] T2)) (T := T3) (n := w1.heap.size + 2) [.pointer none, .pointer none] (by simp)
theorem Made.next {w0 wr w1 : World} {bs cs b5 b6 n : Nat} {bp br : Nat → Nat} (h : Made w0 bs cs b5 b6 n bp br wr) (hn : n < 2) (hP : PS w1 (wr.heap.size + 1) (fun k => k = wr.heap.size + 1 ∨ k = wr.heap.size) (newS n)) (hb1 : Below wr.heap.size wr w1) (T : TypeId) (vs : List Value) (hvs : vs = siteC (newS n) (.slice none 0 0) (.slice none 0 0) (.slice none 0 0)) :
    Made w0 bs cs b5 b6 (n + 1) (fun j => if j = n then wr.heap.size + 1 else bp j) (fun j => if j = n then w1.heap.size else br j) (((w1.setCell ⟨b5, n, none⟩ (.pointer (some ⟨wr.heap.size + 1, 0, none⟩))).setCell ⟨b6, n, none⟩ (.pointer (some ⟨w1.heap.size, 0, none⟩))).alloc (.cells vs.toArray T)) := by
  obtain ⟨q1, q2, q3, q4⟩ := h.o1
  have l5 := h.r5.lt
  have l6 := h.r6.lt
  have ls := h.ses.lt bs rfl
  have lc := h.rses.lt cs rfl
  have s1 : wr.heap.size + 1 < w1.heap.size := hP.lt _ (.inl rfl)
  have R5 := (h.r5.later hb1).set n (.pointer (some ⟨wr.heap.size + 1, 0, none⟩)) (by simp; omega)
  have R5' := (R5.far ⟨b6, n, none⟩ (.pointer (some ⟨w1.heap.size, 0, none⟩)) (by show b6 ≠ b5; omega)).boxed (.cells vs.toArray T)
  have R6 := (((h.r6.later hb1).far ⟨b5, n, none⟩ (.pointer (some ⟨wr.heap.size + 1, 0, none⟩)) (by show b5 ≠ b6; omega)).set n (.pointer (some ⟨w1.heap.size, 0, none⟩)) (by simp; omega)).boxed (.cells vs.toArray T)
  have hsz0 : ((w1.setCell ⟨b5, n, none⟩ (.pointer (some ⟨wr.heap.size + 1, 0, none⟩))).setCell ⟨b6, n, none⟩ (.pointer (some ⟨w1.heap.size, 0, none⟩))).heap.size = w1.heap.size := by simp only [World.setCell, Array.size_modify]
  have kp0 : ∀ k, k ≠ b5 → k ≠ b6 → ((w1.setCell ⟨b5, n, none⟩ (.pointer (some ⟨wr.heap.size + 1, 0, none⟩))).setCell ⟨b6, n, none⟩ (.pointer (some ⟨w1.heap.size, 0, none⟩))).heap[k]? = w1.heap[k]? := fun k k5 k6 => by rw [Below.heap_setCell _ _ _ _ k6, Below.heap_setCell _ _ _ _ k5]
  have hbF : Below w0.heap.size w0 (((w1.setCell ⟨b5, n, none⟩ (.pointer (some ⟨wr.heap.size + 1, 0, none⟩))).setCell ⟨b6, n, none⟩ (.pointer (some ⟨w1.heap.size, 0, none⟩))).alloc (.cells vs.toArray T)) := boxed (((behind h.hb hb1).setCell (p := ⟨b5, n, none⟩) (by show _ ≤ b5; omega) _).setCell (p := ⟨b6, n, none⟩) (by show _ ≤ b6; omega) _) _
  generalize ((w1.setCell ⟨b5, n, none⟩ (.pointer (some ⟨wr.heap.size + 1, 0, none⟩))).setCell ⟨b6, n, none⟩ (.pointer (some ⟨w1.heap.size, 0, none⟩))) = W at *
  have bz := boxed (Below.refl _ W) (.cells vs.toArray T)
  have bsz := bz.size
  have hb1s := hb1.size
  have RN : RS (W.alloc (.cells vs.toArray T)) W.heap.size (fun k => k = W.heap.size) (newS n) := rnew T vs hvs
  rw [hsz0] at RN
  refine ⟨((h.ses.later hb1).kept (fun k hk => kp0 k (by omega) (by omega)) (by omega)).later bz, ((h.rses.later hb1).kept (fun k hk => kp0 k (by omega) (by omega)) (by omega)).later bz, ?_, ?_, fun i hi => ?_, fun i hi => ?_, ⟨q1, q2, q3, q4⟩, fun i hi => ?_, fun h1 => ?_, hbF⟩
  · have hc : n = 0 ∨ n = 1 := by omega
    rcases hc with rfl | rfl
    · exact R5'
    · exact R5'
  · have hc : n = 0 ∨ n = 1 := by omega
    rcases hc with rfl | rfl
    · exact R6
    · exact R6
  · by_cases hin : i = n
    · subst hin
      rw [if_pos rfl]
      refine ((hP.kept (fun k hk => kp0 k ?_ ?_) (by omega)).later bz).blocks (fun k => ?_)
      · rcases hk with e | e <;> omega
      · rcases hk with e | e <;> omega
      · omega
    · rw [if_neg hin]
      have p := h.ps i (by omega)
      have o := h.o2 i (by omega)
      exact ((p.later hb1).kept (fun k hk => kp0 k (by omega) (by omega)) (by omega)).later bz
  · by_cases hin : i = n
    · subst hin
      rw [if_pos rfl]
      exact RN
    · rw [if_neg hin]
      have p := h.rs i (by omega)
      have o := h.o2 i (by omega)
      exact ((p.later hb1).kept (fun k hk => kp0 k (by omega) (by omega)) (by omega)).later bz
  · by_cases hin : i = n
    · subst hin
      rw [if_pos rfl, if_pos rfl]
      omega
    · rw [if_neg hin, if_neg hin]
      exact h.o2 i (by omega)
  · have hn1 : n = 1 := by omega
    subst hn1
    rw [if_neg (by decide), if_pos rfl]
    have := (h.rs 0 (by decide)).lt _ rfl
    omega
/-- all of it, apart -/
theorem Made.six {w0 wr : World} {bs cs b5 b6 : Nat} {bp br : Nat → Nat} (h : Made w0 bs cs b5 b6 2 bp br wr) :
    Six wr bp br bs cs (fun i => newS i) (fun i => newS i) newSes newSes (fun j => j < w0.heap.size ∨ (j = b5 ∨ j = b6)) 6 NoY ∧ RowL wr b5 (ptrs bp) ∧ RowL wr b6 (ptrs br) ∧ SInv 0 (fun i => newS i) newSes := by
  obtain ⟨q1, q2, q3, q4⟩ := h.o1
  have a0 := h.o2 0 (by decide)
  have a1 := h.o2 1 (by decide)
  have a2 := h.o3 (by decide)
  have l5 := h.r5.lt
  have l6 := h.r6.lt
  have ls := h.hb.size
  refine ⟨⟨fun i k => (i = 0 ∧ (k = bp 0 ∨ k + 1 = bp 0)) ∨ (i = 1 ∧ (k = bp 1 ∨ k + 1 = bp 1)) ∨ (i = 2 ∧ k = br 0) ∨ (i = 3 ∧ k = br 1) ∨ (i = 4 ∧ k = bs) ∨ (i = 5 ∧ k = cs), fun i hi => ?_, fun i j k hi hj hij e1 e2 => by omega, fun k hk => ⟨by omega, fun i hi e => by omega⟩, fun k hk => hk.elim⟩, h.r5, h.r6, ⟨fun i hi => InvS.new (by omega) (by omega), fun i hi => Nat.zero_le _, Int.le_refl _, Nat.le_refl _⟩⟩
  have hc : i = 0 ∨ i = 1 ∨ i = 2 ∨ i = 3 ∨ i = 4 ∨ i = 5 := by omega
  rcases hc with rfl | rfl | rfl | rfl | rfl | rfl
  · exact PS.blocks (h.ps 0 (by decide)) (fun k => by omega)
  · exact PS.blocks (h.ps 1 (by decide)) (fun k => by omega)
  · exact RS.blocks (h.rs 0 (by decide)) (fun k => by omega)
  · exact RS.blocks (h.rs 1 (by decide)) (fun k => by omega)
  · exact PSe.blocks h.ses (fun k => by omega)
  · exact RSe.blocks h.rses (fun k => by omega)

end Go.Proofs.YtpncedpfoakfkaaGreatDoor

namespace Go.Proofs.YtpncedpfoakfkaaGreatDoor
open Go.RowKit

/-- a function's block, by its number -/
def findBlock4 (n : Nat) : Code → Option Code
  | .block id c => if id = n then some (.block id c) else findBlock4 n c
  | .seq x y => match findBlock4 n x with
    | some c => some c
    | none => findBlock4 n y
  | .loop c => findBlock4 n c
  | .cond _ x y => match findBlock4 n x with
    | some c => some c
    | none => findBlock4 n y
  | _ => none
noncomputable def sesSw : Code := ((Tryz.f4.body.bind (findBlock4 4)).getD .skip)

end Go.Proofs.YtpncedpfoakfkaaGreatDoor

namespace Go.Proofs.YtpncedpfoakfkaaGreatDoor
open Go.RowKit

set_option maxRecDepth 1000000 in
set_option maxHeartbeats 16000000 in
theorem sesSw_0 {bp br : Nat → Nat} {bs cs b5 b6 xb k : Nat} {S : Nat → SiteS} {s : SesS} {az tsi key now xk site seq wall count d0 d1 d2 d3 : Int} {xd : ByteArray} {xg : Bool} {ws : List Wr} {ta : Option Addr} {tcap : Nat} {y0 y1 y2 y7 y8 y9 y11 y13 y14 y15 y16 y17 y18 y19 y20 y21 y22 y23 y24 y25 y26 y27 y28 y29 y30 y31 y32 y33 y34 y35 y36 y37 y38 y39 y40 y41 y42 y43 y44 y45 y46 y47 y48 y49 y50 y51 y52 y53 y54 y55 y56 y57 y58 y59 y60 y61 y62 y63 y64 y65 y66 y67 y68 y69 y70 y71 y72 y73 y74 y75 y76 y77 y78 y79 y80 y81 y82 y83 y85 y86 y87 y88 y89 y90 y91 y92 y93 y94 y95 y96 y97 y98 y99 y100 y101 y102 y103 y104 y105 y106 y107 y108 y109 y110 y111 y112 y113 y114 y115 y116 y117 y118 y119 y120 y121 y122 y123 y124 y125 y126 y127 y128 y129 y130 y131 y132 y133 y134 y135 y136 y137 y138 y139 y140 y141 y142 y143 y144 y145 y146 y147 y148 y149 y150 y151 y152 y153 y154 y155 y156 y157 y158 y159 y160 y161 y162 y163 y164 y165 y166 y167 y168 y169 y170 y171 y172 y173 y174 y175 y176 y177 y178 y179 y180 y181 y182 y183 y184 y185 y186 y187 y188 y189 y190 y191 y192 y193 y194 y195 y196 y197 y198 y199 y200 y201 y202 y203 y204 y205 y206 y207 y208 y209 y210 y211 y212 y213 y214 y215 y216 y217 y218 y219 y220 y221 y222 : Value} (w w2 : World) (T2 : Six w2 bp br bs cs S S s s (SX w.heap.size b5 b6 xb) 6 NoY) (H2 : SH b5 b6 xb bp br [.int .i64 0, .int .i64 tsi, .int .i64 key, .int .i64 now, .int .i64 xk, .string xd, .bool xg, .int .i64 site, .int .i64 seq, .int .i64 wall, .int .i64 count, .int .i64 d0, .int .i64 d1, .int .i64 d2, .int .i64 d3, .slice ta ws.length tcap] w2) (hb2 : Below w.heap.size w w2) (HI : Hid (SInv k S s ∧ k ≤ 80)) (h0 : 0 ≤ az) (h2 : az < 2)
    (HWk : Hid (WrIn w ta tcap ws)) (HKW : Hid ((Lit.int .i64 key).wf = true)) (HG : Hid (w.cell? ⟨0, 0, none⟩ = some (.iface 186 (.agg #[.pointer (some ⟨1, 25, none⟩)])))) (R : Act → World → Prop)
    (hR : ∀ (u13 u14 u15 u16 u17 u18 u19 u20 u85 u86 u87 u88 u89 u90 u91 u92 u93 u94 u95 u96 u97 u98 u99 u100 u101 u102 u103 u104 u105 u106 u107 u108 u109 u110 u111 u112 u113 u114 u115 u116 u117 u118 u119 u120 u121 u122 u123 u124 u125 u126 u127 u128 u129 u130 u131 u132 u133 u134 u135 u136 u137 u138 u139 u140 u141 u142 u143 u144 u145 u146 u147 u148 u149 u150 u151 u152 u153 u154 u155 u156 u157 u158 u159 u160 u161 u162 u163 u164 u165 u166 u167 u168 u169 u170 u171 u172 u173 u174 u175 u176 u177 u178 u179 u180 u181 u182 u183 u184 u185 u186 u187 u188 u189 u190 u191 u192 u193 u194 u195 u196 u197 : Value) (wc : World), SesMid bp br bs cs b5 b6 xb k w wc → R ⟨List.toArray (y0 :: y1 :: y2 :: (.pointer (some ⟨bs, 0, none⟩)) :: (.pointer (some ⟨cs, 0, none⟩)) :: (.pointer (some ⟨b5, 0, none⟩)) :: (.pointer (some ⟨b6, 0, none⟩)) :: y7 :: y8 :: y9 :: (.int .i64 az) :: y11 :: (.pointer (some ⟨xb, 0, none⟩)) :: u13 :: u14 :: u15 :: u16 :: u17 :: u18 :: u19 :: u20 :: y21 :: y22 :: y23 :: y24 :: y25 :: y26 :: y27 :: y28 :: y29 :: y30 :: y31 :: y32 :: y33 :: y34 :: y35 :: y36 :: y37 :: y38 :: y39 :: y40 :: y41 :: y42 :: y43 :: y44 :: y45 :: y46 :: y47 :: y48 :: y49 :: y50 :: y51 :: y52 :: y53 :: y54 :: y55 :: y56 :: y57 :: y58 :: y59 :: y60 :: y61 :: y62 :: y63 :: y64 :: y65 :: y66 :: y67 :: y68 :: y69 :: y70 :: y71 :: y72 :: y73 :: y74 :: y75 :: y76 :: y77 :: y78 :: y79 :: y80 :: y81 :: y82 :: y83 :: (.int .i64 0) :: u85 :: u86 :: u87 :: u88 :: u89 :: u90 :: u91 :: u92 :: u93 :: u94 :: u95 :: u96 :: u97 :: u98 :: u99 :: u100 :: u101 :: u102 :: u103 :: u104 :: u105 :: u106 :: u107 :: u108 :: u109 :: u110 :: u111 :: u112 :: u113 :: u114 :: u115 :: u116 :: u117 :: u118 :: u119 :: u120 :: u121 :: u122 :: u123 :: u124 :: u125 :: u126 :: u127 :: u128 :: u129 :: u130 :: u131 :: u132 :: u133 :: u134 :: u135 :: u136 :: u137 :: u138 :: u139 :: u140 :: u141 :: u142 :: u143 :: u144 :: u145 :: u146 :: u147 :: u148 :: u149 :: u150 :: u151 :: u152 :: u153 :: u154 :: u155 :: u156 :: u157 :: u158 :: u159 :: u160 :: u161 :: u162 :: u163 :: u164 :: u165 :: u166 :: u167 :: u168 :: u169 :: u170 :: u171 :: u172 :: u173 :: u174 :: u175 :: u176 :: u177 :: u178 :: u179 :: u180 :: u181 :: u182 :: u183 :: u184 :: u185 :: u186 :: u187 :: u188 :: u189 :: u190 :: u191 :: u192 :: u193 :: u194 :: u195 :: u196 :: u197 :: y198 :: y199 :: y200 :: y201 :: y202 :: y203 :: y204 :: y205 :: y206 :: y207 :: y208 :: y209 :: y210 :: y211 :: y212 :: y213 :: y214 :: y215 :: y216 :: y217 :: y218 :: y219 :: y220 :: y221 :: y222 :: []), []⟩ wc) :
    Code.wp Tryz.prog sesSw (Exit.then R (fun _ _ _ => False)) ⟨List.toArray (y0 :: y1 :: y2 :: (.pointer (some ⟨bs, 0, none⟩)) :: (.pointer (some ⟨cs, 0, none⟩)) :: (.pointer (some ⟨b5, 0, none⟩)) :: (.pointer (some ⟨b6, 0, none⟩)) :: y7 :: y8 :: y9 :: (.int .i64 az) :: y11 :: (.pointer (some ⟨xb, 0, none⟩)) :: y13 :: y14 :: y15 :: y16 :: y17 :: y18 :: y19 :: y20 :: y21 :: y22 :: y23 :: y24 :: y25 :: y26 :: y27 :: y28 :: y29 :: y30 :: y31 :: y32 :: y33 :: y34 :: y35 :: y36 :: y37 :: y38 :: y39 :: y40 :: y41 :: y42 :: y43 :: y44 :: y45 :: y46 :: y47 :: y48 :: y49 :: y50 :: y51 :: y52 :: y53 :: y54 :: y55 :: y56 :: y57 :: y58 :: y59 :: y60 :: y61 :: y62 :: y63 :: y64 :: y65 :: y66 :: y67 :: y68 :: y69 :: y70 :: y71 :: y72 :: y73 :: y74 :: y75 :: y76 :: y77 :: y78 :: y79 :: y80 :: y81 :: y82 :: y83 :: (.int .i64 0) :: y85 :: y86 :: y87 :: y88 :: y89 :: y90 :: y91 :: y92 :: y93 :: y94 :: y95 :: y96 :: y97 :: y98 :: y99 :: y100 :: y101 :: y102 :: y103 :: y104 :: y105 :: y106 :: y107 :: y108 :: y109 :: y110 :: y111 :: y112 :: y113 :: y114 :: y115 :: y116 :: y117 :: y118 :: y119 :: y120 :: y121 :: y122 :: y123 :: y124 :: y125 :: y126 :: y127 :: y128 :: y129 :: y130 :: y131 :: y132 :: y133 :: y134 :: y135 :: y136 :: y137 :: y138 :: y139 :: y140 :: y141 :: y142 :: y143 :: y144 :: y145 :: y146 :: y147 :: y148 :: y149 :: y150 :: y151 :: y152 :: y153 :: y154 :: y155 :: y156 :: y157 :: y158 :: y159 :: y160 :: y161 :: y162 :: y163 :: y164 :: y165 :: y166 :: y167 :: y168 :: y169 :: y170 :: y171 :: y172 :: y173 :: y174 :: y175 :: y176 :: y177 :: y178 :: y179 :: y180 :: y181 :: y182 :: y183 :: y184 :: y185 :: y186 :: y187 :: y188 :: y189 :: y190 :: y191 :: y192 :: y193 :: y194 :: y195 :: y196 :: y197 :: y198 :: y199 :: y200 :: y201 :: y202 :: y203 :: y204 :: y205 :: y206 :: y207 :: y208 :: y209 :: y210 :: y211 :: y212 :: y213 :: y214 :: y215 :: y216 :: y217 :: y218 :: y219 :: y220 :: y221 :: y222 :: []), []⟩ w2 := by
  have HR : Hid _ := hR
  clear hR
  have BR : Hid (∀ (n : Int) (w : World), w.cell? ⟨0, 0, none⟩ = some (.iface 186 (.agg #[.pointer (some ⟨1, 25, none⟩)])) → Calls Tryz.prog 6 #[errV n, .int .i64 n] w fun e w' => e = .returned (.bool true) ∧ Below w.heap.size w w') := fun n w h => sameErr_errV' n w h
  have : True := by have := HI; have := h0; have := h2; have := HWk; have := HKW; have := HG; have := BR; trivial
  clear this
  conv => arg 2; whnf
  have hi : az.toNat < 2 := by omega
  have T0 := T2.later ((Below.refl _ w2).drew)
  have H0 := H2.later ((Below.refl _ w2).drew)
  have hbD := hb2.drew
  obtain ⟨be, hbe⟩ : ∃ be, begE (S az.toNat) s = be := ⟨_, rfl⟩
  obtain ⟨s', hs'⟩ : ∃ s', begS (S az.toNat) s = s' := ⟨_, rfl⟩
  have HI1 : Hid (SInv (k + 1) S s') := by show SInv _ _ _; rw [← hs']; exact (HI.out.1.mono (Nat.le_succ k)).ses (by rw [beg_p0]; exact HI.out.1.p0) (by have := beg_ws (S := S az.toNat) (s := s); have := HI.out.1.ln; omega)
  have CP : Hid (∀ (w' : World) (sr : SesS), Six w' bp br bs cs S S s sr (SX w.heap.size b5 b6 xb) 6 NoY → Calls Tryz.prog 32 #[.pointer (some ⟨bs, 0, none⟩), .pointer (some ⟨bp az.toNat, 0, none⟩)] w' fun e w'' => e = .returned (errV be) ∧ Six w'' bp br bs cs S S s' sr (SX w.heap.size b5 b6 xb) 6 NoY ∧ Keeps (SX w.heap.size b5 b6 xb) w' w'') := fun w' sr h => by
    have := six_begin hi h
    rw [hbe, hs'] at this
    exact this
  have CR : Hid (∀ (w' : World) (sp : SesS), Six w' bp br bs cs S S sp s (SX w.heap.size b5 b6 xb) 6 NoY → Calls Tryz.prog 33 #[.pointer (some ⟨cs, 0, none⟩), .pointer (some ⟨br az.toNat, 0, none⟩)] w' fun e w'' => e = .returned (.int .i64 be) ∧ Six w'' bp br bs cs S S sp s' (SX w.heap.size b5 b6 xb) 6 NoY ∧ Keeps (SX w.heap.size b5 b6 xb) w' w'') := fun w' sp h => by
    have := six_rbegin hi h
    rw [hbe, hs'] at this
    exact this
  clear hbe hs'
  have Y5 := fun (w' : World) (h : SH b5 b6 xb bp br [.int .i64 0, .int .i64 tsi, .int .i64 key, .int .i64 now, .int .i64 xk, .string xd, .bool xg, .int .i64 site, .int .i64 seq, .int .i64 wall, .int .i64 count, .int .i64 d0, .int .i64 d1, .int .i64 d2, .int .i64 d3, .slice ta ws.length tcap] w') => h.r5.cell _ _ (ptrs_at h0 h2 bp)
  have Y6 := fun (w' : World) (h : SH b5 b6 xb bp br [.int .i64 0, .int .i64 tsi, .int .i64 key, .int .i64 now, .int .i64 xk, .string xd, .bool xg, .int .i64 site, .int .i64 seq, .int .i64 wall, .int .i64 count, .int .i64 d0, .int .i64 d1, .int .i64 d2, .int .i64 d3, .slice ta ws.length tcap] w') => h.r6.cell _ _ (ptrs_at h0 h2 br)
  go_wp2_with fail
  go_region_held3 (fun w' => SH b5 b6 xb bp br [.int .i64 0, .int .i64 tsi, .int .i64 key, .int .i64 now, .int .i64 xk, .string xd, .bool xg, .int .i64 site, .int .i64 seq, .int .i64 wall, .int .i64 count, .int .i64 d0, .int .i64 d1, .int .i64 d2, .int .i64 d3, .slice ta ws.length tcap] w') (with_reducible assumption)
    (first
      | (go_at_call 32; (with_reducible refine (CP.out _ _ T0).mono ?_); rintro e wA ⟨rfl, TA, KA⟩; have HA := H0.keeps KA (fun j h => .inr h); have hbA := hbD.trans (KA.below (fun k hk => .inl hk)))
      | (go_at_call 33; (with_reducible refine (CR.out _ _ TA).mono ?_); rintro e wB ⟨rfl, TB, KB⟩; have HB := HA.keeps KB (fun j h => .inr h); have hbB := hbA.trans (KB.below (fun k hk => .inl hk)))
      | (go_at_call 33; (with_reducible refine (CR.out _ _ T0).mono ?_); rintro e wA ⟨rfl, TA, KA⟩; have HA := H0.keeps KA (fun j h => .inr h); have hbA := hbD.trans (KA.below (fun k hk => .inl hk)))
      | (go_at_call 32; (with_reducible refine (CP.out _ _ TA).mono ?_); rintro e wB ⟨rfl, TB, KB⟩; have HB := HA.keeps KB (fun j h => .inr h); have hbB := hbA.trans (KB.below (fun k hk => .inl hk)))
      | (go_at_call 6; (with_reducible refine (BR.out _ _ (cell_later hbB HG.out)).mono ?_); rintro e wc ⟨rfl, hbc⟩; have TC := TB.later hbc; have HC := HB.later hbc; have hbC := behind hbB hbc))
  all_goals
    have MID : SesMid bp br bs cs b5 b6 xb k w wc := ⟨_, _, TC, HC.r5, HC.r6, HI1, hbC⟩
    clear Y5 Y6 T0 H0 hbD TA KA HA hbA TB KB HB hbB hbc TC HC hbC
    go_wp2_with fail
    exact HR.out _ _ _ _ _ _ _ _ _ _ _ _ _ _ _ _ _ _ _ _ _ _ _ _ _ _ _ _ _ _ _ _ _ _ _ _ _ _ _ _ _ _ _ _ _ _ _ _ _ _ _ _ _ _ _ _ _ _ _ _ _ _ _ _ _ _ _ _ _ _ _ _ _ _ _ _ _ _ _ _ _ _ _ _ _ _ _ _ _ _ _ _ _ _ _ _ _ _ _ _ _ _ _ _ _ _ _ _ _ _ _ _ _ _ _ _ _ _ _ _ _ _ MID

end Go.Proofs.YtpncedpfoakfkaaGreatDoor

namespace Go.Proofs.YtpncedpfoakfkaaGreatDoor
open Go.RowKit

set_option maxRecDepth 1000000 in
set_option maxHeartbeats 16000000 in
theorem sesSw_1 {bp br : Nat → Nat} {bs cs b5 b6 xb k : Nat} {S : Nat → SiteS} {s : SesS} {az tsi key now xk site seq wall count d0 d1 d2 d3 : Int} {xd : ByteArray} {xg : Bool} {ws : List Wr} {ta : Option Addr} {tcap : Nat} {y0 y1 y2 y7 y8 y9 y11 y13 y14 y15 y16 y17 y18 y19 y20 y21 y22 y23 y24 y25 y26 y27 y28 y29 y30 y31 y32 y33 y34 y35 y36 y37 y38 y39 y40 y41 y42 y43 y44 y45 y46 y47 y48 y49 y50 y51 y52 y53 y54 y55 y56 y57 y58 y59 y60 y61 y62 y63 y64 y65 y66 y67 y68 y69 y70 y71 y72 y73 y74 y75 y76 y77 y78 y79 y80 y81 y82 y83 y85 y86 y87 y88 y89 y90 y91 y92 y93 y94 y95 y96 y97 y98 y99 y100 y101 y102 y103 y104 y105 y106 y107 y108 y109 y110 y111 y112 y113 y114 y115 y116 y117 y118 y119 y120 y121 y122 y123 y124 y125 y126 y127 y128 y129 y130 y131 y132 y133 y134 y135 y136 y137 y138 y139 y140 y141 y142 y143 y144 y145 y146 y147 y148 y149 y150 y151 y152 y153 y154 y155 y156 y157 y158 y159 y160 y161 y162 y163 y164 y165 y166 y167 y168 y169 y170 y171 y172 y173 y174 y175 y176 y177 y178 y179 y180 y181 y182 y183 y184 y185 y186 y187 y188 y189 y190 y191 y192 y193 y194 y195 y196 y197 y198 y199 y200 y201 y202 y203 y204 y205 y206 y207 y208 y209 y210 y211 y212 y213 y214 y215 y216 y217 y218 y219 y220 y221 y222 : Value} (w w2 : World) (T2 : Six w2 bp br bs cs S S s s (SX w.heap.size b5 b6 xb) 6 NoY) (H2 : SH b5 b6 xb bp br [.int .i64 1, .int .i64 tsi, .int .i64 key, .int .i64 now, .int .i64 xk, .string xd, .bool xg, .int .i64 site, .int .i64 seq, .int .i64 wall, .int .i64 count, .int .i64 d0, .int .i64 d1, .int .i64 d2, .int .i64 d3, .slice ta ws.length tcap] w2) (hb2 : Below w.heap.size w w2) (HI : Hid (SInv k S s ∧ k ≤ 80)) (h0 : 0 ≤ az) (h2 : az < 2)
    (HWk : Hid (WrIn w ta tcap ws)) (HKW : Hid ((Lit.int .i64 key).wf = true)) (HG : Hid (w.cell? ⟨0, 0, none⟩ = some (.iface 186 (.agg #[.pointer (some ⟨1, 25, none⟩)])))) (R : Act → World → Prop)
    (hR : ∀ (u13 u14 u15 u16 u17 u18 u19 u20 u85 u86 u87 u88 u89 u90 u91 u92 u93 u94 u95 u96 u97 u98 u99 u100 u101 u102 u103 u104 u105 u106 u107 u108 u109 u110 u111 u112 u113 u114 u115 u116 u117 u118 u119 u120 u121 u122 u123 u124 u125 u126 u127 u128 u129 u130 u131 u132 u133 u134 u135 u136 u137 u138 u139 u140 u141 u142 u143 u144 u145 u146 u147 u148 u149 u150 u151 u152 u153 u154 u155 u156 u157 u158 u159 u160 u161 u162 u163 u164 u165 u166 u167 u168 u169 u170 u171 u172 u173 u174 u175 u176 u177 u178 u179 u180 u181 u182 u183 u184 u185 u186 u187 u188 u189 u190 u191 u192 u193 u194 u195 u196 u197 : Value) (wc : World), SesMid bp br bs cs b5 b6 xb k w wc → R ⟨List.toArray (y0 :: y1 :: y2 :: (.pointer (some ⟨bs, 0, none⟩)) :: (.pointer (some ⟨cs, 0, none⟩)) :: (.pointer (some ⟨b5, 0, none⟩)) :: (.pointer (some ⟨b6, 0, none⟩)) :: y7 :: y8 :: y9 :: (.int .i64 az) :: y11 :: (.pointer (some ⟨xb, 0, none⟩)) :: u13 :: u14 :: u15 :: u16 :: u17 :: u18 :: u19 :: u20 :: y21 :: y22 :: y23 :: y24 :: y25 :: y26 :: y27 :: y28 :: y29 :: y30 :: y31 :: y32 :: y33 :: y34 :: y35 :: y36 :: y37 :: y38 :: y39 :: y40 :: y41 :: y42 :: y43 :: y44 :: y45 :: y46 :: y47 :: y48 :: y49 :: y50 :: y51 :: y52 :: y53 :: y54 :: y55 :: y56 :: y57 :: y58 :: y59 :: y60 :: y61 :: y62 :: y63 :: y64 :: y65 :: y66 :: y67 :: y68 :: y69 :: y70 :: y71 :: y72 :: y73 :: y74 :: y75 :: y76 :: y77 :: y78 :: y79 :: y80 :: y81 :: y82 :: y83 :: (.int .i64 1) :: u85 :: u86 :: u87 :: u88 :: u89 :: u90 :: u91 :: u92 :: u93 :: u94 :: u95 :: u96 :: u97 :: u98 :: u99 :: u100 :: u101 :: u102 :: u103 :: u104 :: u105 :: u106 :: u107 :: u108 :: u109 :: u110 :: u111 :: u112 :: u113 :: u114 :: u115 :: u116 :: u117 :: u118 :: u119 :: u120 :: u121 :: u122 :: u123 :: u124 :: u125 :: u126 :: u127 :: u128 :: u129 :: u130 :: u131 :: u132 :: u133 :: u134 :: u135 :: u136 :: u137 :: u138 :: u139 :: u140 :: u141 :: u142 :: u143 :: u144 :: u145 :: u146 :: u147 :: u148 :: u149 :: u150 :: u151 :: u152 :: u153 :: u154 :: u155 :: u156 :: u157 :: u158 :: u159 :: u160 :: u161 :: u162 :: u163 :: u164 :: u165 :: u166 :: u167 :: u168 :: u169 :: u170 :: u171 :: u172 :: u173 :: u174 :: u175 :: u176 :: u177 :: u178 :: u179 :: u180 :: u181 :: u182 :: u183 :: u184 :: u185 :: u186 :: u187 :: u188 :: u189 :: u190 :: u191 :: u192 :: u193 :: u194 :: u195 :: u196 :: u197 :: y198 :: y199 :: y200 :: y201 :: y202 :: y203 :: y204 :: y205 :: y206 :: y207 :: y208 :: y209 :: y210 :: y211 :: y212 :: y213 :: y214 :: y215 :: y216 :: y217 :: y218 :: y219 :: y220 :: y221 :: y222 :: []), []⟩ wc) :
    Code.wp Tryz.prog sesSw (Exit.then R (fun _ _ _ => False)) ⟨List.toArray (y0 :: y1 :: y2 :: (.pointer (some ⟨bs, 0, none⟩)) :: (.pointer (some ⟨cs, 0, none⟩)) :: (.pointer (some ⟨b5, 0, none⟩)) :: (.pointer (some ⟨b6, 0, none⟩)) :: y7 :: y8 :: y9 :: (.int .i64 az) :: y11 :: (.pointer (some ⟨xb, 0, none⟩)) :: y13 :: y14 :: y15 :: y16 :: y17 :: y18 :: y19 :: y20 :: y21 :: y22 :: y23 :: y24 :: y25 :: y26 :: y27 :: y28 :: y29 :: y30 :: y31 :: y32 :: y33 :: y34 :: y35 :: y36 :: y37 :: y38 :: y39 :: y40 :: y41 :: y42 :: y43 :: y44 :: y45 :: y46 :: y47 :: y48 :: y49 :: y50 :: y51 :: y52 :: y53 :: y54 :: y55 :: y56 :: y57 :: y58 :: y59 :: y60 :: y61 :: y62 :: y63 :: y64 :: y65 :: y66 :: y67 :: y68 :: y69 :: y70 :: y71 :: y72 :: y73 :: y74 :: y75 :: y76 :: y77 :: y78 :: y79 :: y80 :: y81 :: y82 :: y83 :: (.int .i64 1) :: y85 :: y86 :: y87 :: y88 :: y89 :: y90 :: y91 :: y92 :: y93 :: y94 :: y95 :: y96 :: y97 :: y98 :: y99 :: y100 :: y101 :: y102 :: y103 :: y104 :: y105 :: y106 :: y107 :: y108 :: y109 :: y110 :: y111 :: y112 :: y113 :: y114 :: y115 :: y116 :: y117 :: y118 :: y119 :: y120 :: y121 :: y122 :: y123 :: y124 :: y125 :: y126 :: y127 :: y128 :: y129 :: y130 :: y131 :: y132 :: y133 :: y134 :: y135 :: y136 :: y137 :: y138 :: y139 :: y140 :: y141 :: y142 :: y143 :: y144 :: y145 :: y146 :: y147 :: y148 :: y149 :: y150 :: y151 :: y152 :: y153 :: y154 :: y155 :: y156 :: y157 :: y158 :: y159 :: y160 :: y161 :: y162 :: y163 :: y164 :: y165 :: y166 :: y167 :: y168 :: y169 :: y170 :: y171 :: y172 :: y173 :: y174 :: y175 :: y176 :: y177 :: y178 :: y179 :: y180 :: y181 :: y182 :: y183 :: y184 :: y185 :: y186 :: y187 :: y188 :: y189 :: y190 :: y191 :: y192 :: y193 :: y194 :: y195 :: y196 :: y197 :: y198 :: y199 :: y200 :: y201 :: y202 :: y203 :: y204 :: y205 :: y206 :: y207 :: y208 :: y209 :: y210 :: y211 :: y212 :: y213 :: y214 :: y215 :: y216 :: y217 :: y218 :: y219 :: y220 :: y221 :: y222 :: []), []⟩ w2 := by
  have HR : Hid _ := hR
  clear hR
  have BR : Hid (∀ (n : Int) (w : World), w.cell? ⟨0, 0, none⟩ = some (.iface 186 (.agg #[.pointer (some ⟨1, 25, none⟩)])) → Calls Tryz.prog 6 #[errV n, .int .i64 n] w fun e w' => e = .returned (.bool true) ∧ Below w.heap.size w w') := fun n w h => sameErr_errV' n w h
  have : True := by have := HI; have := h0; have := h2; have := HWk; have := HKW; have := HG; have := BR; trivial
  clear this
  conv => arg 2; whnf
  have hi : az.toNat < 2 := by omega
  have hne := Later.one
  obtain ⟨⟨rv, re⟩, hrd⟩ : ∃ x, sreadV (S az.toNat) s key = x := ⟨_, rfl⟩
  have HI1 : Hid (SInv (k + 1) S s) := HI.out.1.mono (Nat.le_succ k)
  have CR : Hid (∀ (w' : World), Six w' bp br bs cs S S s s (SX w.heap.size b5 b6 xb) 6 NoY → Calls Tryz.prog 34 #[.pointer (some ⟨cs, 0, none⟩), .pointer (some ⟨br az.toNat, 0, none⟩), .int .i64 key] w' fun e w'' => e = .returned (.tuple #[.string rv, .int .i64 re]) ∧ Below w'.heap.size w' w'') := fun w' h => by
    have := six_rread key hi h (HI.out.1.i0 _ hi)
    rw [hrd] at this
    exact this
  have CP : Hid (∀ (w' : World), Six w' bp br bs cs S S s s (SX w.heap.size b5 b6 xb) 6 NoY → Calls Tryz.prog 35 #[.pointer (some ⟨bs, 0, none⟩), .pointer (some ⟨bp az.toNat, 0, none⟩), .int .i64 key] w' fun e w'' => e = .returned (.tuple #[.string rv, errV re]) ∧ Below w'.heap.size w' w'') := fun w' h => by
    have := six_read key HKW.out hi h (HI.out.1.i0 _ hi)
    rw [hrd] at this
    exact this
  have HT2 : Hid (Six w2 bp br bs cs S S s s (SX w.heap.size b5 b6 xb) 6 NoY) := T2
  clear hrd T2
  have l6 := Later.cell (H2.r6.cell _ _ (ptrs_at h0 h2 br))
  have lx := Later.cell (H2.x.cell 2 _ rfl)
  go_wp2_with fail
  refine wp_region_later (by kernel_rfl) (by kernel_rfl) ?_
  repeat (go_big_quiet_step (first | rfl | (go_at_call 34; with_reducible exact calls_later (CR.out _ (HT2.out.later (Later.below _))))))
  refine wpQuiet_nil ?_
  rintro w3 ⟨⟨_, hb3⟩, rfl⟩
  have HT3 : Hid (Six w3 bp br bs cs S S s s (SX w.heap.size b5 b6 xb) 6 NoY) := HT2.out.later hb3
  have H3 := H2.later hb3
  clear l6 lx
  have l5 := Later.cell (H3.r5.cell _ _ (ptrs_at h0 h2 bp))
  have lx := Later.cell (H3.x.cell 2 _ rfl)
  go_wp2_with fail
  refine wp_region_later (by kernel_rfl) (by kernel_rfl) ?_
  repeat (go_big_quiet_step (first | rfl | (go_at_call 35; with_reducible exact calls_later (CP.out _ (HT3.out.later (Later.below _))))))
  refine wpQuiet_nil ?_
  rintro w4 ⟨⟨_, hb4⟩, rfl⟩
  have T4 := HT3.out.later hb4
  have H4 := H3.later hb4
  have hbw := behind (behind hb2 hb3) hb4
  clear l5 lx
  have BB := BR.out re _ (cell_later hbw HG.out)
  go_wp2_with fail
  refine BB.mono ?_
  rintro e w5 ⟨rfl, hb5⟩
  have MID : SesMid bp br bs cs b5 b6 xb k w w5 := ⟨_, _, T4.later hb5, (H4.later hb5).r5, (H4.later hb5).r6, HI1, behind hbw hb5⟩
  clear T4 H4 hbw BB hb5 HT2 HT3 H3 hb3 hb4
  go_wp2_with fail
  exact HR.out _ _ _ _ _ _ _ _ _ _ _ _ _ _ _ _ _ _ _ _ _ _ _ _ _ _ _ _ _ _ _ _ _ _ _ _ _ _ _ _ _ _ _ _ _ _ _ _ _ _ _ _ _ _ _ _ _ _ _ _ _ _ _ _ _ _ _ _ _ _ _ _ _ _ _ _ _ _ _ _ _ _ _ _ _ _ _ _ _ _ _ _ _ _ _ _ _ _ _ _ _ _ _ _ _ _ _ _ _ _ _ _ _ _ _ _ _ _ _ _ _ _ MID

end Go.Proofs.YtpncedpfoakfkaaGreatDoor

namespace Go.Proofs.YtpncedpfoakfkaaGreatDoor
open Go.RowKit

set_option maxRecDepth 1000000 in
set_option maxHeartbeats 16000000 in
theorem sesSw_4 {bp br : Nat → Nat} {bs cs b5 b6 xb k : Nat} {S : Nat → SiteS} {s : SesS} {az tsi key now xk site seq wall count d0 d1 d2 d3 : Int} {xd : ByteArray} {xg : Bool} {ws : List Wr} {ta : Option Addr} {tcap : Nat} {y0 y1 y2 y7 y8 y9 y11 y13 y14 y15 y16 y17 y18 y19 y20 y21 y22 y23 y24 y25 y26 y27 y28 y29 y30 y31 y32 y33 y34 y35 y36 y37 y38 y39 y40 y41 y42 y43 y44 y45 y46 y47 y48 y49 y50 y51 y52 y53 y54 y55 y56 y57 y58 y59 y60 y61 y62 y63 y64 y65 y66 y67 y68 y69 y70 y71 y72 y73 y74 y75 y76 y77 y78 y79 y80 y81 y82 y83 y85 y86 y87 y88 y89 y90 y91 y92 y93 y94 y95 y96 y97 y98 y99 y100 y101 y102 y103 y104 y105 y106 y107 y108 y109 y110 y111 y112 y113 y114 y115 y116 y117 y118 y119 y120 y121 y122 y123 y124 y125 y126 y127 y128 y129 y130 y131 y132 y133 y134 y135 y136 y137 y138 y139 y140 y141 y142 y143 y144 y145 y146 y147 y148 y149 y150 y151 y152 y153 y154 y155 y156 y157 y158 y159 y160 y161 y162 y163 y164 y165 y166 y167 y168 y169 y170 y171 y172 y173 y174 y175 y176 y177 y178 y179 y180 y181 y182 y183 y184 y185 y186 y187 y188 y189 y190 y191 y192 y193 y194 y195 y196 y197 y198 y199 y200 y201 y202 y203 y204 y205 y206 y207 y208 y209 y210 y211 y212 y213 y214 y215 y216 y217 y218 y219 y220 y221 y222 : Value} (w w2 : World) (T2 : Six w2 bp br bs cs S S s s (SX w.heap.size b5 b6 xb) 6 NoY) (H2 : SH b5 b6 xb bp br [.int .i64 4, .int .i64 tsi, .int .i64 key, .int .i64 now, .int .i64 xk, .string xd, .bool xg, .int .i64 site, .int .i64 seq, .int .i64 wall, .int .i64 count, .int .i64 d0, .int .i64 d1, .int .i64 d2, .int .i64 d3, .slice ta ws.length tcap] w2) (hb2 : Below w.heap.size w w2) (HI : Hid (SInv k S s ∧ k ≤ 80)) (h0 : 0 ≤ az) (h2 : az < 2)
    (HWk : Hid (WrIn w ta tcap ws)) (HKW : Hid ((Lit.int .i64 key).wf = true)) (HG : Hid (w.cell? ⟨0, 0, none⟩ = some (.iface 186 (.agg #[.pointer (some ⟨1, 25, none⟩)])))) (R : Act → World → Prop)
    (hR : ∀ (u13 u14 u15 u16 u17 u18 u19 u20 u85 u86 u87 u88 u89 u90 u91 u92 u93 u94 u95 u96 u97 u98 u99 u100 u101 u102 u103 u104 u105 u106 u107 u108 u109 u110 u111 u112 u113 u114 u115 u116 u117 u118 u119 u120 u121 u122 u123 u124 u125 u126 u127 u128 u129 u130 u131 u132 u133 u134 u135 u136 u137 u138 u139 u140 u141 u142 u143 u144 u145 u146 u147 u148 u149 u150 u151 u152 u153 u154 u155 u156 u157 u158 u159 u160 u161 u162 u163 u164 u165 u166 u167 u168 u169 u170 u171 u172 u173 u174 u175 u176 u177 u178 u179 u180 u181 u182 u183 u184 u185 u186 u187 u188 u189 u190 u191 u192 u193 u194 u195 u196 u197 : Value) (wc : World), SesMid bp br bs cs b5 b6 xb k w wc → R ⟨List.toArray (y0 :: y1 :: y2 :: (.pointer (some ⟨bs, 0, none⟩)) :: (.pointer (some ⟨cs, 0, none⟩)) :: (.pointer (some ⟨b5, 0, none⟩)) :: (.pointer (some ⟨b6, 0, none⟩)) :: y7 :: y8 :: y9 :: (.int .i64 az) :: y11 :: (.pointer (some ⟨xb, 0, none⟩)) :: u13 :: u14 :: u15 :: u16 :: u17 :: u18 :: u19 :: u20 :: y21 :: y22 :: y23 :: y24 :: y25 :: y26 :: y27 :: y28 :: y29 :: y30 :: y31 :: y32 :: y33 :: y34 :: y35 :: y36 :: y37 :: y38 :: y39 :: y40 :: y41 :: y42 :: y43 :: y44 :: y45 :: y46 :: y47 :: y48 :: y49 :: y50 :: y51 :: y52 :: y53 :: y54 :: y55 :: y56 :: y57 :: y58 :: y59 :: y60 :: y61 :: y62 :: y63 :: y64 :: y65 :: y66 :: y67 :: y68 :: y69 :: y70 :: y71 :: y72 :: y73 :: y74 :: y75 :: y76 :: y77 :: y78 :: y79 :: y80 :: y81 :: y82 :: y83 :: (.int .i64 4) :: u85 :: u86 :: u87 :: u88 :: u89 :: u90 :: u91 :: u92 :: u93 :: u94 :: u95 :: u96 :: u97 :: u98 :: u99 :: u100 :: u101 :: u102 :: u103 :: u104 :: u105 :: u106 :: u107 :: u108 :: u109 :: u110 :: u111 :: u112 :: u113 :: u114 :: u115 :: u116 :: u117 :: u118 :: u119 :: u120 :: u121 :: u122 :: u123 :: u124 :: u125 :: u126 :: u127 :: u128 :: u129 :: u130 :: u131 :: u132 :: u133 :: u134 :: u135 :: u136 :: u137 :: u138 :: u139 :: u140 :: u141 :: u142 :: u143 :: u144 :: u145 :: u146 :: u147 :: u148 :: u149 :: u150 :: u151 :: u152 :: u153 :: u154 :: u155 :: u156 :: u157 :: u158 :: u159 :: u160 :: u161 :: u162 :: u163 :: u164 :: u165 :: u166 :: u167 :: u168 :: u169 :: u170 :: u171 :: u172 :: u173 :: u174 :: u175 :: u176 :: u177 :: u178 :: u179 :: u180 :: u181 :: u182 :: u183 :: u184 :: u185 :: u186 :: u187 :: u188 :: u189 :: u190 :: u191 :: u192 :: u193 :: u194 :: u195 :: u196 :: u197 :: y198 :: y199 :: y200 :: y201 :: y202 :: y203 :: y204 :: y205 :: y206 :: y207 :: y208 :: y209 :: y210 :: y211 :: y212 :: y213 :: y214 :: y215 :: y216 :: y217 :: y218 :: y219 :: y220 :: y221 :: y222 :: []), []⟩ wc) :
    Code.wp Tryz.prog sesSw (Exit.then R (fun _ _ _ => False)) ⟨List.toArray (y0 :: y1 :: y2 :: (.pointer (some ⟨bs, 0, none⟩)) :: (.pointer (some ⟨cs, 0, none⟩)) :: (.pointer (some ⟨b5, 0, none⟩)) :: (.pointer (some ⟨b6, 0, none⟩)) :: y7 :: y8 :: y9 :: (.int .i64 az) :: y11 :: (.pointer (some ⟨xb, 0, none⟩)) :: y13 :: y14 :: y15 :: y16 :: y17 :: y18 :: y19 :: y20 :: y21 :: y22 :: y23 :: y24 :: y25 :: y26 :: y27 :: y28 :: y29 :: y30 :: y31 :: y32 :: y33 :: y34 :: y35 :: y36 :: y37 :: y38 :: y39 :: y40 :: y41 :: y42 :: y43 :: y44 :: y45 :: y46 :: y47 :: y48 :: y49 :: y50 :: y51 :: y52 :: y53 :: y54 :: y55 :: y56 :: y57 :: y58 :: y59 :: y60 :: y61 :: y62 :: y63 :: y64 :: y65 :: y66 :: y67 :: y68 :: y69 :: y70 :: y71 :: y72 :: y73 :: y74 :: y75 :: y76 :: y77 :: y78 :: y79 :: y80 :: y81 :: y82 :: y83 :: (.int .i64 4) :: y85 :: y86 :: y87 :: y88 :: y89 :: y90 :: y91 :: y92 :: y93 :: y94 :: y95 :: y96 :: y97 :: y98 :: y99 :: y100 :: y101 :: y102 :: y103 :: y104 :: y105 :: y106 :: y107 :: y108 :: y109 :: y110 :: y111 :: y112 :: y113 :: y114 :: y115 :: y116 :: y117 :: y118 :: y119 :: y120 :: y121 :: y122 :: y123 :: y124 :: y125 :: y126 :: y127 :: y128 :: y129 :: y130 :: y131 :: y132 :: y133 :: y134 :: y135 :: y136 :: y137 :: y138 :: y139 :: y140 :: y141 :: y142 :: y143 :: y144 :: y145 :: y146 :: y147 :: y148 :: y149 :: y150 :: y151 :: y152 :: y153 :: y154 :: y155 :: y156 :: y157 :: y158 :: y159 :: y160 :: y161 :: y162 :: y163 :: y164 :: y165 :: y166 :: y167 :: y168 :: y169 :: y170 :: y171 :: y172 :: y173 :: y174 :: y175 :: y176 :: y177 :: y178 :: y179 :: y180 :: y181 :: y182 :: y183 :: y184 :: y185 :: y186 :: y187 :: y188 :: y189 :: y190 :: y191 :: y192 :: y193 :: y194 :: y195 :: y196 :: y197 :: y198 :: y199 :: y200 :: y201 :: y202 :: y203 :: y204 :: y205 :: y206 :: y207 :: y208 :: y209 :: y210 :: y211 :: y212 :: y213 :: y214 :: y215 :: y216 :: y217 :: y218 :: y219 :: y220 :: y221 :: y222 :: []), []⟩ w2 := by
  have HR : Hid _ := hR
  clear hR
  have BR : Hid (∀ (n : Int) (w : World), w.cell? ⟨0, 0, none⟩ = some (.iface 186 (.agg #[.pointer (some ⟨1, 25, none⟩)])) → Calls Tryz.prog 6 #[errV n, .int .i64 n] w fun e w' => e = .returned (.bool true) ∧ Below w.heap.size w w') := fun n w h => sameErr_errV' n w h
  have : True := by have := HI; have := h0; have := h2; have := HWk; have := HKW; have := HG; have := BR; trivial
  clear this
  conv => arg 2; whnf
  obtain ⟨be, hbe⟩ : ∃ be, aboE s = be := ⟨_, rfl⟩
  obtain ⟨s', hs'⟩ : ∃ s', aboS s = s' := ⟨_, rfl⟩
  have HI1 : Hid (SInv (k + 1) S s') := by show SInv _ _ _; rw [← hs']; exact (HI.out.1.mono (Nat.le_succ k)).ses (abo_p0 HI.out.1.p0) (by have := abo_ws (s := s); have := HI.out.1.ln; omega)
  have CP := six_abort T2
  rw [hbe, hs'] at CP
  go_wp2_with fail
  refine CP.mono ?_
  rintro e w3 ⟨rfl, T3, K3⟩
  have H3 := H2.keeps K3 (fun j h => .inr h)
  have hb3 := hb2.trans (K3.below (fun k hk => .inl hk))
  have CR := six_rabort T3
  rw [hbe, hs'] at CR
  clear CP hbe hs'
  go_wp2_with fail
  refine CR.mono ?_
  rintro e w4 ⟨rfl, T4, K4⟩
  have H4 := H3.keeps K4 (fun j h => .inr h)
  have hb4 := hb3.trans (K4.below (fun k hk => .inl hk))
  have BB := BR.out be _ (cell_later hb4 HG.out)
  clear CR
  go_wp2_with fail
  refine BB.mono ?_
  rintro e w5 ⟨rfl, hb5⟩
  have MID : SesMid bp br bs cs b5 b6 xb k w w5 := ⟨_, _, T4.later hb5, (H4.later hb5).r5, (H4.later hb5).r6, HI1, behind hb4 hb5⟩
  clear T3 K3 H3 hb3 T4 K4 H4 hb4 BB hb5
  go_wp2_with fail
  exact HR.out _ _ _ _ _ _ _ _ _ _ _ _ _ _ _ _ _ _ _ _ _ _ _ _ _ _ _ _ _ _ _ _ _ _ _ _ _ _ _ _ _ _ _ _ _ _ _ _ _ _ _ _ _ _ _ _ _ _ _ _ _ _ _ _ _ _ _ _ _ _ _ _ _ _ _ _ _ _ _ _ _ _ _ _ _ _ _ _ _ _ _ _ _ _ _ _ _ _ _ _ _ _ _ _ _ _ _ _ _ _ _ _ _ _ _ _ _ _ _ _ _ _ MID

end Go.Proofs.YtpncedpfoakfkaaGreatDoor

namespace Go.Proofs.YtpncedpfoakfkaaGreatDoor
open Go.RowKit

set_option maxRecDepth 1000000 in
set_option maxHeartbeats 16000000 in
theorem sesSw_x {bp br : Nat → Nat} {bs cs b5 b6 xb k : Nat} {S : Nat → SiteS} {s : SesS} {az tsi key now xk site seq wall count d0 d1 d2 d3 what : Int} {xd : ByteArray} {xg : Bool} {ws : List Wr} {ta : Option Addr} {tcap : Nat} {y0 y1 y2 y7 y8 y9 y11 y13 y14 y15 y16 y17 y18 y19 y20 y21 y22 y23 y24 y25 y26 y27 y28 y29 y30 y31 y32 y33 y34 y35 y36 y37 y38 y39 y40 y41 y42 y43 y44 y45 y46 y47 y48 y49 y50 y51 y52 y53 y54 y55 y56 y57 y58 y59 y60 y61 y62 y63 y64 y65 y66 y67 y68 y69 y70 y71 y72 y73 y74 y75 y76 y77 y78 y79 y80 y81 y82 y83 y85 y86 y87 y88 y89 y90 y91 y92 y93 y94 y95 y96 y97 y98 y99 y100 y101 y102 y103 y104 y105 y106 y107 y108 y109 y110 y111 y112 y113 y114 y115 y116 y117 y118 y119 y120 y121 y122 y123 y124 y125 y126 y127 y128 y129 y130 y131 y132 y133 y134 y135 y136 y137 y138 y139 y140 y141 y142 y143 y144 y145 y146 y147 y148 y149 y150 y151 y152 y153 y154 y155 y156 y157 y158 y159 y160 y161 y162 y163 y164 y165 y166 y167 y168 y169 y170 y171 y172 y173 y174 y175 y176 y177 y178 y179 y180 y181 y182 y183 y184 y185 y186 y187 y188 y189 y190 y191 y192 y193 y194 y195 y196 y197 y198 y199 y200 y201 y202 y203 y204 y205 y206 y207 y208 y209 y210 y211 y212 y213 y214 y215 y216 y217 y218 y219 y220 y221 y222 : Value} (w w2 : World) (T2 : Six w2 bp br bs cs S S s s (SX w.heap.size b5 b6 xb) 6 NoY) (H2 : SH b5 b6 xb bp br [.int .i64 what, .int .i64 tsi, .int .i64 key, .int .i64 now, .int .i64 xk, .string xd, .bool xg, .int .i64 site, .int .i64 seq, .int .i64 wall, .int .i64 count, .int .i64 d0, .int .i64 d1, .int .i64 d2, .int .i64 d3, .slice ta ws.length tcap] w2) (hb2 : Below w.heap.size w w2) (HI : Hid (SInv k S s ∧ k ≤ 80)) (h0 : 0 ≤ az) (h2 : az < 2)
    (HWk : Hid (WrIn w ta tcap ws)) (HKW : Hid ((Lit.int .i64 key).wf = true)) (HG : Hid (w.cell? ⟨0, 0, none⟩ = some (.iface 186 (.agg #[.pointer (some ⟨1, 25, none⟩)])))) (hw0 : ¬ what = 0) (hw1 : ¬ what = 1) (hw2 : ¬ what = 2) (hw3 : ¬ what = 3) (hw4 : ¬ what = 4) (hw5 : ¬ what = 5) (R : Act → World → Prop)
    (hR : ∀ (u13 u14 u15 u16 u17 u18 u19 u20 u85 u86 u87 u88 u89 u90 u91 u92 u93 u94 u95 u96 u97 u98 u99 u100 u101 u102 u103 u104 u105 u106 u107 u108 u109 u110 u111 u112 u113 u114 u115 u116 u117 u118 u119 u120 u121 u122 u123 u124 u125 u126 u127 u128 u129 u130 u131 u132 u133 u134 u135 u136 u137 u138 u139 u140 u141 u142 u143 u144 u145 u146 u147 u148 u149 u150 u151 u152 u153 u154 u155 u156 u157 u158 u159 u160 u161 u162 u163 u164 u165 u166 u167 u168 u169 u170 u171 u172 u173 u174 u175 u176 u177 u178 u179 u180 u181 u182 u183 u184 u185 u186 u187 u188 u189 u190 u191 u192 u193 u194 u195 u196 u197 : Value) (wc : World), SesMid bp br bs cs b5 b6 xb k w wc → R ⟨List.toArray (y0 :: y1 :: y2 :: (.pointer (some ⟨bs, 0, none⟩)) :: (.pointer (some ⟨cs, 0, none⟩)) :: (.pointer (some ⟨b5, 0, none⟩)) :: (.pointer (some ⟨b6, 0, none⟩)) :: y7 :: y8 :: y9 :: (.int .i64 az) :: y11 :: (.pointer (some ⟨xb, 0, none⟩)) :: u13 :: u14 :: u15 :: u16 :: u17 :: u18 :: u19 :: u20 :: y21 :: y22 :: y23 :: y24 :: y25 :: y26 :: y27 :: y28 :: y29 :: y30 :: y31 :: y32 :: y33 :: y34 :: y35 :: y36 :: y37 :: y38 :: y39 :: y40 :: y41 :: y42 :: y43 :: y44 :: y45 :: y46 :: y47 :: y48 :: y49 :: y50 :: y51 :: y52 :: y53 :: y54 :: y55 :: y56 :: y57 :: y58 :: y59 :: y60 :: y61 :: y62 :: y63 :: y64 :: y65 :: y66 :: y67 :: y68 :: y69 :: y70 :: y71 :: y72 :: y73 :: y74 :: y75 :: y76 :: y77 :: y78 :: y79 :: y80 :: y81 :: y82 :: y83 :: (.int .i64 what) :: u85 :: u86 :: u87 :: u88 :: u89 :: u90 :: u91 :: u92 :: u93 :: u94 :: u95 :: u96 :: u97 :: u98 :: u99 :: u100 :: u101 :: u102 :: u103 :: u104 :: u105 :: u106 :: u107 :: u108 :: u109 :: u110 :: u111 :: u112 :: u113 :: u114 :: u115 :: u116 :: u117 :: u118 :: u119 :: u120 :: u121 :: u122 :: u123 :: u124 :: u125 :: u126 :: u127 :: u128 :: u129 :: u130 :: u131 :: u132 :: u133 :: u134 :: u135 :: u136 :: u137 :: u138 :: u139 :: u140 :: u141 :: u142 :: u143 :: u144 :: u145 :: u146 :: u147 :: u148 :: u149 :: u150 :: u151 :: u152 :: u153 :: u154 :: u155 :: u156 :: u157 :: u158 :: u159 :: u160 :: u161 :: u162 :: u163 :: u164 :: u165 :: u166 :: u167 :: u168 :: u169 :: u170 :: u171 :: u172 :: u173 :: u174 :: u175 :: u176 :: u177 :: u178 :: u179 :: u180 :: u181 :: u182 :: u183 :: u184 :: u185 :: u186 :: u187 :: u188 :: u189 :: u190 :: u191 :: u192 :: u193 :: u194 :: u195 :: u196 :: u197 :: y198 :: y199 :: y200 :: y201 :: y202 :: y203 :: y204 :: y205 :: y206 :: y207 :: y208 :: y209 :: y210 :: y211 :: y212 :: y213 :: y214 :: y215 :: y216 :: y217 :: y218 :: y219 :: y220 :: y221 :: y222 :: []), []⟩ wc) :
    Code.wp Tryz.prog sesSw (Exit.then R (fun _ _ _ => False)) ⟨List.toArray (y0 :: y1 :: y2 :: (.pointer (some ⟨bs, 0, none⟩)) :: (.pointer (some ⟨cs, 0, none⟩)) :: (.pointer (some ⟨b5, 0, none⟩)) :: (.pointer (some ⟨b6, 0, none⟩)) :: y7 :: y8 :: y9 :: (.int .i64 az) :: y11 :: (.pointer (some ⟨xb, 0, none⟩)) :: y13 :: y14 :: y15 :: y16 :: y17 :: y18 :: y19 :: y20 :: y21 :: y22 :: y23 :: y24 :: y25 :: y26 :: y27 :: y28 :: y29 :: y30 :: y31 :: y32 :: y33 :: y34 :: y35 :: y36 :: y37 :: y38 :: y39 :: y40 :: y41 :: y42 :: y43 :: y44 :: y45 :: y46 :: y47 :: y48 :: y49 :: y50 :: y51 :: y52 :: y53 :: y54 :: y55 :: y56 :: y57 :: y58 :: y59 :: y60 :: y61 :: y62 :: y63 :: y64 :: y65 :: y66 :: y67 :: y68 :: y69 :: y70 :: y71 :: y72 :: y73 :: y74 :: y75 :: y76 :: y77 :: y78 :: y79 :: y80 :: y81 :: y82 :: y83 :: (.int .i64 what) :: y85 :: y86 :: y87 :: y88 :: y89 :: y90 :: y91 :: y92 :: y93 :: y94 :: y95 :: y96 :: y97 :: y98 :: y99 :: y100 :: y101 :: y102 :: y103 :: y104 :: y105 :: y106 :: y107 :: y108 :: y109 :: y110 :: y111 :: y112 :: y113 :: y114 :: y115 :: y116 :: y117 :: y118 :: y119 :: y120 :: y121 :: y122 :: y123 :: y124 :: y125 :: y126 :: y127 :: y128 :: y129 :: y130 :: y131 :: y132 :: y133 :: y134 :: y135 :: y136 :: y137 :: y138 :: y139 :: y140 :: y141 :: y142 :: y143 :: y144 :: y145 :: y146 :: y147 :: y148 :: y149 :: y150 :: y151 :: y152 :: y153 :: y154 :: y155 :: y156 :: y157 :: y158 :: y159 :: y160 :: y161 :: y162 :: y163 :: y164 :: y165 :: y166 :: y167 :: y168 :: y169 :: y170 :: y171 :: y172 :: y173 :: y174 :: y175 :: y176 :: y177 :: y178 :: y179 :: y180 :: y181 :: y182 :: y183 :: y184 :: y185 :: y186 :: y187 :: y188 :: y189 :: y190 :: y191 :: y192 :: y193 :: y194 :: y195 :: y196 :: y197 :: y198 :: y199 :: y200 :: y201 :: y202 :: y203 :: y204 :: y205 :: y206 :: y207 :: y208 :: y209 :: y210 :: y211 :: y212 :: y213 :: y214 :: y215 :: y216 :: y217 :: y218 :: y219 :: y220 :: y221 :: y222 :: []), []⟩ w2 := by
  have HR : Hid _ := hR
  clear hR
  have BR : Hid (∀ (n : Int) (w : World), w.cell? ⟨0, 0, none⟩ = some (.iface 186 (.agg #[.pointer (some ⟨1, 25, none⟩)])) → Calls Tryz.prog 6 #[errV n, .int .i64 n] w fun e w' => e = .returned (.bool true) ∧ Below w.heap.size w w') := fun n w h => sameErr_errV' n w h
  have : True := by have := HI; have := h0; have := h2; have := HWk; have := HKW; have := HG; have := BR; trivial
  clear this
  conv => arg 2; whnf
  have MID : SesMid bp br bs cs b5 b6 xb k w w2 := ⟨_, _, T2, H2.r5, H2.r6, HI.out.1.mono (Nat.le_succ k), hb2⟩
  go_wp2_with fail
  exact HR.out _ _ _ _ _ _ _ _ _ _ _ _ _ _ _ _ _ _ _ _ _ _ _ _ _ _ _ _ _ _ _ _ _ _ _ _ _ _ _ _ _ _ _ _ _ _ _ _ _ _ _ _ _ _ _ _ _ _ _ _ _ _ _ _ _ _ _ _ _ _ _ _ _ _ _ _ _ _ _ _ _ _ _ _ _ _ _ _ _ _ _ _ _ _ _ _ _ _ _ _ _ _ _ _ _ _ _ _ _ _ _ _ _ _ _ _ _ _ _ _ _ _ MID

end Go.Proofs.YtpncedpfoakfkaaGreatDoor
