/-
  'copselaw.WireWrites': the walk: the law returns true, whatever the transaction, the site and the vector are; nothing that was there is written.
-/
import Derived.Test.YteebebahlegmlaaDoorRefTx
import Derived.Test.YteebebahlegmlaaDoorRefAsk
import Derived.Test.YteebebahlegmlaaDoorWireTx
import Derived.Test.YteebebahlegmlaaDoorWireAsk
import Derived.Test.YteebebahlegmlaaDoorFew
import Derived.Test.YteebebahlegmlaaDoorBareE
namespace Go.Proofs.YteebebahlegmlaaDoor
open Go.RowKit

/-- in w, and behind it, the bytes v are the string s -/
def StrOf (w : World) (v : Value) (s : ByteArray) : Prop := ∀ w', Below w.heap.size w w' → (convert 44 9 v).run Tryd.prog w' = .ok (.string s) w'

theorem strOf_nil (w : World) : StrOf w (.slice none 0 0) ⟨#[]⟩ := fun w' _ => run_convert_bytes_nil w' 44 5 Tryd.underlying44 Tryd.underlying5 0 0 9 Tryd.underlying9
theorem strOf_own {w : World} {B g cap : Nat} {s : ByteArray} (h : Own w B g cap s) : StrOf w (.slice (some ⟨g, 0, none⟩) s.size cap) s := fun _ hb => (h.later hb).str 44 5 9 Tryd.underlying44 Tryd.underlying5 Tryd.underlying9
theorem StrOf.later {w w' : World} {v : Value} {s : ByteArray} (h : StrOf w v s) (hb : Below w.heap.size w w') : StrOf w' v s := fun w2 hb2 => h w2 (behind hb hb2)

/-- the error of both is the same one -/
def SameErr (ev : Value) (n : Int) : Prop := ∀ w : World, w.cell? ⟨0, 0, none⟩ = some (.iface 106 (.agg #[.pointer (some ⟨1, 28, none⟩)])) →
    Calls Tryd.prog 9 #[ev, .int .i64 n] w fun e w' => e = .returned (.bool true) ∧ Below w.heap.size w w'
theorem sameErr_nil : SameErr .nilIface 0 := fun w _ => bare_nil w
theorem sameErr_no (n : Int) : SameErr (.iface 24 (.int .i64 n)) n := fun w hg => bare_errno n w hg

theorem tx_both (site seq wall count d0 d1 d2 d3 : Int) (a : Option Addr) (cap : Nat) (l : List Wr) : ∃ (s : ByteArray) (n : Int) (ev : Value), SameErr ev n ∧
    (∀ w, WrIn w a cap l → Calls Tryd.prog 15 #[.agg #[.int .i64 site, .int .i64 seq, .int .i64 wall, .int .i64 count, .int .i64 d0, .int .i64 d1, .int .i64 d2, .int .i64 d3, .slice a l.length cap]] w fun e w' => e = .returned (.tuple #[.string s, .int .i64 n]) ∧ Below w.heap.size w w') ∧
    (∀ w, WrIn w a cap l → Calls Tryd.prog 16 #[.agg #[.int .i64 site, .int .i64 seq, .int .i64 wall, .int .i64 count, .int .i64 d0, .int .i64 d1, .int .i64 d2, .int .i64 d3, .slice a l.length cap]] w fun e w' => ∃ v, e = .returned (.tuple #[v, ev]) ∧ StrOf w' v s ∧ Below w.heap.size w w') := by
  cases h : okTx site seq wall count d0 d1 d2 d3 l
  · exact ⟨_, _, _, sameErr_no 1, fun w hW => refTx_arg site seq wall count d0 d1 d2 d3 a cap l w hW h, fun w hW => (encTx_arg site seq wall count d0 d1 d2 d3 a cap l w hW h).mono fun e w' ⟨he, hb⟩ => ⟨_, he, strOf_nil w', hb⟩⟩
  · exact ⟨_, _, _, sameErr_nil, fun w hW => refTx_ok site seq wall count d0 d1 d2 d3 a cap l w hW h, fun w hW => (encTx_ok site seq wall count d0 d1 d2 d3 a cap l w hW h).mono fun e w' ⟨S, g, cp, he, hS, O, hb⟩ => ⟨_, he, by rw [← hS]; exact strOf_own O, hb⟩⟩

theorem ask_both (site a0 a1 a2 a3 : Int) : ∃ (s : ByteArray) (n : Int) (ev : Value), SameErr ev n ∧
    (∀ w, Calls Tryd.prog 17 #[.int .i64 site, .agg #[.int .i64 a0, .int .i64 a1, .int .i64 a2, .int .i64 a3]] w fun e w' => e = .returned (.tuple #[.string s, .int .i64 n]) ∧ Below w.heap.size w w') ∧
    (∀ w, Calls Tryd.prog 18 #[.int .i64 site, .agg #[.int .i64 a0, .int .i64 a1, .int .i64 a2, .int .i64 a3]] w fun e w' => ∃ v, e = .returned (.tuple #[v, ev]) ∧ StrOf w' v s ∧ Below w.heap.size w w') := by
  cases h : inB site 0 3
  · exact ⟨_, _, _, sameErr_no 1, fun w => refAsk_arg1 site a0 a1 a2 a3 w h, fun w => (encAsk_arg1 site a0 a1 a2 a3 w h).mono fun e w' ⟨he, hb⟩ => ⟨_, he, strOf_nil w', hb⟩⟩
  · cases h2 : timesB a0 a1 a2 a3
    · exact ⟨_, _, _, sameErr_no 1, fun w => refAsk_arg2 site a0 a1 a2 a3 w h h2, fun w => (encAsk_arg2 site a0 a1 a2 a3 w h h2).mono fun e w' ⟨he, hb⟩ => ⟨_, he, strOf_nil w', hb⟩⟩
    · exact ⟨_, _, _, sameErr_nil, fun w => refAsk_ok site a0 a1 a2 a3 w h h2, fun w => (encAsk_ok site a0 a1 a2 a3 w h h2).mono fun e w' ⟨S, g, cp, he, hS, O, hb⟩ => ⟨_, he, by rw [← hS]; exact strOf_own O, hb⟩⟩

theorem few_is {site seq wall count d0 d1 d2 d3 : Int} {a : Option Addr} {cap : Nat} {l : List Wr} {w : World} {v : Bool} (hW : WrIn w a cap l) (h : fewB l = v) :
    Calls Tryd.prog 14 #[.agg #[.int .i64 site, .int .i64 seq, .int .i64 wall, .int .i64 count, .int .i64 d0, .int .i64 d1, .int .i64 d2, .int .i64 d3, .slice a l.length cap]] w fun e w' => e = .returned (.bool v) ∧ Below w.heap.size w w' := by
  subst h
  exact few_any site seq wall count d0 d1 d2 d3 a cap l w hW

set_option maxHeartbeats 4000000 in
theorem writes_true (site seq wall count d0 d1 d2 d3 : Int) (a : Option Addr) (cap : Nat) (l : List Wr) (at_ a0 a1 a2 a3 : Int) (w : World) (hW : WrIn w a cap l) (hg : w.cell? ⟨0, 0, none⟩ = some (.iface 106 (.agg #[.pointer (some ⟨1, 28, none⟩)]))) :
    Calls Tryd.prog 4 #[.agg #[.int .i64 site, .int .i64 seq, .int .i64 wall, .int .i64 count, .int .i64 d0, .int .i64 d1, .int .i64 d2, .int .i64 d3, .slice a l.length cap], .int .i64 at_, .agg #[.int .i64 a0, .int .i64 a1, .int .i64 a2, .int .i64 a3]] w fun e w' => e = .returned (.bool true) ∧ Below w.heap.size w w' := by
  have hne := Later.one
  obtain ⟨s, n, ev, SE, HR, HN⟩ := tx_both site seq wall count d0 d1 d2 d3 a cap l
  obtain ⟨s2, n2, ev2, SE2, HR2, HN2⟩ := ask_both at_ a0 a1 a2 a3
  have SEh : Hid (SameErr ev n) := SE
  have SEh2 : Hid (SameErr ev2 n2) := SE2
  have hr : Hid _ := HR
  have hn : Hid _ := HN
  have hr2 : Hid _ := HR2
  have hn2 : Hid _ := HN2
  clear SE SE2 HR HN HR2 HN2
  have HG : Hid (w.cell? ⟨0, 0, none⟩ = some (.iface 106 (.agg #[.pointer (some ⟨1, 28, none⟩)]))) := hg
  clear hg
  have c0 : ((w.alloc (.cells #[.int .i64 site, .int .i64 seq, .int .i64 wall, .int .i64 count, .int .i64 d0, .int .i64 d1, .int .i64 d2, .int .i64 d3, .slice a l.length cap] 40)).alloc (.cells #[.int .i64 a0, .int .i64 a1, .int .i64 a2, .int .i64 a3] 37)).cell? ⟨w.heap.size, 0, none⟩ = some (.int .i64 site) := by go_simp
  have c1 : ((w.alloc (.cells #[.int .i64 site, .int .i64 seq, .int .i64 wall, .int .i64 count, .int .i64 d0, .int .i64 d1, .int .i64 d2, .int .i64 d3, .slice a l.length cap] 40)).alloc (.cells #[.int .i64 a0, .int .i64 a1, .int .i64 a2, .int .i64 a3] 37)).cell? ⟨w.heap.size, 1, none⟩ = some (.int .i64 seq) := by go_simp
  have c2 : ((w.alloc (.cells #[.int .i64 site, .int .i64 seq, .int .i64 wall, .int .i64 count, .int .i64 d0, .int .i64 d1, .int .i64 d2, .int .i64 d3, .slice a l.length cap] 40)).alloc (.cells #[.int .i64 a0, .int .i64 a1, .int .i64 a2, .int .i64 a3] 37)).cell? ⟨w.heap.size, 2, none⟩ = some (.int .i64 wall) := by go_simp
  have c3 : ((w.alloc (.cells #[.int .i64 site, .int .i64 seq, .int .i64 wall, .int .i64 count, .int .i64 d0, .int .i64 d1, .int .i64 d2, .int .i64 d3, .slice a l.length cap] 40)).alloc (.cells #[.int .i64 a0, .int .i64 a1, .int .i64 a2, .int .i64 a3] 37)).cell? ⟨w.heap.size, 3, none⟩ = some (.int .i64 count) := by go_simp
  have c4 : ((w.alloc (.cells #[.int .i64 site, .int .i64 seq, .int .i64 wall, .int .i64 count, .int .i64 d0, .int .i64 d1, .int .i64 d2, .int .i64 d3, .slice a l.length cap] 40)).alloc (.cells #[.int .i64 a0, .int .i64 a1, .int .i64 a2, .int .i64 a3] 37)).cell? ⟨w.heap.size, 4, none⟩ = some (.int .i64 d0) := by go_simp
  have c5 : ((w.alloc (.cells #[.int .i64 site, .int .i64 seq, .int .i64 wall, .int .i64 count, .int .i64 d0, .int .i64 d1, .int .i64 d2, .int .i64 d3, .slice a l.length cap] 40)).alloc (.cells #[.int .i64 a0, .int .i64 a1, .int .i64 a2, .int .i64 a3] 37)).cell? ⟨w.heap.size, 5, none⟩ = some (.int .i64 d1) := by go_simp
  have c6 : ((w.alloc (.cells #[.int .i64 site, .int .i64 seq, .int .i64 wall, .int .i64 count, .int .i64 d0, .int .i64 d1, .int .i64 d2, .int .i64 d3, .slice a l.length cap] 40)).alloc (.cells #[.int .i64 a0, .int .i64 a1, .int .i64 a2, .int .i64 a3] 37)).cell? ⟨w.heap.size, 6, none⟩ = some (.int .i64 d2) := by go_simp
  have c7 : ((w.alloc (.cells #[.int .i64 site, .int .i64 seq, .int .i64 wall, .int .i64 count, .int .i64 d0, .int .i64 d1, .int .i64 d2, .int .i64 d3, .slice a l.length cap] 40)).alloc (.cells #[.int .i64 a0, .int .i64 a1, .int .i64 a2, .int .i64 a3] 37)).cell? ⟨w.heap.size, 7, none⟩ = some (.int .i64 d3) := by go_simp
  have c8 : ((w.alloc (.cells #[.int .i64 site, .int .i64 seq, .int .i64 wall, .int .i64 count, .int .i64 d0, .int .i64 d1, .int .i64 d2, .int .i64 d3, .slice a l.length cap] 40)).alloc (.cells #[.int .i64 a0, .int .i64 a1, .int .i64 a2, .int .i64 a3] 37)).cell? ⟨w.heap.size, 8, none⟩ = some (.slice a l.length cap) := by go_simp
  have k0 : ((w.alloc (.cells #[.int .i64 site, .int .i64 seq, .int .i64 wall, .int .i64 count, .int .i64 d0, .int .i64 d1, .int .i64 d2, .int .i64 d3, .slice a l.length cap] 40)).alloc (.cells #[.int .i64 a0, .int .i64 a1, .int .i64 a2, .int .i64 a3] 37)).cell? ⟨w.heap.size + 1, 0, none⟩ = some (.int .i64 a0) := by go_simp
  have k1 : ((w.alloc (.cells #[.int .i64 site, .int .i64 seq, .int .i64 wall, .int .i64 count, .int .i64 d0, .int .i64 d1, .int .i64 d2, .int .i64 d3, .slice a l.length cap] 40)).alloc (.cells #[.int .i64 a0, .int .i64 a1, .int .i64 a2, .int .i64 a3] 37)).cell? ⟨w.heap.size + 1, 1, none⟩ = some (.int .i64 a1) := by go_simp
  have k2 : ((w.alloc (.cells #[.int .i64 site, .int .i64 seq, .int .i64 wall, .int .i64 count, .int .i64 d0, .int .i64 d1, .int .i64 d2, .int .i64 d3, .slice a l.length cap] 40)).alloc (.cells #[.int .i64 a0, .int .i64 a1, .int .i64 a2, .int .i64 a3] 37)).cell? ⟨w.heap.size + 1, 2, none⟩ = some (.int .i64 a2) := by go_simp
  have k3 : ((w.alloc (.cells #[.int .i64 site, .int .i64 seq, .int .i64 wall, .int .i64 count, .int .i64 d0, .int .i64 d1, .int .i64 d2, .int .i64 d3, .slice a l.length cap] 40)).alloc (.cells #[.int .i64 a0, .int .i64 a1, .int .i64 a2, .int .i64 a3] 37)).cell? ⟨w.heap.size + 1, 3, none⟩ = some (.int .i64 a3) := by go_simp
  have hb := boxed (boxed (Below.refl w.heap.size w) (.cells #[.int .i64 site, .int .i64 seq, .int .i64 wall, .int .i64 count, .int .i64 d0, .int .i64 d1, .int .i64 d2, .int .i64 d3, .slice a l.length cap] 40)) (.cells #[.int .i64 a0, .int .i64 a1, .int .i64 a2, .int .i64 a3] 37)
  cases hf : fewB l
  · have HF : Hid (fewB l = false) := hf
    clear hf
    go_enter Tryd.func4, Tryd.ntmps4
    go_wp2_with fail
    refine (few_is (hW.later hb) HF.out).mono ?_
    rintro e w1 ⟨rfl, hb1⟩
    go_wp2_with fail
    go_ret
    exact ⟨rfl, behind hb hb1⟩
  · have HF : Hid (fewB l = true) := hf
    clear hf
    go_enter Tryd.func4, Tryd.ntmps4
    go_wp2_with fail
    refine (few_is (hW.later hb) HF.out).mono ?_
    rintro e w1 ⟨rfl, hb1⟩
    replace c0 := cell_later hb1 c0
    replace c1 := cell_later hb1 c1
    replace c2 := cell_later hb1 c2
    replace c3 := cell_later hb1 c3
    replace c4 := cell_later hb1 c4
    replace c5 := cell_later hb1 c5
    replace c6 := cell_later hb1 c6
    replace c7 := cell_later hb1 c7
    replace c8 := cell_later hb1 c8
    replace k0 := cell_later hb1 k0
    replace k1 := cell_later hb1 k1
    replace k2 := cell_later hb1 k2
    replace k3 := cell_later hb1 k3
    replace hb := behind hb hb1
    clear hb1
    go_wp2_with fail
    refine (hr.out _ (hW.later hb)).mono ?_
    rintro e w2 ⟨rfl, hb2⟩
    replace c0 := cell_later hb2 c0
    replace c1 := cell_later hb2 c1
    replace c2 := cell_later hb2 c2
    replace c3 := cell_later hb2 c3
    replace c4 := cell_later hb2 c4
    replace c5 := cell_later hb2 c5
    replace c6 := cell_later hb2 c6
    replace c7 := cell_later hb2 c7
    replace c8 := cell_later hb2 c8
    replace k0 := cell_later hb2 k0
    replace k1 := cell_later hb2 k1
    replace k2 := cell_later hb2 k2
    replace k3 := cell_later hb2 k3
    replace hb := behind hb hb2
    clear hb2
    go_wp2_with fail
    refine (hn.out _ (hW.later hb)).mono ?_
    rintro e w3 ⟨v, rfl, st, hb3⟩
    have ST : Hid (StrOf w3 v s) := st
    clear st
    replace c0 := cell_later hb3 c0
    replace c1 := cell_later hb3 c1
    replace c2 := cell_later hb3 c2
    replace c3 := cell_later hb3 c3
    replace c4 := cell_later hb3 c4
    replace c5 := cell_later hb3 c5
    replace c6 := cell_later hb3 c6
    replace c7 := cell_later hb3 c7
    replace c8 := cell_later hb3 c8
    replace k0 := cell_later hb3 k0
    replace k1 := cell_later hb3 k1
    replace k2 := cell_later hb3 k2
    replace k3 := cell_later hb3 k3
    replace hb := behind hb hb3
    clear hb3
    go_wp2_with fail
    refine (hr2.out _).mono ?_
    rintro e w4 ⟨rfl, hb4⟩
    replace ST : Hid (StrOf w4 v s) := ST.out.later hb4
    replace c0 := cell_later hb4 c0
    replace c1 := cell_later hb4 c1
    replace c2 := cell_later hb4 c2
    replace c3 := cell_later hb4 c3
    replace c4 := cell_later hb4 c4
    replace c5 := cell_later hb4 c5
    replace c6 := cell_later hb4 c6
    replace c7 := cell_later hb4 c7
    replace c8 := cell_later hb4 c8
    replace k0 := cell_later hb4 k0
    replace k1 := cell_later hb4 k1
    replace k2 := cell_later hb4 k2
    replace k3 := cell_later hb4 k3
    replace hb := behind hb hb4
    clear hb4
    go_wp2_with fail
    refine (hn2.out _).mono ?_
    rintro e w5 ⟨v2, rfl, st2, hb5⟩
    replace ST : Hid (StrOf w5 v s) := ST.out.later hb5
    have ST2 : Hid (StrOf w5 v2 s2) := st2
    clear st2
    replace c0 := cell_later hb5 c0
    replace c1 := cell_later hb5 c1
    replace c2 := cell_later hb5 c2
    replace c3 := cell_later hb5 c3
    replace c4 := cell_later hb5 c4
    replace c5 := cell_later hb5 c5
    replace c6 := cell_later hb5 c6
    replace c7 := cell_later hb5 c7
    replace c8 := cell_later hb5 c8
    replace k0 := cell_later hb5 k0
    replace k1 := cell_later hb5 k1
    replace k2 := cell_later hb5 k2
    replace k3 := cell_later hb5 k3
    replace hb := behind hb hb5
    clear hb5
    go_wp2_with fail
    replace c0 := Later.cell c0
    replace c1 := Later.cell c1
    replace c2 := Later.cell c2
    replace c3 := Later.cell c3
    replace c4 := Later.cell c4
    replace c5 := Later.cell c5
    replace c6 := Later.cell c6
    replace c7 := Later.cell c7
    replace c8 := Later.cell c8
    clear k0 k1 k2 k3
    have s1 := fun x : Later w5 => ST.out x.val x.below
    have s2' := fun x : Later w5 => ST2.out x.val x.below
    have hW5 := hW.later hb
    have G5 := cell_later hb HG.out
    have B1 : Hid (∀ x : Later w5, Calls Tryd.prog 9 #[ev, .int .i64 n] x.val fun e w' => e = .returned (.bool true) ∧ Below x.val.heap.size x.val w') := fun x => SEh.out _ (cell_later x.below G5)
    have B2 : Hid (∀ x : Later w5, Calls Tryd.prog 9 #[ev2, .int .i64 n2] x.val fun e w' => e = .returned (.bool true) ∧ Below x.val.heap.size x.val w') := fun x => SEh2.out _ (cell_later x.below G5)
    clear SEh SEh2 hr hn hr2 hn2 ST ST2 G5 HG HF
    refine wp_region_later (by kernel_rfl) (by kernel_rfl) ?_
    iterate 37 (go_big_quiet_step (first | (go_at_call 9; first | with_reducible exact calls_later (B1.out _) | with_reducible exact calls_later (B2.out _)) | (go_at_call 19; exact calls_later (rightTx_any _ _ _ _ _ _ _ _ _ _ _ _ (WrIn.later (Later.below _) hW5))) | (go_at_call 20; exact calls_later (refRightTx_any _ _ _ _ _ _ _ _ _ _ _ _ (WrIn.later (Later.below _) hW5))) | (go_at_call 21; exact calls_later (rightW_any (WrIn.later (Later.below _) hW5))) | (go_at_call 22; exact calls_later (refRightW_any (WrIn.later (Later.below _) hW5)))))
    refine wpQuiet_nil ?_
    rintro w6 ⟨⟨_, hb6⟩, rfl⟩
    go_wp2
    go_ret
    exact ⟨rfl, behind hb hb6⟩

end Go.Proofs.YteebebahlegmlaaDoor
