import Derived.Test.YtoanjdndmlffdaaGreatDoorDkM0
import Derived.Test.YtoanjdndmlffdaaGreatDoorDkM2
import Derived.Test.YtoanjdndmlffdaaGreatDoorDkM6
import Derived.Test.YtoanjdndmlffdaaGreatDoorDkM8
import Derived.Test.YtoanjdndmlffdaaGreatDoorDkMA
namespace Go.Proofs.YtoanjdndmlffdaaGreatDoor
open Go.RowKit
section
open Go.Maps
set_option maxRecDepth 100000
set_option maxHeartbeats 4000000
/-- a command's contract, whatever the clerk -/
def DoesIt (i : Nat) : Prop := ∀ {w : World} {cb mb b j cap : Nat} {Gw G : Nat → Prop} {W : WoS} {a : Option Addr} {l : List ByteArray}, DoPre w cb mb b Gw G W j a cap l → Calls Tryz.prog (fnOf i) #[.pointer (some ⟨cb, 0, none⟩), .slice a l.length cap] w (DoPost i W l w cb mb G)
theorem does_all (hh : DoesIt 9) : ∀ i, i < 19 → DoesIt i
  | 0, _ => fun h => do_abort _ h
  | 1, _ => fun h => do_ask _ h
  | 2, _ => fun h => do_begin _ h
  | 3, _ => fun h => do_calm _ h
  | 4, _ => fun h => do_client _ h
  | 5, _ => fun h => do_commit _ h
  | 6, _ => fun h => do_deliver _ h
  | 7, _ => fun h => do_drop _ h
  | 8, _ => fun h => do_goes _ h
  | 9, _ => hh
  | 10, _ => fun h => do_lose _ h
  | 11, _ => fun h => do_many _ h
  | 12, _ => fun h => do_move _ h
  | 13, _ => fun h => do_read _ h
  | 14, _ => fun h => do_site _ h
  | 15, _ => fun h => do_sweep _ h
  | 16, _ => fun h => do_twice _ h
  | 17, _ => fun h => do_world _ h
  | 18, _ => fun h => do_write _ h
  | n + 19, h => absurd h (by omega)
theorem func_zero (w : World) : (zeroValue 65).run Tryz.prog w = .ok .nilFunc w := by kernel_rfl
theorem DMap.held {w : World} {mb cb : Nat} (h : DMap w mb cb 19) {s : ByteArray} {i : Nat} (hz : s.size ≤ maxLen) (hi : i < 19) (hs : s.data.toList = nameOf i) : (Instr.lookup 55 (.map (some mb)) (.string s) false).run Tryz.prog w = .ok (doV cb i) w := by
  obtain ⟨D, o, d⟩ := h
  obtain ⟨v, ps, hr, hv⟩ := o.lookup strLaw Tryz.underlying55 (func_zero w) (zd := .held .nilFunc) (zp := []) rfl (strKey hz)
  rw [hs, (d.has i hi).2] at hv
  have : v = doV cb i := by
    unfold heldR at hv
    injection hv with hv
    injection hv with hv
    injection hv
  rw [hr, this]
theorem DMap.lacks {w : World} {mb cb : Nat} (h : DMap w mb cb 19) {s : ByteArray} (hz : s.size ≤ maxLen) (hs : ∀ i, i < 19 → s.data.toList ≠ nameOf i) : (Instr.lookup 55 (.map (some mb)) (.string s) false).run Tryz.prog w = .ok .nilFunc w := by
  obtain ⟨D, o, d⟩ := h
  obtain ⟨v, ps, hr, hv⟩ := o.lookup strLaw Tryz.underlying55 (func_zero w) (zd := .held .nilFunc) (zp := []) rfl (strKey hz)
  rw [(d.no _ hs).2] at hv
  have : v = .nilFunc := by
    unfold heldR at hv
    injection hv with hv
    injection hv with hv
    injection hv
  rw [hr, this]
theorem StrIn.tail {w : World} {A o cap : Nat} {x : ByteArray} {l : List ByteArray} (h : StrIn w (some ⟨A, o, none⟩) cap (x :: l)) : StrIn w (some ⟨A, o + 1, none⟩) (cap - 1) l :=
  ⟨by have := h.cap; simp at this; omega, fun j y hy => by
    obtain ⟨b, p, e, h2, h3⟩ := h.cell (j + 1) y (by simpa using hy)
    injection e with e
    injection e with e1 e2
    subst e1; subst e2
    exact ⟨A, o + 1, rfl, h2, by rw [show o + 1 + j = o + (j + 1) by omega]; exact h3⟩⟩
theorem cmd_there {s : List UInt8} {i : Nat} (h : cmdN.idxOf? s = some i) : i < 19 ∧ s = nameOf i := by
  rw [List.idxOf?_eq_some_iff] at h
  obtain ⟨hi, he, _⟩ := h
  refine ⟨hi, ?_⟩
  unfold nameOf
  rw [List.getD_eq_getElem?_getD, List.getElem?_eq_getElem hi]
  simpa using he.symm
theorem cmd_none {s : List UInt8} (h : cmdN.idxOf? s = none) : ∀ i, i < 19 → s ≠ nameOf i := fun i hi e => by
  rw [List.idxOf?_eq_none_iff] at h
  apply h
  rw [e]
  unfold nameOf
  rw [List.getD_eq_getElem?_getD, List.getElem?_eq_getElem (show i < cmdN.length from hi)]
  exact List.getElem_mem _
end
set_option maxRecDepth 100000
set_option maxHeartbeats 4000000
theorem do_help : DoesIt 9 := fun {w cb mb b j cap Gw G W a l} h => by
  show Calls Tryz.prog 55 #[.pointer (some ⟨cb, 0, none⟩), .slice a l.length cap] w (DoPost 9 W l w cb mb G)
  have HH : Hid (DoPre w cb mb b Gw G W j a cap l) := h
  have N1 := none_any h.sm w h.gl h.st
  clear h
  go_enter Tryz.func55, Tryz.ntmps55
  go_wp2_with fail
  refine N1.mono ?_
  rintro e w1 ⟨hb1, (⟨hv, rfl⟩ | ⟨hv, rfl⟩)⟩
  · have K1 := HH.out.ck.later hb1
    have cm := K1.cell1
    obtain ⟨D, own, d⟩ := K1.map
    have KY := callsIn_wide.1 (Tryz.maps_Keys_108 (some mb) w1)
    have SO := callsIn_wide.1 (Tryz.slices_Sorted_keys_107_108 mb 19 D heldR w1 own (by rw [d.size]; decide) (by rw [d.size]; decide))
    have HO : Hid (w1.ownsMap Tryz.prog 9 heldR mb 19 D ∧ DMapIs D cb 19) := ⟨own, d⟩
    have HB : Hid (Below w.heap.size w w1) := hb1
    clear K1 own d N1 hb1
    go_wp2_with fail
    refine KY.mono ?_
    rintro e w2 ⟨rfl, rfl⟩
    go_wp2_with fail
    refine SO.mono ?_
    rintro e w3 ⟨v, ss, rfl, hp, ho, _, hb3⟩
    have E := table_names HO.out.1 HO.out.2 hp
    have hl : ss.length = 19 := by have := congrArg List.length E; rw [List.length_mergeSort] at this; exact this
    rw [E, hl] at ho
    obtain ⟨_, (⟨_, h0⟩ | ⟨g, tc, cur, rfl, hg, hblk, hcap, hmx, hcs, htk⟩)⟩ := id ho
    · cases h0
    have JN := Tryz.strings_Join g 0 tc (cmdN.map bya) ⟨#[32]⟩ w3 (fun q y hy => by
      rw [Nat.zero_add]
      rw [List.getElem?_map] at hy
      obtain ⟨x, hx, rfl⟩ := Option.map_eq_some_iff.1 hy
      have hj : q < 19 := (List.getElem?_eq_some_iff.1 hx).1
      rw [ho.cellAt q (by rw [Nat.mul_one]; exact hj), List.getElem?_map, hx]
      rfl) (Array.getElem?_eq_some_iff.1 hblk).1 (by decide) hcap (by decide)
    replace JN : Calls Tryz.prog 42 #[.slice (some ⟨g, 0, none⟩) 19 tc, .string ⟨#[32]⟩] w3 fun e w' => e = .returned (.string (bya (Lib.join cmdN [32]))) ∧ Below w3.heap.size w3 w' := JN
    have HF : Hid (∀ w4, Below w3.heap.size w3 w4 → DoPost 9 W l w cb mb G (.returned (.string (bya (Lib.join cmdN [32])))) w4) := fun w4 hb4 => HH.out.told (by decide) hv.out ⟨rfl, rfl, rfl⟩ (behind (behind (boxed HB.out _) hb3) hb4) (.inl ⟨rfl, rfl⟩)
    clear ho hblk htk hcs hp E hb3 SO KY
    go_wp2_with fail
    refine JN.mono ?_
    rintro e w4 ⟨rfl, hb4⟩
    have HF0 := HF.out w4 hb4
    clear HF
    go_wp2
    go_ret
    exact HF0
  · exact ⟨rfl, HH.out.no (by decide) hv.out hb1⟩
end Go.Proofs.YtoanjdndmlffdaaGreatDoor
