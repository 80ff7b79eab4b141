import Derived.Test.YtoanjdndmlffdaaGreatDoorTell
namespace Go.Proofs.YtoanjdndmlffdaaGreatDoor
open Go.RowKit Go.Extern.Stop Go.Stop Go.Extern
set_option maxHeartbeats 4000000 in
theorem as_hit (n : Int) (t : Addr) (old : Value) (w : World) (hg : w.cell? ⟨3, 0, none⟩ = some (.iface 312 (.agg #[.pointer (some ⟨10, 37, none⟩)]))) (ht0 : w.cell? t = some old) (hf0 : w.frozen? t = false) :
    Calls Tryz.prog 166 #[.iface 26 (.int .i64 n), .iface 225 (.pointer (some t))] w fun ev w' => ev = .returned (.bool true) ∧ w' = ((((w.alloc (.cells #[.pointer (some t)] 225)).alloc (.cells #[.pointer (some ⟨10, 225, none⟩), .pointer (some ⟨w.heap.size, 0, none⟩), .int .u64 150] 270)).alloc (.cells #[.pointer (some ⟨10, 225, none⟩), .pointer (some ⟨w.heap.size, 0, none⟩), .int .u64 150] 270)).alloc (.cells #[.int .i64 n] 26)).setCell t (.int .i64 n) := by
  have h6 := @run_callFunc_extern Tryz.prog 222 _ (fun args => ReflectliteValue.unpack (args.getD 0 (.tuple #[]))) Tryz.func222 (by kernel_rfl) (by kernel_rfl) (by kernel_rfl) (by kernel_rfl)
  have h7 := @run_callFunc_extern Tryz.prog 223 _ (ReflectliteValue.methodAny (ReflectliteValue.valueError "reflectlite.Value.Type" 0) (fun t _ _ _ => ReflectliteType.toType t)) Tryz.func223 (by kernel_rfl) (by kernel_rfl) (by kernel_rfl) (by kernel_rfl)
  have h8 := @run_callFunc_extern Tryz.prog 224 _ (ReflectliteValue.method (ReflectliteValue.valueError "reflectlite.Value.IsNil" 0) ReflectliteValue.isNil) Tryz.func224 (by kernel_rfl) (by kernel_rfl) (by kernel_rfl) (by kernel_rfl)
  have h27 := @run_callFunc_extern Tryz.prog 309 _ (ReflectliteType.abiMethod fun t => do pure (.int .u8 (← Rtype.kind t))) Tryz.func309 (by kernel_rfl) (by kernel_rfl) (by kernel_rfl) (by kernel_rfl)
  have h37 := @run_callFunc_extern Tryz.prog 323 _ (ReflectliteType.method ReflectliteType.elem) Tryz.func323 (by kernel_rfl) (by kernel_rfl) (by kernel_rfl) (by kernel_rfl)
  have h38 := @run_callFunc_extern Tryz.prog 324 _ (ReflectliteType.relation "Implements" ReflectliteType.implements_) Tryz.func324 (by kernel_rfl) (by kernel_rfl) (by kernel_rfl) (by kernel_rfl)
  have h10 := @run_callFunc_extern Tryz.prog 264 _ ReflectliteType.typeOf Tryz.func264 (by kernel_rfl) (by kernel_rfl) (by kernel_rfl) (by kernel_rfl)
  have h35 := @run_callFunc_extern Tryz.prog 321 _ (ReflectliteType.relation "AssignableTo" ReflectliteType.assignableTo) Tryz.func321 (by kernel_rfl) (by kernel_rfl) (by kernel_rfl) (by kernel_rfl)
  have h11 := @run_callFunc_extern Tryz.prog 265 _ (ReflectliteValue.method (ReflectliteValue.valueError "reflectlite.Value.Elem" 0) ReflectliteValue.elem) Tryz.func265 (by kernel_rfl) (by kernel_rfl) (by kernel_rfl) (by kernel_rfl)
  have h12 := @run_callFunc_extern Tryz.prog 266 _ ReflectliteValue.set Tryz.func266 (by kernel_rfl) (by kernel_rfl) (by kernel_rfl) (by kernel_rfl)
  have tO := rlTypeOfE
  have mA := rlMAssign
  have aE := rlAssignE
  have vE := rlValueOfE
  have f6 := rlValueOfPtr
  have f7 := rlTypePtr
  have mK := rlMKind
  have mE := rlMElem
  have mI := rlMImpl
  have kP := rlKindPtr
  have kE := rlKindE
  have eP := rlElemPtr
  have iE := rlImplE
  have n8 := rlIsNil ⟨w.heap.size, 0, none⟩ t ((w.alloc (.cells #[.pointer (some t)] 225)).alloc (.cells #[.pointer (some ⟨10, 225, none⟩), .pointer (some ⟨w.heap.size, 0, none⟩), .int .u64 150] 270)) (by simp)
  have hlt : 3 < w.heap.size := World.block_lt_of_cell? _ _ hg
  have htl : t.block < w.heap.size := World.block_lt_of_cell? _ _ ht0
  have hg2 : ((w.alloc (.cells #[.pointer (some t)] 225)).alloc (.cells #[.pointer (some ⟨10, 225, none⟩), .pointer (some ⟨w.heap.size, 0, none⟩), .int .u64 150] 270)).cell? ⟨3, 0, none⟩ = some (.iface 312 (.agg #[.pointer (some ⟨10, 37, none⟩)])) := by
    rw [World.cell?_alloc_lt _ _ ⟨3, 0, none⟩ (by simp <;> omega), World.cell?_alloc_lt _ _ ⟨3, 0, none⟩ hlt]; exact hg
  have el := rlElemV ⟨w.heap.size, 0, none⟩ t (((w.alloc (.cells #[.pointer (some t)] 225)).alloc (.cells #[.pointer (some ⟨10, 225, none⟩), .pointer (some ⟨w.heap.size, 0, none⟩), .int .u64 150] 270)).alloc (.cells #[.pointer (some ⟨10, 225, none⟩), .pointer (some ⟨w.heap.size, 0, none⟩), .int .u64 150] 270)) (by rw [World.cell?_alloc_lt _ _ ⟨w.heap.size, 0, none⟩ (by simp; omega)]; simp)
  have st := rlSet t ⟨w.heap.size + 1 + 1 + 1, 0, none⟩ n old ((((w.alloc (.cells #[.pointer (some t)] 225)).alloc (.cells #[.pointer (some ⟨10, 225, none⟩), .pointer (some ⟨w.heap.size, 0, none⟩), .int .u64 150] 270)).alloc (.cells #[.pointer (some ⟨10, 225, none⟩), .pointer (some ⟨w.heap.size, 0, none⟩), .int .u64 150] 270)).alloc (.cells #[.int .i64 n] 26))
    (by rw [World.cell?_alloc_at _ _ _ _ (by simp)]; rfl)
    (by rw [World.cell?_alloc_lt _ _ t (by simp; omega), World.cell?_alloc_lt _ _ t (by simp; omega), World.cell?_alloc_lt _ _ t (by simp; omega), World.cell?_alloc_lt _ _ t htl]; exact ht0)
    (by rw [World.frozen?_alloc_old _ _ t (by simp; omega), World.frozen?_alloc_old _ _ t (by simp; omega), World.frozen?_alloc_old _ _ t (by simp; omega), World.frozen?_alloc_old _ _ t (Nat.ne_of_lt htl)]; exact hf0)
  go_enter Tryz.func166, Tryz.ntmps166
  go_wp2
  refine wp_loop_rounds 1 ?_
  rw [rounds_succ]
  go_wp2
  go_ret
  exact ⟨rfl, rfl⟩

set_option maxHeartbeats 1000000 in
theorem tell_errno (n : Int) (w : World) (hg : w.cell? ⟨3, 0, none⟩ = some (.iface 312 (.agg #[.pointer (some ⟨10, 37, none⟩)]))) :
    Calls Tryz.prog 119 #[.iface 26 (.int .i64 n)] w fun e w' => e = .returned (.int .i64 n) ∧ Below w.heap.size w w' := by
  have hgA := cell_later (boxed (Below.refl _ w) (.cells #[.int .i64 0] 26)) hg
  have htA : (w.alloc (.cells #[.int .i64 0] 26)).cell? ⟨w.heap.size, 0, none⟩ = some (.int .i64 0) := by simp
  have hfA : (w.alloc (.cells #[.int .i64 0] 26)).frozen? ⟨w.heap.size, 0, none⟩ = false := by simp
  go_enter Tryz.func119, Tryz.ntmps119
  go_wp2_with fail
  refine (as_hit _ _ (.int .i64 0) _ hgA htA hfA).mono ?_
  rintro e w1 ⟨rfl, rfl⟩
  go_wp2
  go_ret
  refine ⟨rfl, ?_⟩
  repeat (first | (with_reducible exact Below.refl _ _) | (with_reducible refine boxed ?_ _) | (with_reducible refine Below.setCell ?_ (Nat.le_refl _) _))
end Go.Proofs.YtoanjdndmlffdaaGreatDoor
