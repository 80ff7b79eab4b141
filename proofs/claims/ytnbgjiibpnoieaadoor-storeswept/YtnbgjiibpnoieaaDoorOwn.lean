/-
  A row of bytes that the call itself made, and appends to it: of whatever program. Its cells are as the bytes, those behind are there, and none of them is frozen ('[]byte(s)' bears a mark behind its last cell, which bars nothing).
-/
import Derived.Deep.AppendSrc
import Derived.Laws.IdiomStrings
import Derived.Laws.BytesArg
import Derived.OwnWalk
import Derived.Lib.SlBytesConst
import Derived.Test.YtnbgjiibpnoieaaDoorLater
import Derived.Test.YtnbgjiibpnoieaaDoorBytes
namespace Go.Proofs.YtnbgjiibpnoieaaDoor
open Go.RowKit

/-- block g, at or behind B, holds the bytes S, with room up to cap -/
structure Own (w : World) (B g cap : Nat) (S : ByteArray) : Prop where
  base : B ≤ g
  lt : g < w.heap.size
  room : S.size ≤ cap
  most : cap ≤ maxLen
  have_ : ∀ j u, (byteCells S)[j]? = some u → w.cell? ⟨g, j, none⟩ = some u
  there : ∀ j, j < cap → (w.cell? ⟨g, j, none⟩).isSome = true
  free : ∀ j, j < cap → w.frozen? ⟨g, j, none⟩ = false

theorem Own.kept {w w' : World} {B g cap : Nat} {S : ByteArray} (h : Own w B g cap S) (hb : w'.heap[g]? = w.heap[g]?) (hs : w.heap.size ≤ w'.heap.size) : Own w' B g cap S :=
  ⟨h.base, Nat.lt_of_lt_of_le h.lt hs, h.room, h.most, fun j u hu => by rw [World.cell?_of_block (w := w) hb]; exact h.have_ j u hu,
    fun j hj => by rw [World.cell?_of_block (w := w) hb]; exact h.there j hj, fun j hj => by rw [World.frozen?_of_block (w := w) hb]; exact h.free j hj⟩
theorem Own.later {w w' : World} {B g cap : Nat} {S : ByteArray} (h : Own w B g cap S) (hb : Below w.heap.size w w') : Own w' B g cap S := h.kept (hb.block g h.lt) hb.size
theorem Own.alloc {w : World} {B g cap : Nat} {S : ByteArray} (h : Own w B g cap S) (o : Obj) : Own (w.alloc o) B g cap S := h.later (boxed (Below.refl _ _) o)

theorem byteCells_append (a b : ByteArray) : byteCells (a ++ b) = byteCells a ++ byteCells b := by
  unfold byteCells
  rw [ByteArray.data_append, Array.toList_append, List.map_append]
theorem byteCells_one {n : Int} (h0 : 0 ≤ n) (h1 : n < 256) : byteCells (byteS n) = [.int .u8 n] := by
  have e : (UInt8.ofNat n.toNat).toNat = n.toNat := by
    rw [UInt8.toNat_ofNat']
    exact Nat.mod_eq_of_lt (by omega)
  show [Value.int .u8 (UInt8.ofNat n.toNat).toNat] = _
  rw [e, Int.toNat_of_nonneg h0]

theorem Own.mono {w : World} {B B' g cap : Nat} {S : ByteArray} (h : Own w B g cap S) (hB : B' ≤ B) : Own w B' g cap S := ⟨Nat.le_trans hB h.base, h.lt, h.room, h.most, h.have_, h.there, h.free⟩

/-- '[]byte("t")': a row of one byte, new -/
theorem Own.one (w : World) (B : Nat) (e : TypeId) {n : Int} (h0 : 0 ≤ n) (h1 : n < 256) (hB : B ≤ w.heap.size) : Own (w.alloc (.cells #[.int .u8 n] e (1, 2))) B w.heap.size 1 (byteS n) := by
  have hcell : ∀ j, (w.alloc (.cells #[.int .u8 n] e (1, 2))).cell? ⟨w.heap.size, j, none⟩ = (#[Value.int .u8 n])[j]? := fun j => cell_of_row _ w.heap.size j _ e (1, 2) (heap_alloc_new w (.cells #[.int .u8 n] e (1, 2)))
  refine ⟨hB, by simp, Nat.le_refl _, by simp [maxLen], fun j u hu => ?_, fun j hj => ?_, fun j hj => ?_⟩
  · rw [byteCells_one h0 h1] at hu
    rw [hcell]
    simpa using hu
  · obtain rfl : j = 0 := by omega
    rw [hcell]
    rfl
  · obtain rfl : j = 0 := by omega
    have hn := heap_alloc_new w (.cells #[.int .u8 n] e (1, 2))
    unfold World.frozen?
    rw [hn]
    rfl

/-- block g alone was written, and new ones -/
abbrev Only (g : Nat) (w w' : World) : Prop := w.grownBy w' (some g)

theorem Only.refl (g : Nat) (w : World) : Only g w w := ⟨rfl, rfl, rfl, Nat.le_refl _, fun _ _ _ => rfl⟩
theorem Only.trans {g g' : Nat} {a b c : World} (h : Only g a b) (k : Only g' b c) (e : g' = g ∨ a.heap.size ≤ g') : Only g a c :=
  ⟨k.os.trans h.os, k.tape.trans h.tape, k.output.trans h.output, Nat.le_trans h.size k.size, fun i hi hne =>
    (k.block i (Nat.lt_of_lt_of_le hi h.size) (fun x => by
      injection x with x
      rcases e with e | e
      · exact hne (by rw [x, e])
      · omega)).trans (h.block i hi hne)⟩
theorem Only.ofBelow {g : Nat} {w w' : World} (h : Below w.heap.size w w') : Only g w w' := ⟨h.os, h.tape, h.output, h.size, fun k hk _ => h.block k hk⟩
theorem Only.below {g B : Nat} {w w' : World} (h : Only g w w') (hg : B ≤ g) (hB : B ≤ w.heap.size) : Below B w w' :=
  ⟨h.os, h.tape, h.output, h.size, fun k hk => h.block k (by omega) (fun x => by injection x with x; omega)⟩
theorem Only.cell {g : Nat} {w w' : World} (h : Only g w w') {p : Addr} {v : Value} (hc : w.cell? p = some v) (hne : p.block ≠ g) : w'.cell? p = some v := World.grownBy.cell h hc (fun x => by injection x with x; exact hne x)

theorem only_setCells (g : Nat) : ∀ (vs : List Value) (o : Nat) (w : World), Only g w (w.setCells g o vs)
  | [], _, w => Only.refl g w
  | v :: vs, o, w =>
    have h1 : Only g w (w.setCell ⟨g, o, none⟩ v) := ⟨rfl, rfl, rfl, by simp [World.setCell], fun k _ hk => Below.heap_setCell w ⟨g, o, none⟩ v k (fun e => hk (by rw [e]))⟩
    Only.trans h1 (only_setCells g vs (o + 1) (w.setCell ⟨g, o, none⟩ v)) (.inl rfl)

/-- the law of an append of bytes, wherever they come from -/
theorem run_append_bytes {P : Program} {w : World} (t tx ty e : TypeId) (ht : P.underlying t = some (.slice e)) (hI : (P.info? e).map (fun i => (i.zero, i.size, i.bytes)) = some (some (.int .u8 0), 1, 1))
    {B g cap : Nat} {S : ByteArray} (hown : Own w B g cap S) (T : ByteArray) (v : Value) (hsrc : Src P 1 tx v T.size (byteCells T) w) (hsz : S.size + T.size ≤ 1000000) (hB : B ≤ w.heap.size) :
    ∃ g' cap' w', (Builtin.append_ #[t, tx] ty #[.slice (some ⟨g, 0, none⟩) S.size cap, v]).run P w = .ok (.slice (some ⟨g', 0, none⟩) (S ++ T).size cap') w' ∧ Own w' B g' cap' (S ++ T) ∧ (g' = g ∨ g' = w.heap.size) ∧ Only g w w' := by
  obtain ⟨i, hi, hz, hs1, hb1⟩ := info_parts hI
  have hl : (byteCells T).length = T.size := byteCells_length T
  have hl0 : (byteCells S).length = S.size := byteCells_length S
  rw [ByteArray.size_append]
  by_cases hroom : S.size + T.size ≤ cap
  · have hc : ∀ j, j < (byteCells T).length → (w.cell? ⟨g, 0 + S.size * i.size + j, none⟩).isSome = true := fun j hj => by
      rw [hs1, Nat.mul_one, Nat.zero_add]; exact hown.there _ (by omega)
    have hf : ∀ j, j < (byteCells T).length → w.frozen? ⟨g, 0 + S.size * i.size + j, none⟩ = false := fun j hj => by
      rw [hs1, Nat.mul_one, Nat.zero_add]; exact hown.free _ (by omega)
    have hr := run_append_room_src (P := P) w t tx ty e i ht hi g 0 S.size cap v T.size (byteCells T) (by rw [hs1]; exact hsrc) hroom hc hf
    rw [hs1, Nat.mul_one, Nat.zero_add] at hr
    rw [hs1, Nat.mul_one, Nat.zero_add] at hc
    refine ⟨g, cap, _, hr, ⟨hown.base, Nat.lt_of_lt_of_le hown.lt (only_setCells g _ _ w).size, by rw [ByteArray.size_append]; exact hroom, hown.most, ?_, ?_, ?_⟩, .inl rfl, only_setCells g _ _ w⟩
    · intro j u hu
      rw [byteCells_append] at hu
      rcases Nat.lt_or_ge j S.size with hj | hj
      · rw [List.getElem?_append_left (by omega)] at hu
        rw [World.cell?_setCells_out g _ _ _ _ (fun _ _ => .inl hj)]
        exact hown.have_ j u hu
      · rw [List.getElem?_append_right (by omega), hl0] at hu
        have hj2 : j - S.size < (byteCells T).length := by
          rcases Nat.lt_or_ge (j - S.size) (byteCells T).length with h | h
          · exact h
          · rw [List.getElem?_eq_none h] at hu; cases hu
        have := World.cell?_setCells_in g (byteCells T) S.size w hc (j - S.size) hj2
        rw [Nat.add_sub_cancel' hj] at this
        rw [this]
        rw [List.getElem?_eq_getElem hj2] at hu
        exact hu
    · intro j hj
      by_cases hin : S.size ≤ j ∧ j < S.size + T.size
      · have := World.cell?_setCells_in g (byteCells T) S.size w hc (j - S.size) (by omega)
        rw [Nat.add_sub_cancel' hin.1] at this
        rw [this]; rfl
      · rw [World.cell?_setCells_out g _ _ _ _ (fun _ _ => by rw [hl]; show j < S.size ∨ S.size + T.size ≤ j; omega)]
        exact hown.there j hj
    · intro j hj
      rw [World.frozen?_setCells]
      exact hown.free j hj
  · have hold : (Builtin.firstCells i.size S.size (.slice (some ⟨g, 0, none⟩) S.size cap)).run P w.drew = .ok (byteCells S).toArray w.drew :=
      run_firstCells_some w.drew i.size S.size ⟨g, 0, none⟩ S.size cap (byteCells S) (by rw [hs1, Nat.mul_one, hl0]) (fun j u hu => by
        have hadd : (⟨g, 0, none⟩ : Addr).add j = ⟨g, j, none⟩ := by unfold Addr.add; split <;> simp_all
        rw [hadd]
        exact hown.have_ j u hu)
    have hr := run_append_grow_src (P := P) w t tx ty e i (.int .u8 0) ht hi hz (some ⟨g, 0, none⟩) S.size cap (byteCells S) hold v T.size (byteCells T) (by rw [hs1]; exact hsrc) (by omega) (by omega) (by rw [hb1]; exact growslice_fits (by omega) (by omega))
    have hge := grownCap_ge w (S.size + T.size) cap e
    have hcm := grownCap_le_maxLen w (S.size + T.size) cap e (by simp only [maxLen]; omega)
    have hlen : ((byteCells S ++ byteCells T).toArray ++ Builtin.zeroCells (Value.int IntKind.u8 0).cells (grownCap w (S.size + T.size) cap e - (S.size + T.size))).size = grownCap w (S.size + T.size) cap e := by
      have hz1 : (Value.int IntKind.u8 0).cells.size = 1 := rfl
      simp only [Array.size_append, List.size_toArray, List.length_append, size_zeroCells, hz1, hl, hl0]
      omega
    have hnew := heap_alloc_new w.drew (.cells ((byteCells S ++ byteCells T).toArray ++ Builtin.zeroCells (Value.int IntKind.u8 0).cells (grownCap w (S.size + T.size) cap e - (S.size + T.size))) e)
    have hcell : ∀ j, (w.drew.alloc (.cells ((byteCells S ++ byteCells T).toArray ++ Builtin.zeroCells (Value.int IntKind.u8 0).cells (grownCap w (S.size + T.size) cap e - (S.size + T.size))) e)).cell? ⟨w.heap.size, j, none⟩ = ((byteCells S ++ byteCells T).toArray ++ Builtin.zeroCells (Value.int IntKind.u8 0).cells (grownCap w (S.size + T.size) cap e - (S.size + T.size)))[j]? := fun j => cell_of_row _ w.heap.size j _ e (0, 0) hnew
    refine ⟨w.heap.size, _, _, hr, ⟨hB, by simp, by rw [ByteArray.size_append]; exact hge, hcm, ?_, ?_, ?_⟩, .inr rfl, ⟨rfl, rfl, rfl, by simp, fun k hk _ => Below.heap_alloc w.drew _ k hk⟩⟩
    · intro j u hu
      rw [hcell, Array.getElem?_append_left (by
        rcases Nat.lt_or_ge j (byteCells (S ++ T)).length with h | h
        · rw [byteCells_append] at h; simpa using h
        · rw [List.getElem?_eq_none h] at hu; cases hu)]
      rw [byteCells_append] at hu
      simpa using hu
    · intro j hj
      rw [hcell, Array.getElem?_eq_getElem (by rw [hlen]; exact hj)]
      rfl
    · intro j _
      exact World.frozen?_alloc_at _ _ _ _ rfl

theorem wpList_append_bytes {P : Program} {w : World} {ops : Array Oper} {rest : List Oper} {o : Oper} {a : Act} {Q : Exit → Act → World → Prop} (hgd : o.guard = none) (s x : Operand) (t tx e : TypeId)
    (ho : o.op = .call { callee := .builtin .append, args := #[s, x], argTypes := #[t, tx] }) (ht : P.underlying t = some (.slice e)) (hI : (P.info? e).map (fun i => (i.zero, i.size, i.bytes)) = some (some (.int .u8 0), 1, 1))
    {B g cap : Nat} {S : ByteArray} (hs : a.eval s = .slice (some ⟨g, 0, none⟩) S.size cap) (hown : Own w B g cap S) (T : ByteArray) (v : Value) (hx : a.eval x = v) (hsrc : Src P 1 tx v T.size (byteCells T) w) (hsz : S.size + T.size ≤ 1000000) (hB : B ≤ w.heap.size)
    (h : ∀ S' g' cap' w', Hid (S' = S ++ T) → Own w' B g' cap' S' → (g' = g ∨ g' = w.heap.size) → Only g w w' → wpList P ops Q rest (a.put o.dst (.slice (some ⟨g', 0, none⟩) S'.size cap')) w') : wpList P ops Q (o :: rest) a w := by
  refine wpList_plain hgd fun K hK => ?_
  obtain ⟨g', cap', w', hr, h2, h3, h4⟩ := run_append_bytes (P := P) t tx o.type e ht hI hown T v hsrc hsz hB
  unfold Oper.wp execOp
  simp only [ho, resolve, invoke, builtin, Sem.run_bind, Sem.run_pure, Result.andThen_ok, List.map_toArray, List.map_cons, List.map_nil, hs, hx, hr]
  exact hK _ _ (h _ g' cap' w' rfl h2 h3 h4)

/-- one byte, laid in a block of its own, as 'append(b, c)' does -/
theorem srcByte {P : Program} {w : World} {tx e : TypeId} (ht : P.underlying tx = some (.slice e)) {b : Nat} {n : Int} (h0 : 0 ≤ n) (h1 : n < 256) (c : Nat) (hc : w.cell? ⟨b, 0, none⟩ = some (.int .u8 n)) :
    Src P 1 tx (.slice (some ⟨b, 0, none⟩) 1 c) (byteS n).size (byteCells (byteS n)) w := by
  rw [byteS_size, byteCells_one h0 h1]
  refine Src.ofSlice w ht _ 1 c _ rfl ?_ ?_
  · intro j u hu
    match j, hu with
    | 0, hu =>
      injection hu with hu
      subst hu
      exact hc
    | j + 1, hu => cases hu
  · intro u hu
    simp only [List.mem_singleton] at hu
    subst hu
    rfl

/-- the bytes of a row that the call owns, as a string -/
theorem Own.str {P : Program} {w : World} {B g cap : Nat} {S : ByteArray} (h : Own w B g cap S) (src e dst : TypeId) (hs : P.underlying src = some (.slice e)) (he : P.underlying e = some (.int .u8)) (hd : P.underlying dst = some .string) :
    (convert src dst (.slice (some ⟨g, 0, none⟩) S.size cap)).run P w = .ok (.string S) w := by
  have hlen : (S.data.toList.map fun b => (b.toNat : Int)).length = S.size := by rw [List.length_map, Array.length_toList]; rfl
  have := run_convert_bytes_arg (P := P) w src e hs he g 0 S.size cap (S.data.toList.map fun b => (b.toNat : Int)) hlen (fun j hj => by
    rw [Nat.zero_add]
    have hj' : j < (S.data.toList.map fun b => (b.toNat : Int)).length := by omega
    have hj2 : j < S.data.toList.length := by simpa using hj'
    refine h.have_ j _ ?_
    unfold byteCells
    simp [List.getD, List.getElem?_eq_getElem hj2]) dst hd
  rw [this]
  congr 2
  unfold strOfNums
  rw [List.map_map]
  have e : ((fun n : Int => UInt8.ofNat n.toNat) ∘ fun b : UInt8 => (b.toNat : Int)) = id := by
    funext b
    simp
  rw [e, List.map_id]

end Go.Proofs.YtnbgjiibpnoieaaDoor
