import Derived.Test.YtoanjdndmlffdaaGreatDoorClock
import Derived.Shelf.RegionOpen
import Derived.Test.YtoanjdndmlffdaaGreatDoorRightV
namespace Go.Proofs.YtoanjdndmlffdaaGreatDoor
open Go.RowKit
theorem vec_at {w : World} {b : Nat} {a0 a1 a2 a3 site : Int} (h : Row4 w b a0 a1 a2 a3) (h0 : 0 ≤ site) (h1 : site ≤ 3) : w.cell? ⟨b, site.toNat, none⟩ = some (.int .i64 (depOf site a0 a1 a2 a3)) := by
  have : site = 0 ∨ site = 1 ∨ site = 2 ∨ site = 3 := by omega
  rcases this with rfl | rfl | rfl | rfl
  · exact h.c0
  · exact h.c1
  · exact h.c2
  · exact h.c3
/-- the best one so far, in its box -/
def bestL : Option Ver → List Value
  | none => verL ver0
  | some v => verL v
def someB : Option Ver → Bool
  | none => false
  | some _ => true
theorem bestL_eq (best : Option Ver) : bestL best = verL (best.getD ver0) := by cases best <;> rfl
/-- what is read where that is the last one -/
def readO : Option Ver → Ver × Int
  | none => (ver0, 8)
  | some v => if v.gone then (ver0, 8) else (v, 0)
/-- what is read of a key at a vector: the version, and the error -/
def readV (key a0 a1 a2 a3 : Int) (l : List Hd) : Ver × Int := if inB key 0 7 = true then readO (lastV key a0 a1 a2 a3 l) else (ver0, 2)
/-- of the same key, stamp and site -/
def twinB (key : Int) (v : Ver) (h : Hd) : Bool := decide (h.key = key) && (decide (h.v.wall = v.wall) && decide (h.v.count = v.count)) && decide (h.v.site = v.site)
/-- the error of a Put -/
def putE (l : List Hd) (key : Int) (v : Ver) : Int := if inB key 0 7 = true then (if okVer v = true then (if l.any (twinB key v) = true then 9 else 0) else 1) else 2
/-- what is held behind it -/
def putL (l : List Hd) (key : Int) (v : Ver) : List Hd := if putE l key v = 0 then l ++ [⟨key, v⟩] else l
/-- only blocks of F, and new ones, were written -/
structure Touch (F : Nat → Prop) (w w' : World) : Prop where
  os : w'.os = w.os
  tape : w'.tape = w.tape
  output : w'.output = w.output
  size : w.heap.size ≤ w'.heap.size
  block : ∀ k, k < w.heap.size → ¬ F k → w'.heap[k]? = w.heap[k]?
theorem Touch.ofBelow {F : Nat → Prop} {w w' : World} (h : Below w.heap.size w w') : Touch F w w' := ⟨h.os, h.tape, h.output, h.size, fun k hk _ => h.block k hk⟩
theorem Touch.trans {F : Nat → Prop} {a b c : World} (h : Touch F a b) (k : Touch F b c) : Touch F a c :=
  ⟨k.os.trans h.os, k.tape.trans h.tape, k.output.trans h.output, Nat.le_trans h.size k.size, fun i hi hf => (k.block i (Nat.lt_of_lt_of_le hi h.size) hf).trans (h.block i hi hf)⟩
theorem Touch.grown {F : Nat → Prop} {w w' : World} {r : Option Nat} (h : w.grownBy w' r) (hr : ∀ k, r = some k → F k) : Touch F w w' :=
  ⟨h.os, h.tape, h.output, h.size, fun k hk hf => h.block k hk (fun e => hf (hr k e.symm))⟩
theorem Touch.setCell {F : Nat → Prop} (w : World) (p : Addr) (u : Value) (hp : F p.block) : Touch F w (w.setCell p u) :=
  ⟨rfl, rfl, rfl, by simp [World.setCell], fun k _ hf => Below.heap_setCell w p u k (fun e => hf (by rw [e]; exact hp))⟩
theorem onlyCell (g o : Nat) (w : World) (v : Value) : Only g w (w.setCell ⟨g, o, none⟩ v) := ⟨rfl, rfl, rfl, by simp [World.setCell], fun k _ hk => Below.heap_setCell w ⟨g, o, none⟩ v k (fun e => hk (by rw [e]))⟩
/-- two versions are the same -/
def eqV (a b : Ver) : Bool := (a.wall == b.wall && a.count == b.count) && a.site == b.site && a.seq == b.seq && a.data.toList == b.data.toList && a.gone == b.gone
theorem eqStamp9 (a b c d : Int) (w : World) : (Op.equalIn 9999 79 (.agg #[.int .i64 a, .int .i64 b]) (.agg #[.int .i64 c, .int .i64 d])).run Tryz.prog w = .ok (a == c && b == d) w := by
  have u3 := Tryz.underlying3
  have a3 := Tryz.isAgg3
  have z3 := Tryz.sizeOf3
  have hS : Tryz.prog.underlying 79 = some (.struct (Tryz.prog.fieldsOf 79)) := by kernel_rfl
  have hp : Tryz.prog.stoodInHeld 79 = false := by kernel_rfl
  rw [show (9999 : Nat) = 9998 + 1 from rfl, run_equalIn_agg w 9998 79 _ _ hS hp]
  simp only [Program.fieldsOf, Tryz.underlying79]
  go_simp
  by_cases h1 : a = c <;> by_cases h2 : b = d <;> simp [h1, h2]
theorem eqVerB (a b : Ver) (w : World) : (binOp .eql 130 (.agg #[.int .i64 a.wall, .int .i64 a.count, .int .i64 a.site, .int .i64 a.seq, .string a.data, .bool a.gone]) (.agg #[.int .i64 b.wall, .int .i64 b.count, .int .i64 b.site, .int .i64 b.seq, .string b.data, .bool b.gone])).run Tryz.prog w = .ok (.bool (eqV a b)) w := by
  have u3 := Tryz.underlying3
  have a3 := Tryz.isAgg3
  have z3 := Tryz.sizeOf3
  have u4 := Tryz.underlying4
  have a4 := Tryz.isAgg4
  have z4 := Tryz.sizeOf4
  have u9 := Tryz.underlying9
  have a9 := Tryz.isAgg9
  have z9 := Tryz.sizeOf9
  have hS : Tryz.prog.underlying 130 = some (.struct (Tryz.prog.fieldsOf 130)) := by kernel_rfl
  have hp : Tryz.prog.stoodInHeld 130 = false := by kernel_rfl
  have s9 := eqStamp9
  have aS := Tryz.isAgg79
  have zS := Tryz.sizeOf79
  rw [run_eql_struct]
  rw [show (10000 : Nat) = 9999 + 1 from rfl, run_equalIn_agg w 9999 130 _ _ hS hp]
  simp only [Program.fieldsOf, Tryz.underlying130]
  go_simp
  by_cases h1 : a.wall = b.wall <;> by_cases h2 : a.count = b.count <;> by_cases h3 : a.site = b.site <;> by_cases h4 : a.seq = b.seq <;> by_cases h5 : a.data.toList = b.data.toList <;> by_cases h6 : a.gone = b.gone <;> simp [eqV, h1, h2, h3, h4, h5, h6]
/-- what stays behind a sweep -/
def keepV (a0 a1 a2 a3 : Int) (l : List Hd) (h : Hd) : Bool := !(someB (lastV h.key a0 a1 a2 a3 l)) || eqV ((lastV h.key a0 a1 a2 a3 l).getD ver0) h.v || !(hasV a0 a1 a2 a3 h.v)
def sweepL (a0 a1 a2 a3 : Int) (l : List Hd) : List Hd := l.filter (keepV a0 a1 a2 a3 l)
theorem Row4.grown4 {w w' : World} {r : Option Nat} {b : Nat} {a0 a1 a2 a3 : Int} (h : Row4 w b a0 a1 a2 a3) (hg : w.grownBy w' r) (hne : some b ≠ r) : Row4 w' b a0 a1 a2 a3 := by
  have e := hg.block b h.lt hne
  constructor
  · rw [World.cell?_of_block (w := w) e]; exact h.c0
  · rw [World.cell?_of_block (w := w) e]; exact h.c1
  · rw [World.cell?_of_block (w := w) e]; exact h.c2
  · rw [World.cell?_of_block (w := w) e]; exact h.c3
  · rw [World.frozen?_of_block (w := w) e]; exact h.f0
  · rw [World.frozen?_of_block (w := w) e]; exact h.f1
  · rw [World.frozen?_of_block (w := w) e]; exact h.f2
  · rw [World.frozen?_of_block (w := w) e]; exact h.f3
theorem stepV_cases (key a0 a1 a2 a3 : Int) (best : Option Ver) (h : Hd) : stepV key a0 a1 a2 a3 best h = best ∨ (stepV key a0 a1 a2 a3 best h = some h.v ∧ h.key = key ∧ hasV a0 a1 a2 a3 h.v = true) := by
  by_cases hc : h.key = key ∧ hasV a0 a1 a2 a3 h.v = true ∧ (match best with | none => true | some b => beforeV b h.v) = true
  · exact .inr ⟨stepV_some hc, hc.1, hc.2.1⟩
  · exact .inl (stepV_none hc)
theorem foldl_step (key a0 a1 a2 a3 : Int) (v : Ver) : ∀ (l : List Hd) (best : Option Ver), l.foldl (stepV key a0 a1 a2 a3) best = some v → best = some v ∨ ∃ h ∈ l, h.v = v ∧ h.key = key ∧ hasV a0 a1 a2 a3 v = true
  | [], best, h => .inl h
  | x :: l, best, h => by
    rcases foldl_step key a0 a1 a2 a3 v l _ h with e | ⟨y, hy, e⟩
    · rcases stepV_cases key a0 a1 a2 a3 best x with hc | ⟨hc, h1, h2⟩
      · rw [hc] at e
        exact .inl e
      · rw [hc] at e
        injection e with e
        subst e
        exact .inr ⟨x, by simp, rfl, h1, h2⟩
    · exact .inr ⟨y, by simp [hy], e⟩
theorem lastV_mem {key a0 a1 a2 a3 : Int} {l : List Hd} {v : Ver} (h : lastV key a0 a1 a2 a3 l = some v) : ∃ x ∈ l, x.v = v ∧ x.key = key ∧ hasV a0 a1 a2 a3 v = true := by
  rcases foldl_step key a0 a1 a2 a3 v l none h with e | e
  · cases e
  · exact e
theorem okVer_size {v : Ver} (h : okVer v = true) : v.data.size ≤ 12 := by
  simp only [okVer, Bool.and_eq_true, decide_eq_true_eq] at h
  have := h.1.2
  omega
theorem readV_size {key a0 a1 a2 a3 : Int} {l : List Hd} (hok : ∀ h ∈ l, okVer h.v = true) : (readV key a0 a1 a2 a3 l).1.data.size ≤ 12 := by
  have z : ver0.data.size ≤ 12 := by decide
  unfold readV
  split
  · cases e : lastV key a0 a1 a2 a3 l with
    | none => exact z
    | some v =>
      obtain ⟨x, hx, e2, _⟩ := lastV_mem e
      show (if v.gone = true then (ver0, (8 : Int)) else (v, 0)).1.data.size ≤ 12
      split
      · exact z
      · rw [← e2]; exact okVer_size (hok x hx)
  · exact z
/-- what is told of a key -/
def toldV (a0 a1 a2 a3 : Int) (l : List Hd) (key : Int) : ByteArray := if (readV key a0 a1 a2 a3 l).2 = 0 then (⟨#[61]⟩ : ByteArray) ++ (readV key a0 a1 a2 a3 l).1.data else ⟨#[]⟩
/-- .. of the first k keys, as cells -/
def toldC (a0 a1 a2 a3 : Int) (l : List Hd) (k : Nat) : List Value := (List.range k).map fun (i : Nat) => Value.string (toldV a0 a1 a2 a3 l i)
theorem toldC_succ (a0 a1 a2 a3 : Int) (l : List Hd) (k : Nat) : toldC a0 a1 a2 a3 l (k + 1) = toldC a0 a1 a2 a3 l k ++ [.string (toldV a0 a1 a2 a3 l k)] := by
  unfold toldC
  rw [List.range_succ, List.map_append]
  rfl
theorem strInfo : (Tryz.prog.info? 9).map (fun i => (i.zero, i.size, i.bytes)) = some (some (.string ⟨#[]⟩), 1, 16) := by kernel_rfl
/-- a transaction -/
structure TxP where
  site : Int
  seq : Int
  wall : Int
  count : Int
  d0 : Int
  d1 : Int
  d2 : Int
  d3 : Int
  ws : List Wr
/-- a write of it, as a version -/
def verOf (t : TxP) (x : Wr) : Ver := ⟨t.wall, t.count, t.site, t.seq, x.data, x.gone⟩
/-- its writes are put -/
def putsT (t : TxP) (ws : List Wr) (l : List Hd) : List Hd := ws.foldl (fun l x => putL l x.key (verOf t x)) l
theorem putsT_snoc {t : TxP} {ws : List Wr} {l : List Hd} {k : Nat} (hk : k < ws.length) : putsT t (ws.take (k + 1)) l = putL (putsT t (ws.take k) l) (wrAt ws k).key (verOf t (wrAt ws k)) := by
  unfold putsT
  rw [List.take_succ_eq_append_getElem hk, List.foldl_append]
  simp [wrAt, List.getD, List.getElem?_eq_getElem hk]
theorem putsT_length (t : TxP) : ∀ (ws : List Wr) (l : List Hd), (putsT t ws l).length ≤ l.length + ws.length
  | [], _ => by simp [putsT]
  | x :: ws, l => by
    have ih := putsT_length t ws (putL l x.key (verOf t x))
    have h : (putL l x.key (verOf t x)).length ≤ l.length + 1 := by
      unfold putL
      split
      · simp
      · omega
    show (putsT t ws (putL l x.key (verOf t x))).length ≤ _
    simp only [List.length_cons]
    omega

/-- a vector with one number another -/
def setV0 (s x a0 : Int) : Int := if s = 0 then x else a0
def setV1 (s x a1 : Int) : Int := if s = 1 then x else a1
def setV2 (s x a2 : Int) : Int := if s = 2 then x else a2
def setV3 (s x a3 : Int) : Int := if s = 3 then x else a3

/-- a site -/
structure SiteS where
  id : Int
  a0 : Int
  a1 : Int
  a2 : Int
  a3 : Int
  lw : Int
  lc : Int
  log : List TxP
  waits : List TxP
  l : List Hd
  oth : Nat → Int
/-- a transaction is applied -/
def applyS (S : SiteS) (t : TxP) : SiteS :=
  { S with a0 := setV0 t.site t.seq S.a0, a1 := setV1 t.site t.seq S.a1, a2 := setV2 t.site t.seq S.a2, a3 := setV3 t.site t.seq S.a3,
           lw := if 0 < cmpS t.wall t.count S.lw S.lc then t.wall else S.lw, lc := if 0 < cmpS t.wall t.count S.lw S.lc then t.count else S.lc,
           log := S.log ++ [t], l := putsT t t.ws S.l }
/-- it may be applied -/
def readyS (S : SiteS) (t : TxP) : Bool := decide (t.seq = depOf t.site S.a0 S.a1 S.a2 S.a3 + 1) && covB S.a0 S.a1 S.a2 S.a3 t.d0 t.d1 t.d2 t.d3
/-- a transaction in memory: where its writes lie -/
structure TxM where
  t : TxP
  wa : Option Addr
  wc : Nat
def txC (m : TxM) : List Value := [.int .i64 m.t.site, .int .i64 m.t.seq, .int .i64 m.t.wall, .int .i64 m.t.count, .int .i64 m.t.d0, .int .i64 m.t.d1, .int .i64 m.t.d2, .int .i64 m.t.d3, .slice m.wa m.t.ws.length m.wc]
def txsC (l : List TxM) : List Value := l.flatMap txC
theorem txsC_snoc (l : List TxM) (m : TxM) : txsC (l ++ [m]) = txsC l ++ txC m := by simp [txsC]
theorem txC_one (m : TxM) : ∀ u ∈ txC m, u.oneCell' = true := by
  intro u hu
  simp [txC] at hu
  rcases hu with rfl | rfl | rfl | rfl | rfl | rfl | rfl | rfl | rfl <;> rfl
/-- the block of its writes -/
def TxM.blk (m : TxM) (k : Nat) : Prop := m.t.ws ≠ [] ∧ ∃ off, m.wa = some ⟨k, off, none⟩
theorem own_keptN {w w' : World} {B n N : Nat} {T : TypeId} {v : Value} {xs : List Value} (h : w.ownsRow B T N v n xs) (hk : ∀ k, v.ownBlock = some k → w'.heap[k]? = w.heap[k]?) : w'.ownsRow B T N v n xs := by
  refine ⟨h.1, ?_⟩
  rcases h.2 with hn | ⟨g, cap, cur, rfl, hb, hg, rest⟩
  · exact .inl hn
  · exact .inr ⟨g, cap, cur, rfl, hb, by rw [hk g rfl]; exact hg, rest⟩
theorem WrIn.kept {w w' : World} {m : TxM} (h : WrIn w m.wa m.wc m.t.ws) (hk : ∀ k, m.blk k → w'.heap[k]? = w.heap[k]?) : WrIn w' m.wa m.wc m.t.ws := by
  refine ⟨h.len, h.cap, ?_⟩
  rcases h.held with h0 | ⟨b, off, e, c⟩
  · exact .inl h0
  · by_cases h0 : m.t.ws = []
    · exact .inl h0
    · refine .inr ⟨b, off, e, fun i hi => ?_⟩
      have eb := hk b ⟨h0, off, e⟩
      have := c i hi
      rw [World.cell?_of_block (w := w) (a := ⟨b, off + i * 3, none⟩) eb, World.cell?_of_block (w := w) (a := ⟨b, off + i * 3 + 1, none⟩) eb, World.cell?_of_block (w := w) (a := ⟨b, off + i * 3 + 1 + 1, none⟩) eb]
      exact this
theorem WrIn.blk_lt {w : World} {m : TxM} (h : WrIn w m.wa m.wc m.t.ws) : ∀ k, m.blk k → k < w.heap.size := fun k ⟨h0, off, e⟩ => by
  rcases h.held with h1 | ⟨b, off', e', c⟩
  · exact absurd h1 h0
  · rw [e] at e'
    injection e' with e'
    injection e' with e1 e2
    subst e1
    have hl : 0 < m.t.ws.length := by
      rcases Nat.eq_zero_or_pos m.t.ws.length with g | g
      · exact absurd (List.eq_nil_of_length_eq_zero g) h0
      · exact g
    exact World.block_lt_of_cell? _ _ (c 0 hl).1
/-- of one number -/
def isNum (x t : TxP) : Bool := decide (x.site = t.site) && decide (x.seq = t.seq)
theorem isNum_iff {x t : TxP} : isNum x t = true ↔ x.site = t.site ∧ x.seq = t.seq := by simp [isNum]
/-- the first of a site that may be applied -/
def pickS (S : SiteS) (s : Int) : Option TxP := S.waits.find? (fun x => decide (x.site = s) && readyS S x)
/-- the next one -/
def nextS (S : SiteS) : Option TxP :=
  match pickS S 0 with
  | some x => some x
  | none => match pickS S 1 with
    | some x => some x
    | none => match pickS S 2 with
      | some x => some x
      | none => pickS S 3
/-- without those of a number -/
def dropW (l : List TxP) (t : TxP) : List TxP := l.filter (fun x => !isNum x t)
/-- one is applied, and waits no more -/
def goneS (S : SiteS) (x : TxP) : SiteS := applyS { S with waits := dropW S.waits x } x
/-- what comes of it -/
inductive Goes : SiteS → SiteS → Prop
  | full {S : SiteS} : 200 ≤ S.log.length → Goes S S
  | none {S : SiteS} : nextS S = none → Goes S S
  | step {S S' : SiteS} {x : TxP} : S.log.length < 200 → nextS S = some x → Goes (goneS S x) S' → Goes S S'
theorem Goes.det {S A B : SiteS} (h : Goes S A) : Goes S B → A = B := by
  induction h with
  | full h =>
    intro k
    cases k with
    | full _ => rfl
    | none _ => rfl
    | step h1 _ _ => omega
  | none h =>
    intro k
    cases k with
    | full _ => rfl
    | none _ => rfl
    | step _ h2 _ => rw [h] at h2; cases h2
  | step h1 h2 _ ih =>
    intro k
    cases k with
    | full h => omega
    | none h => rw [h2] at h; cases h
    | step _ h4 h5 =>
      rw [h2] at h4
      injection h4 with h4
      subst h4
      exact ih h5

theorem pickS_mem {S : SiteS} {s : Int} {x : TxP} (h : pickS S s = some x) : x ∈ S.waits ∧ x.site = s ∧ readyS S x = true := by
  have h1 := List.mem_of_find?_eq_some h
  have h2 := List.find?_some h
  simp at h2
  exact ⟨h1, h2.1, h2.2⟩
theorem nextS_mem {S : SiteS} {x : TxP} (h : nextS S = some x) : x ∈ S.waits ∧ readyS S x = true := by
  unfold nextS at h
  split at h
  · rename_i y hy; injection h with h; subst h; exact ⟨(pickS_mem hy).1, (pickS_mem hy).2.2⟩
  · split at h
    · rename_i y hy; injection h with h; subst h; exact ⟨(pickS_mem hy).1, (pickS_mem hy).2.2⟩
    · split at h
      · rename_i y hy; injection h with h; subst h; exact ⟨(pickS_mem hy).1, (pickS_mem hy).2.2⟩
      · exact ⟨(pickS_mem h).1, (pickS_mem h).2.2⟩
theorem pickS_none {S : SiteS} {s : Int} (h : pickS S s = none) : ∀ x ∈ S.waits, x.site = s → readyS S x = false := fun x hx hs => by
  have h1 := List.find?_eq_none.1 h x hx
  simp [hs] at h1
  exact h1
theorem pickS_none' {S : SiteS} {s : Int} (h : ∀ x ∈ S.waits, x.site = s → readyS S x = false) : pickS S s = none := by
  refine List.find?_eq_none.2 fun x hx => ?_
  by_cases e : x.site = s
  · simp [e, h x hx e]
  · simp [e]
/-- numbers are apart -/
def Nums (l : List TxP) : Prop := l.Pairwise (fun x y => isNum x y = false)
theorem Nums.uniq : ∀ {l : List TxP}, Nums l → ∀ {x y : TxP}, x ∈ l → y ∈ l → x.site = y.site → x.seq = y.seq → x = y
  | [], _, _, _, hx, _, _, _ => by cases hx
  | a :: l, h, x, y, hx, hy, e1, e2 => by
    obtain ⟨h1, h2⟩ := List.pairwise_cons.1 h
    rcases List.mem_cons.1 hx with ex | kx
    · rcases List.mem_cons.1 hy with ey | ky
      · rw [ex, ey]
      · have := h1 y ky
        rw [← ex] at this
        simp [isNum, e1, e2] at this
    · rcases List.mem_cons.1 hy with ey | ky
      · have := h1 x kx
        rw [← ey] at this
        simp [isNum, e1, e2] at this
      · exact Nums.uniq h2 kx ky e1 e2
theorem readyS_seq {S : SiteS} {x : TxP} (h : readyS S x = true) : x.seq = depOf x.site S.a0 S.a1 S.a2 S.a3 + 1 ∧ covB S.a0 S.a1 S.a2 S.a3 x.d0 x.d1 x.d2 x.d3 = true := by
  simpa [readyS] using h
theorem pickS_some {S : SiteS} (hn : Nums S.waits) {x : TxP} (hx : x ∈ S.waits) (hr : readyS S x = true) : pickS S x.site = some x := by
  cases h : pickS S x.site with
  | none => rw [pickS_none h x hx rfl] at hr; cases hr
  | some y =>
    obtain ⟨h1, h2, h3⟩ := pickS_mem h
    have e := (readyS_seq hr).1
    have e' := (readyS_seq h3).1
    rw [h2] at e'
    rw [hn.uniq h1 hx h2 (by rw [e, e'])]
theorem Nums.drop {l : List TxP} (h : Nums l) (t : TxP) : Nums (dropW l t) := h.filter _
theorem Nums.snoc {l : List TxP} (h : Nums l) {t : TxP} (ht : ∀ x ∈ l, isNum x t = false) : Nums (l ++ [t]) := by
  refine List.pairwise_append.2 ⟨h, by simp, fun x hx y hy => ?_⟩
  obtain rfl := List.mem_singleton.1 hy
  exact ht x hx
theorem mem_dropW {l : List TxP} {t x : TxP} : x ∈ dropW l t ↔ x ∈ l ∧ isNum x t = false := by simp [dropW, List.mem_filter]
theorem dropW_at : ∀ {l : List TxP}, Nums l → ∀ {i : Nat} {t : TxP}, l[i]? = some t → dropW l t = l.take i ++ l.drop (i + 1)
  | [], _, _, _, h => by simp at h
  | a :: l, hn, 0, t, h => by
    simp at h
    subst h
    obtain ⟨h1, h2⟩ := List.pairwise_cons.1 hn
    have e : isNum a a = true := by simp [isNum]
    simp [dropW, e]
    intro x hx
    have h3 : isNum a x = false := h1 x hx
    cases h4 : isNum x a with
    | false => rfl
    | true =>
      obtain ⟨p, q⟩ := isNum_iff.1 h4
      simp [isNum, p, q] at h3
  | a :: l, hn, i + 1, t, h => by
    obtain ⟨h1, h2⟩ := List.pairwise_cons.1 hn
    have h' : l[i]? = some t := by simpa using h
    have e : isNum a t = false := h1 t (List.mem_of_getElem? h')
    have ih := dropW_at h2 h'
    unfold dropW at ih ⊢
    simp [e, ih]
theorem dropW_length {l : List TxP} (hn : Nums l) {t : TxP} (ht : t ∈ l) : (dropW l t).length + 1 = l.length := by
  obtain ⟨i, hi⟩ := List.getElem?_of_mem ht
  have hlt : i < l.length := (List.getElem?_eq_some_iff.1 hi).1
  rw [dropW_at hn hi]
  simp
  omega
section
open Go.Maps
/-- an element reads as itself -/
def heldR (v : Value) : Option (DataW Value × List MemPlace) := some (.held v, [])
def txV (m : TxM) : Value := .agg #[.int .i64 m.t.site, .int .i64 m.t.seq, .int .i64 m.t.wall, .int .i64 m.t.count, .int .i64 m.t.d0, .int .i64 m.t.d1, .int .i64 m.t.d2, .int .i64 m.t.d3, .slice m.wa m.t.ws.length m.wc]
def txV0 : Value := .agg #[.int .i64 0, .int .i64 0, .int .i64 0, .int .i64 0, .int .i64 0, .int .i64 0, .int .i64 0, .int .i64 0, .slice none 0 0]
theorem tx_zero (w : World) : (zeroValue 102).run Tryz.prog w = .ok txV0 w := by kernel_rfl
theorem manyTypes : Tryz.prog.types.size = 377 := by kernel_rfl
theorem numLaw : Keyed Tryz.prog 338 := Keyed.of_law (deep_law_laid (m := 3) (by kernel_rfl) (by decide) (by rw [manyTypes]; decide) (by kernel_rfl) (by kernel_rfl))
/-- a number, as a key -/
def numV (s q : Int) : Value := .agg #[.int .i64 s, .int .i64 q]
def numL (s q : Int) : Lit := .string (keyBytes [.int .i64 s, .int .i64 q])
def wfI (x : Int) : Prop := -9223372036854775808 ≤ x ∧ x ≤ 9223372036854775807
theorem wf_i {x : Int} (h : wfI x) : (Lit.int .i64 x).wf = true := WalkArith.wf_i64 h
theorem lits_int {x : Int} (hx : wfI x) (n : Nat) : Tryz.prog.keyLits (n + 1) 3 [.int .i64 x] = some [.int .i64 x] := by
  unfold Program.keyLits
  rw [Tryz.underlying3]
  simp [wf_i hx]
theorem lits_num {s q : Int} (hs : wfI s) (hq : wfI q) (n : Nat) : Tryz.prog.keyLits (n + 1 + 1) 338 [.int .i64 s, .int .i64 q] = some [.int .i64 s, .int .i64 q] := by
  have e3 : Tryz.prog.cellsOf 338 = 2 := by kernel_rfl
  have e4 : Tryz.prog.cellsOf 3 = 1 := by kernel_rfl
  unfold Program.keyLits
  rw [Tryz.underlying338]
  simp [e3, e4, lits_int hs n, lits_int hq n]
theorem numKey {s q : Int} (hs : wfI s) (hq : wfI q) : keyOf Tryz.prog 338 (numV s q) = some (numL s q) := by
  have e2 : Tryz.prog.keyType 338 = true := by kernel_rfl
  have e3 : Tryz.prog.cellsOf 338 = 2 := by kernel_rfl
  have e5 : (numV s q).formed Tryz.prog 338 = true := by
    unfold Value.formed numV
    simp only [Tryz.underlying338]
    rw [e3]
    rfl
  have e6 := lits_num hs hq (377 - 1)
  unfold keyOf
  rw [Tryz.underlying338, e2, e5, manyTypes]
  show (if (true && true) = true then Option.map _ (Tryz.prog.keyLits (377 - 1 + 1 + 1) 338 [.int .i64 s, .int .i64 q]) else none) = _
  rw [e6]
  rfl
theorem num_inj {s q s' q' : Int} (hs : wfI s) (hq : wfI q) (hs' : wfI s') (hq' : wfI q') (h : numL s q = numL s' q') : s = s' ∧ q = q' := by
  have h1 := numLaw.inj (numKey hs hq) (by rw [h]; exact numKey hs' hq')
  simp [numV] at h1
  exact h1
theorem num_key (s q : Int) : WideAt.IsKeyLit (numL s q) := trivial

/-- the map's datum holds just these -/
structure MapIs (D : DataW Value) (ws : List TxM) : Prop where
  size : Maps.size D = ws.length
  has : ∀ m ∈ ws, Maps.has D (numL m.t.site m.t.seq) = true ∧ ∀ z, D.atKey (numL m.t.site m.t.seq) z = .held (txV m)
  no : ∀ s q, wfI s → wfI q → (∀ m ∈ ws, ¬ (m.t.site = s ∧ m.t.seq = q)) → Maps.has D (numL s q) = false
def wfN (m : TxM) : Prop := wfI m.t.site ∧ wfI m.t.seq
/-- the block of a map that holds these -/
def PMap (w : World) (bm : Nat) (ws : List TxM) : Prop := (∀ m ∈ ws, wfN m) ∧ Nums (ws.map (·.t)) ∧ ∃ D, w.ownsMap Tryz.prog 338 heldR bm ws.length D ∧ MapIs D ws
theorem PMap.lt {w : World} {bm : Nat} {ws : List TxM} (h : PMap w bm ws) : bm < w.heap.size := by
  obtain ⟨_, _, D, h, _⟩ := h
  exact h.lt
theorem PMap.kept {w w' : World} {bm : Nat} {ws : List TxM} (h : PMap w bm ws) (e : w'.heap[bm]? = w.heap[bm]?) : PMap w' bm ws := by
  obtain ⟨h1, h2, D, ⟨es, clock, hb, r⟩, h4⟩ := h
  exact ⟨h1, h2, D, ⟨es, clock, by rw [e]; exact hb, r⟩, h4⟩
theorem PMap.made (w : World) : PMap (w.alloc (.map #[] 0)) w.heap.size [] :=
  ⟨by simp, by simp [Nums], _, World.ownsMap_made w _ _ _, ⟨rfl, by simp, fun _ _ _ _ _ => rfl⟩⟩
theorem mapIs_put {D : DataW Value} {ws : List TxM} (hD : Tidy D) (h : MapIs D ws) (hw : ∀ m ∈ ws, wfN m) {m : TxM} (hm : wfN m) (hn : ∀ x ∈ ws, isNum x.t m.t = false) : MapIs (D.put (numL m.t.site m.t.seq) (.held (txV m))) (ws ++ [m]) := by
  have hno : Maps.has D (numL m.t.site m.t.seq) = false := h.no _ _ hm.1 hm.2 (fun x hx e => by
    have := hn x hx
    simp [isNum, e.1, e.2] at this)
  refine ⟨by rw [size_put hD, hno]; simp [h.size], fun x hx => ?_, fun s q hs hq hx => ?_⟩
  · rcases List.mem_append.1 hx with hx | hx
    · have hne : numL x.t.site x.t.seq ≠ numL m.t.site m.t.seq := fun e => by
        obtain ⟨e1, e2⟩ := num_inj (hw x hx).1 (hw x hx).2 hm.1 hm.2 e
        have := hn x hx
        simp [isNum, e1, e2] at this
      exact ⟨by rw [has_put_other hne]; exact (h.has x hx).1, fun z => by rw [atKey_put_other hne]; exact (h.has x hx).2 z⟩
    · obtain rfl := List.mem_singleton.1 hx
      exact ⟨has_put_same hD.isMap (num_key _ _) _, fun z => atKey_put_same hD.isMap (num_key _ _) _ z⟩
  · have hne : numL s q ≠ numL m.t.site m.t.seq := fun e => by
      obtain ⟨e1, e2⟩ := num_inj hs hq hm.1 hm.2 e
      exact hx m (by simp) ⟨e1.symm, e2.symm⟩
    rw [has_put_other hne]
    exact h.no s q hs hq (fun x h1 => hx x (by simp [h1]))
/-- without those of a number -/
def dropM (l : List TxM) (t : TxP) : List TxM := l.filter (fun x => !isNum x.t t)
theorem dropM_map (l : List TxM) (t : TxP) : (dropM l t).map (·.t) = dropW (l.map (·.t)) t := by
  unfold dropM dropW
  rw [List.filter_map]
  rfl
theorem mem_dropM {l : List TxM} {t : TxP} {x : TxM} : x ∈ dropM l t ↔ x ∈ l ∧ isNum x.t t = false := by simp [dropM, List.mem_filter]
theorem dropM_length {l : List TxM} (hn : Nums (l.map (·.t))) {m : TxM} (hm : m ∈ l) : (dropM l m.t).length + 1 = l.length := by
  have h := dropW_length hn (t := m.t) (List.mem_map.2 ⟨m, hm, rfl⟩)
  rw [← dropM_map] at h
  simpa using h
theorem mapIs_del {D : DataW Value} {ws : List TxM} (hD : Tidy D) (h : MapIs D ws) (hw : ∀ m ∈ ws, wfN m) (hn : Nums (ws.map (·.t))) {m : TxM} (hm : m ∈ ws) : MapIs (D.del (numL m.t.site m.t.seq)) (dropM ws m.t) := by
  have hl := dropM_length hn hm
  have hs := size_del (k := numL m.t.site m.t.seq) hD
  rw [(h.has m hm).1, h.size] at hs
  refine ⟨by simp at hs; omega, fun x hx => ?_, fun s q h1 h2 hx => ?_⟩
  · obtain ⟨hx, hne⟩ := mem_dropM.1 hx
    have hne : numL x.t.site x.t.seq ≠ numL m.t.site m.t.seq := fun e => by
      obtain ⟨e1, e2⟩ := num_inj (hw x hx).1 (hw x hx).2 (hw m hm).1 (hw m hm).2 e
      simp [isNum, e1, e2] at hne
    exact ⟨by rw [has_del_other hne]; exact (h.has x hx).1, fun z => by rw [atKey_del_other hne]; exact (h.has x hx).2 z⟩
  · by_cases e : numL s q = numL m.t.site m.t.seq
    · rw [e]
      exact has_del_same
    · rw [has_del_other e]
      refine h.no s q h1 h2 (fun x h3 h4 => ?_)
      refine hx x (mem_dropM.2 ⟨h3, ?_⟩) h4
      cases hi : isNum x.t m.t with
      | false => rfl
      | true =>
        obtain ⟨p1, p2⟩ := isNum_iff.1 hi
        exact absurd (by rw [← h4.1, ← h4.2, p1, p2]) e
end
theorem beforeV_iff {a b : Ver} : beforeV a b = true ↔ a.wall < b.wall ∨ (a.wall = b.wall ∧ (a.count < b.count ∨ (a.count = b.count ∧ a.site < b.site))) := by
  unfold beforeV
  rcases cmpS_cases a.wall a.count b.wall b.count with ⟨h, e⟩ | ⟨h, e⟩ | ⟨h, e⟩
  · rw [e, if_neg (by decide)]
    simp only [show decide ((-1 : Int) < 0) = true from rfl, true_iff]
    omega
  · rw [e, if_pos rfl]
    simp only [decide_eq_true_eq]
    omega
  · rw [e, if_neg (by decide)]
    simp only [show decide ((1 : Int) < 0) = false from rfl, Bool.false_eq_true, false_iff]
    omega

/-- of one stamp and site -/
def Twin (a b : Ver) : Prop := a.wall = b.wall ∧ a.count = b.count ∧ a.site = b.site
theorem beforeV_twin {a b : Ver} (h1 : beforeV a b = false) (h2 : beforeV b a = false) : Twin a b := by
  have n1 : ¬ beforeV a b = true := by rw [h1]; decide
  have n2 : ¬ beforeV b a = true := by rw [h2]; decide
  rw [beforeV_iff] at n1 n2
  unfold Twin
  omega
theorem beforeV_irrefl (a : Ver) : beforeV a a = false := by
  cases h : beforeV a a
  · rfl
  · rw [beforeV_iff] at h
    omega
theorem beforeV_trans {a b c : Ver} (h1 : beforeV b a = true) (h2 : beforeV b c = false) : beforeV a c = false := by
  cases h : beforeV a c
  · rfl
  · exfalso
    have n2 : ¬ beforeV b c = true := by rw [h2]; decide
    rw [beforeV_iff] at h h1 n2
    omega

/-- v is the last one of the key among those that the vector has: one of them, none of them behind it -/
def IsLast (key a0 a1 a2 a3 : Int) (l : List Hd) (v : Ver) : Prop := (∃ h ∈ l, h.v = v ∧ h.key = key ∧ hasV a0 a1 a2 a3 v = true) ∧ ∀ h ∈ l, h.key = key → hasV a0 a1 a2 a3 h.v = true → beforeV v h.v = false

theorem foldl_last (key a0 a1 a2 a3 : Int) : ∀ (l p : List Hd) (best : Option Ver),
    (best = none → ∀ h ∈ p, h.key = key → hasV a0 a1 a2 a3 h.v = false) → (∀ v, best = some v → IsLast key a0 a1 a2 a3 p v) →
    (l.foldl (stepV key a0 a1 a2 a3) best = none → ∀ h ∈ p ++ l, h.key = key → hasV a0 a1 a2 a3 h.v = false) ∧ (∀ v, l.foldl (stepV key a0 a1 a2 a3) best = some v → IsLast key a0 a1 a2 a3 (p ++ l) v)
  | [], p, best, hn, hs => by simpa using ⟨hn, hs⟩
  | x :: l, p, best, hn, hs => by
    have key' : (stepV key a0 a1 a2 a3 best x = none → ∀ h ∈ p ++ [x], h.key = key → hasV a0 a1 a2 a3 h.v = false) ∧ (∀ v, stepV key a0 a1 a2 a3 best x = some v → IsLast key a0 a1 a2 a3 (p ++ [x]) v) := by
      cases best with
      | none =>
        by_cases hc : x.key = key ∧ hasV a0 a1 a2 a3 x.v = true
        · have e : stepV key a0 a1 a2 a3 none x = some x.v := stepV_some ⟨hc.1, hc.2, rfl⟩
          rw [e]
          refine ⟨fun h => (by cases h), fun v hv => ?_⟩
          injection hv with hv
          subst hv
          refine ⟨⟨x, by simp, rfl, hc.1, hc.2⟩, fun h hh hk hhas => ?_⟩
          rcases List.mem_append.1 hh with h1 | h1
          · have := hn rfl h h1 hk
            rw [hhas] at this
            cases this
          · obtain rfl := List.mem_singleton.1 h1
            exact beforeV_irrefl _
        · have e : stepV key a0 a1 a2 a3 none x = none := stepV_none (fun y => hc ⟨y.1, y.2.1⟩)
          rw [e]
          refine ⟨fun _ h hh hk => ?_, fun v hv => (by cases hv)⟩
          rcases List.mem_append.1 hh with h1 | h1
          · exact hn rfl h h1 hk
          · obtain rfl := List.mem_singleton.1 h1
            cases hq : hasV a0 a1 a2 a3 h.v
            · rfl
            · exact absurd ⟨hk, hq⟩ hc
      | some b =>
        obtain ⟨⟨y, hy, ey, ky, hhy⟩, hall⟩ := hs b rfl
        by_cases hc : x.key = key ∧ hasV a0 a1 a2 a3 x.v = true ∧ beforeV b x.v = true
        · have e : stepV key a0 a1 a2 a3 (some b) x = some x.v := stepV_some hc
          rw [e]
          refine ⟨fun h => (by cases h), fun v hv => ?_⟩
          injection hv with hv
          subst hv
          refine ⟨⟨x, by simp, rfl, hc.1, hc.2.1⟩, fun h hh hk hhas => ?_⟩
          rcases List.mem_append.1 hh with h1 | h1
          · exact beforeV_trans hc.2.2 (hall h h1 hk hhas)
          · obtain rfl := List.mem_singleton.1 h1
            exact beforeV_irrefl _
        · have e : stepV key a0 a1 a2 a3 (some b) x = some b := stepV_none hc
          rw [e]
          refine ⟨fun h => (by cases h), fun v hv => ?_⟩
          injection hv with hv
          subst hv
          refine ⟨⟨y, by simp [hy], ey, ky, hhy⟩, fun h hh hk hhas => ?_⟩
          rcases List.mem_append.1 hh with h1 | h1
          · exact hall h h1 hk hhas
          · obtain rfl := List.mem_singleton.1 h1
            cases hq : beforeV b h.v
            · rfl
            · exact absurd ⟨hk, hhas, hq⟩ hc
    have ih := foldl_last key a0 a1 a2 a3 l (p ++ [x]) (stepV key a0 a1 a2 a3 best x) key'.1 key'.2
    rw [List.append_assoc, List.singleton_append] at ih
    exact ih

theorem lastV_none {key a0 a1 a2 a3 : Int} {l : List Hd} (h : lastV key a0 a1 a2 a3 l = none) : ∀ x ∈ l, x.key = key → hasV a0 a1 a2 a3 x.v = false := by
  have := (foldl_last key a0 a1 a2 a3 l [] none (fun _ h hh => (by cases hh)) (fun v hv => (by cases hv))).1 h
  simpa using this
theorem lastV_some {key a0 a1 a2 a3 : Int} {l : List Hd} {v : Ver} (h : lastV key a0 a1 a2 a3 l = some v) : IsLast key a0 a1 a2 a3 l v := by
  have := (foldl_last key a0 a1 a2 a3 l [] none (fun _ h hh => (by cases hh)) (fun v hv => (by cases hv))).2 v h
  simpa using this

/-- no key has two of one stamp and site -/
def Apart (l : List Hd) : Prop := ∀ x ∈ l, ∀ y ∈ l, x.key = y.key → Twin x.v y.v → x = y
theorem isLast_one {key a0 a1 a2 a3 : Int} {l : List Hd} {u v : Ver} (hl : Apart l) (hu : IsLast key a0 a1 a2 a3 l u) (hv : IsLast key a0 a1 a2 a3 l v) : u = v := by
  obtain ⟨⟨x, hx, ex, kx, hhx⟩, hax⟩ := hu
  obtain ⟨⟨y, hy, ey, ky, hhy⟩, hay⟩ := hv
  subst ex ey
  have := hl x hx y hy (by rw [kx, ky]) (beforeV_twin (hax y hy ky hhy) (hay x hx kx hhx))
  rw [this]
theorem lastV_iff {key a0 a1 a2 a3 : Int} {l : List Hd} {v : Ver} (hl : Apart l) : lastV key a0 a1 a2 a3 l = some v ↔ IsLast key a0 a1 a2 a3 l v := by
  refine ⟨lastV_some, fun h => ?_⟩
  cases e : lastV key a0 a1 a2 a3 l with
  | none =>
    obtain ⟨⟨x, hx, ex, kx, hhx⟩, _⟩ := h
    have := lastV_none e x hx kx
    rw [ex, hhx] at this
    cases this
  | some u => rw [isLast_one hl (lastV_some e) h]
theorem apart_put {l : List Hd} {key : Int} {v : Ver} (hl : Apart l) : Apart (putL l key v) := by
  unfold putL
  split
  · rename_i h
    have hn : l.any (twinB key v) = false := by
      unfold putE at h
      split at h
      · split at h
        · split at h
          · cases h
          · rename_i hx
            simpa using hx
        · cases h
      · cases h
    rw [List.any_eq_false] at hn
    have tw : ∀ x ∈ l, x.key = key → ¬ Twin x.v v := fun x hx hk ht => hn x hx (by simp [twinB, hk, ht.1, ht.2.1, ht.2.2])
    intro x hx y hy hk ht
    rcases List.mem_append.1 hx with h1 | h1 <;> rcases List.mem_append.1 hy with h2 | h2
    · exact hl x h1 y h2 hk ht
    · obtain rfl := List.mem_singleton.1 h2
      exact absurd ht (tw x h1 hk)
    · obtain rfl := List.mem_singleton.1 h1
      exact absurd ⟨ht.1.symm, ht.2.1.symm, ht.2.2.symm⟩ (tw y h2 hk.symm)
    · rw [List.mem_singleton.1 h1, List.mem_singleton.1 h2]
  · exact hl
theorem apart_sub {l m : List Hd} (hl : Apart l) (h : ∀ x ∈ m, x ∈ l) : Apart m := fun x hx y hy => hl x (h x hx) y (h y hy)
/-- an error: nil, or a bare one -/
def errV (n : Int) : Value := if n = 0 then .nilIface else .iface 26 (.int .i64 n)
/-- blocks of X are as they were -/
structure Keeps (X : Nat → Prop) (w w' : World) : Prop where
  os : w'.os = w.os
  tape : w'.tape = w.tape
  output : w'.output = w.output
  size : w.heap.size ≤ w'.heap.size
  block : ∀ k, X k → w'.heap[k]? = w.heap[k]?
theorem Keeps.refl (X : Nat → Prop) (w : World) : Keeps X w w := ⟨rfl, rfl, rfl, Nat.le_refl _, fun _ _ => rfl⟩
theorem Keeps.trans {X : Nat → Prop} {a b c : World} (h : Keeps X a b) (k : Keeps X b c) : Keeps X a c := ⟨k.os.trans h.os, k.tape.trans h.tape, k.output.trans h.output, Nat.le_trans h.size k.size, fun i hi => (k.block i hi).trans (h.block i hi)⟩
theorem Keeps.below {X : Nat → Prop} {w w' : World} {B : Nat} (h : Keeps X w w') (hX : ∀ k, k < B → X k) : Below B w w' := ⟨h.os, h.tape, h.output, h.size, fun k hk => h.block k (hX k hk)⟩
theorem RowL.keeps {X : Nat → Prop} {w w' : World} {b : Nat} {vs : List Value} (h : RowL w b vs) (hk : Keeps X w w') (hX : X b) : RowL w' b vs := h.kept (hk.block b hX) hk.size

theorem apart_sweep {l : List Hd} {a0 a1 a2 a3 : Int} (h : Apart l) : Apart (sweepL a0 a1 a2 a3 l) := apart_sub h fun _ hx => (List.mem_filter.1 hx).1
theorem sweepL_length {l : List Hd} {a0 a1 a2 a3 : Int} : (sweepL a0 a1 a2 a3 l).length ≤ l.length := List.length_filter_le _ _
theorem Touch.more {F F' : Nat → Prop} {w w1 w2 : World} (h : Touch F w w1) (k : Touch F' w1 w2) (hF : ∀ j, F' j → F j ∨ w.heap.size ≤ j) : Touch F w w2 :=
  ⟨k.os.trans h.os, k.tape.trans h.tape, k.output.trans h.output, Nat.le_trans h.size k.size, fun j hj hn => (k.block j (Nat.lt_of_lt_of_le hj h.size) (fun e => by
    rcases hF j e with h1 | h1
    · exact hn h1
    · omega)).trans (h.block j hj hn)⟩
/-- the transaction's box, and a write's -/
structure ApB (tb xb : Nat) (ts xs : List Value) (w : World) : Prop where
  t : RowL w tb ts
  x : RowL w xb xs
theorem txInfo : (Tryz.prog.info? 102).map (fun i => (i.zero, i.size, i.bytes)) = some (some (.agg #[.int .i64 0, .int .i64 0, .int .i64 0, .int .i64 0, .int .i64 0, .int .i64 0, .int .i64 0, .int .i64 0, .slice none 0 0]), 9, 88) := by kernel_rfl
def okT (t : TxP) : Bool := okTx t.site t.seq t.wall t.count t.d0 t.d1 t.d2 t.d3 t.ws
theorem okT_parts {t : TxP} (h : okT t = true) : (0 ≤ t.site ∧ t.site ≤ 3) ∧ (1 ≤ t.seq ∧ t.seq ≤ 1099511627776) ∧ 1 ≤ t.ws.length ∧ t.ws.length ≤ 5 := by
  simp only [okT, okTx, Bool.and_eq_true, inB_iff, okWs] at h
  refine ⟨h.1.1.1.1.1, h.1.1.1.1.2, ?_⟩
  have := h.2.2
  omega
/-- a number of a vector -/
def small (x : Int) : Prop := 0 ≤ x ∧ x ≤ 1099511627776
structure InvS (S : SiteS) : Prop where
  id0 : 0 ≤ S.id
  id3 : S.id ≤ 3
  nums : Nums S.waits
  wt : ∀ x ∈ S.waits, okT x = true ∧ x.site ≠ S.id
  a0 : small S.a0
  a1 : small S.a1
  a2 : small S.a2
  a3 : small S.a3
  own : depOf S.id S.a0 S.a1 S.a2 S.a3 ≤ S.log.length
  log : S.log.length ≤ 200
  lsite : ∀ x ∈ S.log, (0 ≤ x.site ∧ x.site ≤ 3) ∧ 1 ≤ x.ws.length ∧ x.ws.length ≤ 5
  len : S.l.length ≤ 5 * S.log.length
  apart : Apart S.l
  ok : ∀ h ∈ S.l, okVer h.v = true
theorem InvS.dep {S : SiteS} (h : InvS S) (s : Int) : small (depOf s S.a0 S.a1 S.a2 S.a3) := by
  unfold depOf
  split
  · exact h.a0
  · split
    · exact h.a1
    · split
      · exact h.a2
      · exact h.a3
theorem putL_ok {l : List Hd} {key : Int} {v : Ver} (h : ∀ x ∈ l, okVer x.v = true) : ∀ x ∈ putL l key v, okVer x.v = true := by
  unfold putL
  split
  · rename_i e
    intro x hx
    rcases List.mem_append.1 hx with h1 | h1
    · exact h x h1
    · obtain rfl := List.mem_singleton.1 h1
      unfold putE at e
      split at e
      · split at e
        · rename_i h2
          exact h2
        · cases e
      · cases e
  · exact h
theorem putsT_inv (t : TxP) : ∀ (ws : List Wr) (l : List Hd), Apart l → (∀ x ∈ l, okVer x.v = true) → Apart (putsT t ws l) ∧ ∀ x ∈ putsT t ws l, okVer x.v = true
  | [], _, h1, h2 => ⟨h1, h2⟩
  | x :: ws, l, h1, h2 => putsT_inv t ws (putL l x.key (verOf t x)) (apart_put h1) (putL_ok h2)
theorem setV_dep {S : SiteS} (t : TxP) (s : Int) (h0 : 0 ≤ s) (h3 : s ≤ 3) : depOf s (applyS S t).a0 (applyS S t).a1 (applyS S t).a2 (applyS S t).a3 = if s = t.site then t.seq else depOf s S.a0 S.a1 S.a2 S.a3 := by
  have hc : s = 0 ∨ s = 1 ∨ s = 2 ∨ s = 3 := by omega
  rcases hc with rfl | rfl | rfl | rfl <;> simp [applyS, depOf, setV0, setV1, setV2, setV3, eq_comm]
theorem InvS.applied {S : SiteS} (h : InvS S) {t : TxP} (hs : 0 ≤ t.site ∧ t.site ≤ 3) (hq : small t.seq) (hw : 1 ≤ t.ws.length ∧ t.ws.length ≤ 5) (ho : t.site = S.id → t.seq ≤ S.log.length + 1) (hl : S.log.length < 200) : InvS (applyS S t) := by
  have hp := putsT_inv t t.ws S.l h.apart h.ok
  refine ⟨h.id0, h.id3, h.nums, h.wt, ?_, ?_, ?_, ?_, ?_, ?_, ?_, ?_, hp.1, hp.2⟩
  · show small (setV0 _ _ _); unfold setV0; split; exact hq; exact h.a0
  · show small (setV1 _ _ _); unfold setV1; split; exact hq; exact h.a1
  · show small (setV2 _ _ _); unfold setV2; split; exact hq; exact h.a2
  · show small (setV3 _ _ _); unfold setV3; split; exact hq; exact h.a3
  · show depOf S.id _ _ _ _ ≤ _
    rw [setV_dep t S.id h.id0 h.id3]
    have := h.own
    split
    · rename_i e
      have := ho e.symm
      simp [applyS]
      omega
    · simp [applyS]
      omega
  · simp [applyS]; omega
  · intro x hx
    rcases List.mem_append.1 (show x ∈ S.log ++ [t] from hx) with h1 | h1
    · exact h.lsite x h1
    · obtain rfl := List.mem_singleton.1 h1
      exact ⟨hs, hw⟩
  · have := putsT_length t t.ws S.l
    have := h.len
    simp [applyS]
    omega
theorem InvS.drop {S : SiteS} (h : InvS S) (t : TxP) : InvS { S with waits := dropW S.waits t } :=
  ⟨h.id0, h.id3, h.nums.drop t, fun x hx => h.wt x (mem_dropW.1 hx).1, h.a0, h.a1, h.a2, h.a3, h.own, h.log, h.lsite, h.len, h.apart, h.ok⟩
theorem InvS.wait {S : SiteS} (h : InvS S) {t : TxP} (ht : okT t = true) (hid : t.site ≠ S.id) (hn : ∀ x ∈ S.waits, isNum x t = false) : InvS { S with waits := S.waits ++ [t] } :=
  ⟨h.id0, h.id3, h.nums.snoc hn, fun x hx => by
    rcases List.mem_append.1 hx with h1 | h1
    · exact h.wt x h1
    · obtain rfl := List.mem_singleton.1 h1
      exact ⟨ht, hid⟩, h.a0, h.a1, h.a2, h.a3, h.own, h.log, h.lsite, h.len, h.apart, h.ok⟩
theorem InvS.gone {S : SiteS} (h : InvS S) {x : TxP} (hx : x ∈ S.waits) (hl : S.log.length < 200) : InvS (goneS S x) := by
  obtain ⟨h1, h2⟩ := h.wt x hx
  obtain ⟨p1, p2, p3⟩ := okT_parts h1
  exact (h.drop x).applied p1 ⟨by omega, p2.2⟩ p3 (fun e => absurd e h2) hl
theorem Goes.inv {S S' : SiteS} (h : Goes S S') : InvS S → InvS S' := by
  induction h with
  | full _ => exact id
  | none _ => exact id
  | step h1 h2 _ ih => exact fun k => ih (k.gone (nextS_mem h2).1 h1)
theorem InvS.swept {S : SiteS} (h : InvS S) (x0 x1 x2 x3 : Int) : InvS { S with l := sweepL x0 x1 x2 x3 S.l } :=
  ⟨h.id0, h.id3, h.nums, h.wt, h.a0, h.a1, h.a2, h.a3, h.own, h.log, h.lsite, Nat.le_trans sweepL_length h.len, apart_sweep h.apart, fun x hx => h.ok x (List.mem_filter.1 hx).1⟩
theorem InvS.knows {S : SiteS} (h : InvS S) (f : Nat → Int) : InvS { S with oth := f } :=
  ⟨h.id0, h.id3, h.nums, h.wt, h.a0, h.a1, h.a2, h.a3, h.own, h.log, h.lsite, h.len, h.apart, h.ok⟩
/-- a site that has nothing -/
def newS (id : Int) : SiteS := ⟨id, 0, 0, 0, 0, 0, 0, [], [], [], fun _ => 0⟩
theorem depOf_zero (s : Int) : depOf s 0 0 0 0 = 0 := by
  unfold depOf
  split
  · rfl
  · split
    · rfl
    · split <;> rfl
theorem small_zero : small 0 := ⟨by omega, by omega⟩
theorem InvS.new {id : Int} (h0 : 0 ≤ id) (h3 : id ≤ 3) : InvS (newS id) :=
  ⟨h0, h3, by simp [newS, Nums], by simp [newS], small_zero, small_zero, small_zero, small_zero, by show depOf id 0 0 0 0 ≤ _; rw [depOf_zero]; simp, by simp [newS], by simp [newS], by simp [newS], fun x hx => by simp [newS] at hx, by simp [newS]⟩
theorem txsC_at : ∀ (l : List TxM) (i : Nat) (m : TxM) (r : Nat) (u : Value), l[i]? = some m → (txC m)[r]? = some u → (txsC l)[i * 9 + r]? = some u
  | [], _, _, _, _, h, _ => by simp at h
  | x :: l, 0, m, r, u, h, hu => by
    obtain rfl : x = m := by simpa using h
    have hr : r < (txC x).length := (List.getElem?_eq_some_iff.1 hu).1
    show (txC x ++ txsC l)[0 * 9 + r]? = some u
    rw [Nat.zero_mul, Nat.zero_add, List.getElem?_append_left hr]
    exact hu
  | x :: l, i + 1, m, r, u, h, hu => by
    have ih := txsC_at l i m r u (by simpa using h) hu
    show (txC x ++ txsC l)[(i + 1) * 9 + r]? = some u
    have e : (i + 1) * 9 + r = (txC x).length + (i * 9 + r) := by simp [txC]; omega
    rw [e, List.getElem?_append_right (by omega), Nat.add_sub_cancel_left]
    exact ih
/-- a slice that holds transactions: none, or its cells lie in one block -/
structure TxsIn (w : World) (a : Option Addr) (cap : Nat) (l : List TxM) : Prop where
  len : l.length ≤ cap
  cap : cap ≤ 9223372036854775807
  held : l = [] ∨ ∃ b off, a = some ⟨b, off, none⟩ ∧ ∀ i m r u, l[i]? = some m → (txC m)[r]? = some u → w.cell? ⟨b, off + (i * 9 + r), none⟩ = some u
theorem txsIn_own {w : World} {B : Nat} {T : TypeId} {v : Value} {l : List TxM} (h : w.ownsRow B T 9 v l.length (txsC l)) : ∃ a cap, v = .slice a l.length cap ∧ TxsIn w a cap l := by
  rcases h.2 with ⟨rfl, h0⟩ | ⟨g, cap, cur, rfl, hb, hg, hnc, hm, hs, ht⟩
  · exact ⟨none, 0, by rw [h0], ⟨by omega, by omega, .inl (List.eq_nil_of_length_eq_zero h0)⟩⟩
  · refine ⟨_, cap, rfl, ⟨hnc, by simp only [maxLen] at hm; omega, .inr ⟨g, 0, rfl, fun i m r u hi hu => ?_⟩⟩⟩
    have hc := h.cells (g := g) rfl _ _ (txsC_at l i m r u hi hu)
    rw [addr_add] at hc
    rw [Nat.zero_add]
    exact hc

/-- it lacks it -/
def missB (h0 h1 h2 h3 : Int) (m : TxM) : Bool := decide (depOf m.t.site h0 h1 h2 h3 < m.t.seq)
/-- the next stamp, and the error -/
def nextP (lw lc now : Int) : Int × Int × Int :=
  if (timeB lw && timeB lc) = false then (0, 0, 2) else if timeB now = false then (0, 0, 2) else if lw < now then (now, 0, 0) else if 1099511627776 < lc + 1 then (0, 0, 12) else (lw, lc + 1, 0)
/-- what a commit answers: the error -/
def commitE (S : SiteS) (n : Nat) (now d0 d1 d2 d3 : Int) (ws : List Wr) : Int :=
  if okWs ws = false then 1 else if timesB d0 d1 d2 d3 = false then 10 else if covB S.a0 S.a1 S.a2 S.a3 d0 d1 d2 d3 = false then 10 else if 200 ≤ n then 12 else (nextP S.lw S.lc now).2.2
/-- and the transaction -/
def commitT (S : SiteS) (now d0 d1 d2 d3 : Int) (ws : List Wr) : TxP :=
  ⟨S.id, depOf S.id S.a0 S.a1 S.a2 S.a3 + 1, (nextP S.lw S.lc now).1, (nextP S.lw S.lc now).2.1, setV0 S.id (depOf S.id S.a0 S.a1 S.a2 S.a3) d0, setV1 S.id (depOf S.id S.a0 S.a1 S.a2 S.a3) d1, setV2 S.id (depOf S.id S.a0 S.a1 S.a2 S.a3) d2, setV3 S.id (depOf S.id S.a0 S.a1 S.a2 S.a3) d3, ws⟩

def txZ : List Value := [.int .i64 0, .int .i64 0, .int .i64 0, .int .i64 0, .int .i64 0, .int .i64 0, .int .i64 0, .int .i64 0, .slice none 0 0]
abbrev setTx (w : World) (b : Nat) (x0 x1 x2 x3 x4 x5 x6 x7 : Int) (v : Value) : World :=
  ((((((((w.setCell ⟨b, 0, none⟩ (.int .i64 x0)).setCell ⟨b, 1, none⟩ (.int .i64 x1)).setCell ⟨b, 2, none⟩ (.int .i64 x2)).setCell ⟨b, 3, none⟩ (.int .i64 x3)).setCell ⟨b, 4, none⟩ (.int .i64 x4)).setCell ⟨b, 5, none⟩ (.int .i64 x5)).setCell ⟨b, 6, none⟩ (.int .i64 x6)).setCell ⟨b, 7, none⟩ (.int .i64 x7)).setCell ⟨b, 8, none⟩ v
theorem tx_far {w W : World} {b : Nat} (h : Below w.heap.size w W) (hB : w.heap.size ≤ b) (x0 x1 x2 x3 x4 x5 x6 x7 : Int) (v : Value) : Below w.heap.size w (setTx W b x0 x1 x2 x3 x4 x5 x6 x7 v) :=
  ((((((((h.setCell hB _).setCell hB _).setCell hB _).setCell hB _).setCell hB _).setCell hB _).setCell hB _).setCell hB _).setCell hB _
theorem tx_set {W : World} {b : Nat} {xs : List Value} (h : RowL W b xs) (hx : xs.length = 9) (x0 x1 x2 x3 x4 x5 x6 x7 : Int) (v : Value) : RowL (setTx W b x0 x1 x2 x3 x4 x5 x6 x7 v) b [.int .i64 x0, .int .i64 x1, .int .i64 x2, .int .i64 x3, .int .i64 x4, .int .i64 x5, .int .i64 x6, .int .i64 x7, v] := by
  match xs, hx with
  | [_, _, _, _, _, _, _, _, _], _ => exact ((((((((h.set 0 _ (by simp)).set 1 _ (by simp)).set 2 _ (by simp)).set 3 _ (by simp)).set 4 _ (by simp)).set 5 _ (by simp)).set 6 _ (by simp)).set 7 _ (by simp)).set 8 _ (by simp)
theorem vec_free {w : World} {b : Nat} {a0 a1 a2 a3 s : Int} (h : Row4 w b a0 a1 a2 a3) (h0 : 0 ≤ s) (h3 : s ≤ 3) : w.frozen? ⟨b, s.toNat, none⟩ = false := by
  have hc : s = 0 ∨ s = 1 ∨ s = 2 ∨ s = 3 := by omega
  rcases hc with rfl | rfl | rfl | rfl
  · exact h.f0
  · exact h.f1
  · exact h.f2
  · exact h.f3
theorem vec_set {w : World} {b : Nat} {a0 a1 a2 a3 s : Int} (h : Row4 w b a0 a1 a2 a3) (h0 : 0 ≤ s) (h3 : s ≤ 3) (x : Int) : Row4 (w.setCell ⟨b, s.toNat, none⟩ (.int .i64 x)) b (setV0 s x a0) (setV1 s x a1) (setV2 s x a2) (setV3 s x a3) := by
  have hc : s = 0 ∨ s = 1 ∨ s = 2 ∨ s = 3 := by omega
  rcases hc with rfl | rfl | rfl | rfl
  · exact h.set0 x
  · exact h.set1 x
  · exact h.set2 x
  · exact h.set3 x
theorem commitE_zero {S : SiteS} {n : Nat} {now d0 d1 d2 d3 : Int} {ws : List Wr} (h : commitE S n now d0 d1 d2 d3 ws = 0) : okWs ws = true ∧ timesB d0 d1 d2 d3 = true ∧ covB S.a0 S.a1 S.a2 S.a3 d0 d1 d2 d3 = true ∧ ¬ 200 ≤ n ∧ (nextP S.lw S.lc now).2.2 = 0 := by
  unfold commitE at h
  cases h1 : okWs ws
  · rw [if_pos h1] at h; cases h
  · rw [if_neg (by rw [h1]; decide)] at h
    cases h2 : timesB d0 d1 d2 d3
    · rw [if_pos h2] at h; cases h
    · rw [if_neg (by rw [h2]; decide)] at h
      cases h3 : covB S.a0 S.a1 S.a2 S.a3 d0 d1 d2 d3
      · rw [if_pos h3] at h; cases h
      · rw [if_neg (by rw [h3]; decide)] at h
        by_cases h4 : 200 ≤ n
        · rw [if_pos h4] at h; cases h
        · rw [if_neg h4] at h
          exact ⟨rfl, rfl, rfl, h4, h⟩

theorem news_wr {w : World} {b off : Nat} {l : List Wr} (h : WrCells w b off l) : ∀ j u, (wrsC l)[j]? = some u → w.cell? ((⟨b, off, none⟩ : Addr).add j) = some u := fun j u hu => by
  have hadd : (⟨b, off, none⟩ : Addr).add j = ⟨b, off + j, none⟩ := by unfold Addr.add; split <;> simp_all
  have hj : j < l.length * 3 := by
    have := (List.getElem?_eq_some_iff.1 hu).1
    rw [wrsC_length] at this
    exact this
  have hi : j / 3 < l.length := by omega
  obtain ⟨a0, a1, a2⟩ := wrsC_at l (j / 3) hi
  obtain ⟨c0, c1, c2⟩ := h (j / 3) hi
  rw [hadd]
  have hr : j = j / 3 * 3 ∨ j = j / 3 * 3 + 1 ∨ j = j / 3 * 3 + 2 := by omega
  rcases hr with e | e | e
  · rw [← e] at a0 c0
    rw [a0] at hu
    injection hu with hu
    rw [← hu]
    exact c0
  · rw [← e] at a1
    rw [Nat.add_assoc, ← e] at c1
    rw [a1] at hu
    injection hu with hu
    rw [← hu]
    exact c1
  · rw [show j / 3 * 3 + 1 + 1 = j / 3 * 3 + 2 from rfl, ← e] at a2
    rw [show off + j / 3 * 3 + 1 + 1 = off + (j / 3 * 3 + 2) by omega, ← e] at c2
    rw [a2] at hu
    injection hu with hu
    rw [← hu]
    exact c2
theorem wrsC_one (l : List Wr) : ∀ u ∈ wrsC l, u.oneCell' = true := by
  intro u hu
  obtain ⟨x, _, hx⟩ := List.mem_flatMap.1 hu
  simp [wrC] at hx
  rcases hx with rfl | rfl | rfl <;> rfl
theorem wrInfo : (Tryz.prog.info? 100).map (fun i => (i.zero, i.size, i.bytes)) = some (some (.agg #[.int .i64 0, .string ⟨#[]⟩, .bool false]), 3, 32) := by kernel_rfl
theorem own_none (w : World) {n : Nat} (T : TypeId) (hn : w.heap.size = n) (B : Nat) (hB : B ≤ n) : (w.alloc (.cells #[] T)).ownsRow B T 3 (.slice (some ⟨n, 0, none⟩) 0 0) 0 [] := by
  subst hn
  exact ⟨rfl, .inr ⟨w.heap.size, 0, #[], rfl, hB, heap_alloc_new w (.cells #[] T), Nat.le_refl _, by decide, rfl, rfl⟩⟩
section
set_option maxHeartbeats 400000 in
theorem isSite_is {n : Int} {v : Bool} (h : inB n 0 3 = v) (w : World) :
    Calls Tryz.prog 202 #[.int .i64 n] w fun e w' => e = .returned (.bool v) ∧ Below w.heap.size w w' := by
  subst h
  by_cases h0 : 0 ≤ n
  · by_cases h1 : n < 4
    · have e : Hid (inB n 0 3 = true) := by show inB n 0 3 = true; rw [inB_iff]; omega
      go_enter Tryz.func202, Tryz.ntmps202
      go_wp2
      go_ret
      exact ⟨by rw [e.out]; rfl, Below.refl _ _⟩
    · have e : Hid (inB n 0 3 = false) := by show inB n 0 3 = false; simp [inB]; omega
      go_enter Tryz.func202, Tryz.ntmps202
      go_wp2
      go_ret
      exact ⟨by rw [e.out]; rfl, Below.refl _ _⟩
  · have e : Hid (inB n 0 3 = false) := by show inB n 0 3 = false; simp [inB, h0]
    go_enter Tryz.func202, Tryz.ntmps202
    go_wp2
    go_ret
    exact ⟨by rw [e.out]; rfl, Below.refl _ _⟩

/-- data that may be -/
def dataB (data : ByteArray) (gone : Bool) : Bool := if gone then data.toList.isEmpty else decide ((data.size : Int) ≤ 12)

set_option maxHeartbeats 1000000 in
theorem isData_is {key : Int} {data : ByteArray} {gone v : Bool} (h : dataB data gone = v) (w : World) :
    Calls Tryz.prog 269 #[.agg #[.int .i64 key, .string data, .bool gone]] w fun e w' => e = .returned (.bool v) ∧ Below w.heap.size w w' := by
  subst h
  cases gone
  · by_cases h1 : (data.size : Int) ≤ 12
    · have e : Hid (dataB data false = true) := decide_eq_true h1
      go_enter Tryz.func269, Tryz.ntmps269
      go_wp2
      go_ret
      exact ⟨by rw [e.out]; rfl, boxed (Below.refl _ _) _⟩
    · have e : Hid (dataB data false = false) := decide_eq_false h1
      go_enter Tryz.func269, Tryz.ntmps269
      go_wp2
      go_ret
      exact ⟨by rw [e.out]; rfl, boxed (Below.refl _ _) _⟩
  · cases he : data.toList.isEmpty
    · have e : Hid (dataB data true = false) := he
      go_enter Tryz.func269, Tryz.ntmps269
      go_wp2
      go_ret
      exact ⟨by rw [e.out]; rfl, boxed (Below.refl _ _) _⟩
    · have e : Hid (dataB data true = true) := he
      go_enter Tryz.func269, Tryz.ntmps269
      go_wp2
      go_ret
      exact ⟨by rw [e.out]; rfl, boxed (Below.refl _ _) _⟩

/-- the key ahead, or -1 -/
def lastK (l : List Wr) (k : Nat) : Int := if k = 0 then -1 else (wrAt l (k - 1)).key

theorem toList_empty {data : ByteArray} (h : data.toList.isEmpty = true) : data.size = 0 := by
  have loop : ∀ (n i : Nat) (r : List UInt8), data.size - i = n → (ByteArray.toList.loop data i r).length = r.length + n := by
    intro n
    induction n with
    | zero =>
      intro i r hn
      unfold ByteArray.toList.loop
      rw [if_neg (by omega)]
      simp
    | succ n ih =>
      intro i r hn
      unfold ByteArray.toList.loop
      rw [if_pos (by omega), ih _ _ (by omega)]
      simp
      omega
  have := loop data.size 0 [] (by omega)
  have e : data.toList = [] := List.isEmpty_iff.1 h
  rw [show ByteArray.toList.loop data 0 [] = data.toList from rfl, e] at this
  simpa using this.symm

theorem okd_last {l : List Wr} {k : Nat} {key : Int} {data : ByteArray} {gone : Bool} (hx : wrAt l k = ⟨key, data, gone⟩) (h : key ≤ lastK l k) : okAt l k = false := by
  rw [okAt_eq hx]
  unfold lastK at h
  split at h
  · exact okv_key (by simp [inB]; omega)
  · exact okv_prev (by omega) h
theorem okd_eight {l : List Wr} {k : Nat} {key : Int} {data : ByteArray} {gone : Bool} (hx : wrAt l k = ⟨key, data, gone⟩) (h : 8 ≤ key) : okAt l k = false := by
  rw [okAt_eq hx]
  exact okv_key (by simp [inB]; omega)
theorem okd_data {l : List Wr} {k : Nat} {key : Int} {data : ByteArray} {gone : Bool} (hx : wrAt l k = ⟨key, data, gone⟩) (h : dataB data gone = false) : okAt l k = false := by
  rw [okAt_eq hx]
  cases gone
  · exact okv_len (by have := of_decide_eq_false (show decide ((data.size : Int) ≤ 12) = false from h); omega)
  · exact okv_gone rfl h
theorem okd_good {l : List Wr} {k : Nat} {key : Int} {data : ByteArray} {gone : Bool} (hx : wrAt l k = ⟨key, data, gone⟩) (ha : ∀ j, j < k → okAt l j = true) (h0 : ¬ key ≤ lastK l k) (h1 : ¬ 8 ≤ key) (h : dataB data gone = true) : okAt l k = true := by
  rw [okAt_eq hx]
  have hd : ¬ 12 < (data.size : Int) ∧ (gone = false ∨ data.toList.isEmpty = true) := by
    cases gone
    · exact ⟨by have := of_decide_eq_true (show decide ((data.size : Int) ≤ 12) = true from h); omega, .inl rfl⟩
    · have := toList_empty h
      exact ⟨by omega, .inr h⟩
  unfold lastK at h0
  split at h0
  · exact okv_good (by rw [inB_iff]; omega) (.inl (by assumption)) hd.1 hd.2
  · have := okAt_key (ha (k - 1) (by omega))
    exact okv_good (by rw [inB_iff]; omega) (.inr h0) hd.1 hd.2

set_option maxHeartbeats 4000000 in
theorem rightW_cells (b off cap : Nat) (l : List Wr) (w : World) (hc : WrCells w b off l) (h1 : ¬ (l.length : Int) < 1) (h5 : ¬ 5 < (l.length : Int)) :
    Calls Tryz.prog 241 #[.slice (some ⟨b, off, none⟩) l.length cap] w fun e w' => e = .returned (.bool (okWs l)) ∧ Below w.heap.size w w' := by
  go_enter Tryz.func241, Tryz.ntmps241
  go_wp2_with fail
  go_loopw [3, 16] (fun p i wr => ∃ (k : Nat) (z : Int), k ≤ l.length ∧ z = k ∧ i = .int .i64 z ∧ p = .int .i64 (lastK l k) ∧ (∀ j, j < k → okAt l j = true) ∧ Below w.heap.size w wr ∧ WrCells wr b off l) (fun _ i _ => l.length - (intOf i).toNat)
  case atStart => exact ⟨0, 0, by omega, rfl, rfl, rfl, fun j hj => by omega, Below.refl _ _, hc⟩
  case round =>
    obtain ⟨k, z, hk, hz, rfl, rfl, HA0, hb, C⟩ := hrel
    have HA : Hid (∀ j, j < k → okAt l j = true) := HA0
    clear HA0
    obtain ⟨p, hp⟩ : ∃ p, lastK l k = p := ⟨_, rfl⟩
    rw [hp]
    have HP : Hid (lastK l k = p) := hp
    clear hp
    by_cases hlt : k < l.length
    · obtain ⟨x0, x1, x2⟩ := C k hlt
      have h1 : z < (l.length : Int) := by omega
      have h2 : z.toNat = k := by omega
      have h3 : 0 ≤ z := by omega
      have HZ : Hid (z = k) := hz
      clear hz
      obtain ⟨⟨key, data, gone⟩, hx⟩ : ∃ x, wrAt l k = x := ⟨_, rfl⟩
      rw [hx] at x0 x1 x2
      have HX : Hid (wrAt l k = ⟨key, data, gone⟩) := hx
      clear hx
      simp only at x0 x1 x2
      have hb4 := boxed hb (.cells #[.int .i64 key, .string data, .bool gone] 100)
      have C4 := C.later (boxed (Below.refl _ wr) (.cells #[.int .i64 key, .string data, .bool gone] 100))
      by_cases h6 : key ≤ p
      · have bad : Hid (okWs l = false) := okWs_bad hlt (okd_last HX.out (by rw [HP.out]; exact h6))
        go_wp2_with fail
        go_ret
        exact ⟨by rw [bad.out]; rfl, hb4⟩
      · by_cases h7 : 8 ≤ key
        · have bad : Hid (okWs l = false) := okWs_bad hlt (okd_eight HX.out h7)
          go_wp2_with fail
          go_ret
          exact ⟨by rw [bad.out]; rfl, hb4⟩
        · cases h8 : dataB data gone
          · have bad : Hid (okWs l = false) := okWs_bad hlt (okd_data HX.out h8)
            have H8 : Hid (dataB data gone = false) := h8
            clear h8
            go_wp2_with (go_at_call 269; refine (isData_is H8.out _).mono ?_; rintro e w5 ⟨rfl, hb5⟩)
            go_ret
            exact ⟨by rw [bad.out]; rfl, behind hb4 hb5⟩
          · have good : Hid (okAt l k = true) := okd_good HX.out HA.out (by rw [HP.out]; exact h6) h7 h8
            have H8 : Hid (dataB data gone = true) := h8
            clear h8
            have y0 : (wr.alloc (.cells #[.int .i64 key, .string data, .bool gone] 100)).cell? ⟨wr.heap.size, 0, none⟩ = some (.int .i64 key) := by go_simp
            go_wp2_with (go_at_call 269; refine (isData_is H8.out _).mono ?_; rintro e w5 ⟨rfl, hb5⟩; replace y0 := cell_later hb5 y0)
            go_roundw
            case rel => exact ⟨k + 1, z + 1, by omega, by have := HZ.out; omega, by go_num, by show _ = Value.int .i64 (wrAt l (k + 1 - 1)).key; rw [Nat.add_sub_cancel, HX.out], ok_next HA.out good.out, behind hb4 hb5, C4.later hb5⟩
            case measure => simp [intOf]; omega
    · have e : Hid (okWs l = true) := by
        show okWs l = true
        rw [okWs_all (fun j hj => HA.out j (by omega)), inB_iff]
        omega
      go_wp2
      go_ret
      exact ⟨by rw [e.out]; rfl, hb⟩

set_option maxHeartbeats 1000000 in
theorem rightW_any {a : Option Addr} {cap : Nat} {l : List Wr} {w : World} (h : WrIn w a cap l) :
    Calls Tryz.prog 241 #[.slice a l.length cap] w fun e w' => e = .returned (.bool (okWs l)) ∧ Below w.heap.size w w' := by
  by_cases h1 : (l.length : Int) < 1
  · have e : Hid (okWs l = false) := by
      show okWs l = false
      have : inB l.length 1 5 = false := by simp [inB]; omega
      simp [okWs, this]
    go_enter Tryz.func241, Tryz.ntmps241
    go_wp2
    go_ret
    exact ⟨by rw [e.out]; rfl, Below.refl _ _⟩
  · by_cases h5 : 5 < (l.length : Int)
    · have e : Hid (okWs l = false) := by
        show okWs l = false
        have : inB l.length 1 5 = false := by simp [inB]; omega
        simp [okWs, this]
      go_enter Tryz.func241, Tryz.ntmps241
      go_wp2
      go_ret
      exact ⟨by rw [e.out]; rfl, Below.refl _ _⟩
    · rcases h.held with rfl | ⟨b, off, rfl, hc⟩
      · simp at h1
      · exact rightW_cells b off cap l w hc h1 h5
end
section
theorem right_is {x c : Int} {v : Bool} (h : (timeB x && timeB c) = v) (w : World) :
    Calls Tryz.prog 270 #[.agg #[.int .i64 x, .int .i64 c]] w fun e w' => e = .returned (.bool v) ∧ Below w.heap.size w w' := by
  subst h
  exact right_any x c w
theorem rightv_is {a0 a1 a2 a3 : Int} {v : Bool} (h : timesB a0 a1 a2 a3 = v) (w : World) :
    Calls Tryz.prog 203 #[.agg #[.int .i64 a0, .int .i64 a1, .int .i64 a2, .int .i64 a3]] w fun e w' => e = .returned (.bool v) ∧ Below w.heap.size w w' := by
  subst h
  exact rightv_any a0 a1 a2 a3 w

set_option maxHeartbeats 4000000 in
theorem rightTx_any (site seq wall count d0 d1 d2 d3 : Int) (a : Option Addr) (cap : Nat) (l : List Wr) (w : World) (hW0 : WrIn w a cap l) :
    Calls Tryz.prog 252 #[.agg #[.int .i64 site, .int .i64 seq, .int .i64 wall, .int .i64 count, .int .i64 d0, .int .i64 d1, .int .i64 d2, .int .i64 d3, .slice a l.length cap]] w fun e w' => e = .returned (.bool (okTx site seq wall count d0 d1 d2 d3 l)) ∧ Below w.heap.size w w' := by
  have hne := Later.one
  have hW := hW0.later (boxed (Below.refl _ w) (.cells #[.int .i64 site, .int .i64 seq, .int .i64 wall, .int .i64 count, .int .i64 d0, .int .i64 d1, .int .i64 d2, .int .i64 d3, .slice a l.length cap] 102))
  clear hW0
  have c0 : (w.alloc (.cells #[.int .i64 site, .int .i64 seq, .int .i64 wall, .int .i64 count, .int .i64 d0, .int .i64 d1, .int .i64 d2, .int .i64 d3, .slice a l.length cap] 102)).cell? ⟨w.heap.size, 0, none⟩ = some (.int .i64 site) := by go_simp
  have c1 : (w.alloc (.cells #[.int .i64 site, .int .i64 seq, .int .i64 wall, .int .i64 count, .int .i64 d0, .int .i64 d1, .int .i64 d2, .int .i64 d3, .slice a l.length cap] 102)).cell? ⟨w.heap.size, 1, none⟩ = some (.int .i64 seq) := by go_simp
  have c2 : (w.alloc (.cells #[.int .i64 site, .int .i64 seq, .int .i64 wall, .int .i64 count, .int .i64 d0, .int .i64 d1, .int .i64 d2, .int .i64 d3, .slice a l.length cap] 102)).cell? ⟨w.heap.size, 2, none⟩ = some (.int .i64 wall) := by go_simp
  have c3 : (w.alloc (.cells #[.int .i64 site, .int .i64 seq, .int .i64 wall, .int .i64 count, .int .i64 d0, .int .i64 d1, .int .i64 d2, .int .i64 d3, .slice a l.length cap] 102)).cell? ⟨w.heap.size, 3, none⟩ = some (.int .i64 count) := by go_simp
  have c4 : (w.alloc (.cells #[.int .i64 site, .int .i64 seq, .int .i64 wall, .int .i64 count, .int .i64 d0, .int .i64 d1, .int .i64 d2, .int .i64 d3, .slice a l.length cap] 102)).cell? ⟨w.heap.size, 4, none⟩ = some (.int .i64 d0) := by go_simp
  have c5 : (w.alloc (.cells #[.int .i64 site, .int .i64 seq, .int .i64 wall, .int .i64 count, .int .i64 d0, .int .i64 d1, .int .i64 d2, .int .i64 d3, .slice a l.length cap] 102)).cell? ⟨w.heap.size, 5, none⟩ = some (.int .i64 d1) := by go_simp
  have c6 : (w.alloc (.cells #[.int .i64 site, .int .i64 seq, .int .i64 wall, .int .i64 count, .int .i64 d0, .int .i64 d1, .int .i64 d2, .int .i64 d3, .slice a l.length cap] 102)).cell? ⟨w.heap.size, 6, none⟩ = some (.int .i64 d2) := by go_simp
  have c7 : (w.alloc (.cells #[.int .i64 site, .int .i64 seq, .int .i64 wall, .int .i64 count, .int .i64 d0, .int .i64 d1, .int .i64 d2, .int .i64 d3, .slice a l.length cap] 102)).cell? ⟨w.heap.size, 7, none⟩ = some (.int .i64 d3) := by go_simp
  have c8 : (w.alloc (.cells #[.int .i64 site, .int .i64 seq, .int .i64 wall, .int .i64 count, .int .i64 d0, .int .i64 d1, .int .i64 d2, .int .i64 d3, .slice a l.length cap] 102)).cell? ⟨w.heap.size, 8, none⟩ = some (.slice a l.length cap) := by go_simp
  cases p1 : inB site 0 3
  · have e : Hid (okTx site seq wall count d0 d1 d2 d3 l = false) := by show okTx site seq wall count d0 d1 d2 d3 l = false; simp only [okTx, p1, Bool.false_and]
    have P1 : Hid (inB site 0 3 = false) := p1
    clear p1
    go_enter Tryz.func252, Tryz.ntmps252
    go_wp2_with (go_at_call 202; refine (isSite_is P1.out _).mono ?_; rintro e w1 ⟨rfl, hb1⟩; replace c0 := cell_later hb1 c0; replace c1 := cell_later hb1 c1; replace c2 := cell_later hb1 c2; replace c3 := cell_later hb1 c3; replace c4 := cell_later hb1 c4; replace c5 := cell_later hb1 c5; replace c6 := cell_later hb1 c6; replace c7 := cell_later hb1 c7; replace c8 := cell_later hb1 c8; replace hW := hW.later hb1)
    go_ret
    exact ⟨by rw [e.out]; rfl, behind (boxed (Below.refl _ _) _) hb1⟩
  · have P1 : Hid (inB site 0 3 = true) := p1
    by_cases s1 : seq < 1
    · have e : Hid (okTx site seq wall count d0 d1 d2 d3 l = false) := by
        have p2 : inB seq 1 1099511627776 = false := by simp [inB]; omega
        show okTx site seq wall count d0 d1 d2 d3 l = false; simp only [okTx, p2, Bool.and_false, Bool.false_and]
      clear p1
      go_enter Tryz.func252, Tryz.ntmps252
      go_wp2_with (go_at_call 202; refine (isSite_is P1.out _).mono ?_; rintro e w1 ⟨rfl, hb1⟩; replace c0 := cell_later hb1 c0; replace c1 := cell_later hb1 c1; replace c2 := cell_later hb1 c2; replace c3 := cell_later hb1 c3; replace c4 := cell_later hb1 c4; replace c5 := cell_later hb1 c5; replace c6 := cell_later hb1 c6; replace c7 := cell_later hb1 c7; replace c8 := cell_later hb1 c8; replace hW := hW.later hb1)
      go_ret
      exact ⟨by rw [e.out]; rfl, behind (boxed (Below.refl _ _) _) hb1⟩
    · by_cases s2 : 1099511627776 < seq
      · have e : Hid (okTx site seq wall count d0 d1 d2 d3 l = false) := by
          have p2 : inB seq 1 1099511627776 = false := by simp [inB]; omega
          show okTx site seq wall count d0 d1 d2 d3 l = false; simp only [okTx, p2, Bool.and_false, Bool.false_and]
        clear p1
        go_enter Tryz.func252, Tryz.ntmps252
        go_wp2_with (go_at_call 202; refine (isSite_is P1.out _).mono ?_; rintro e w1 ⟨rfl, hb1⟩; replace c0 := cell_later hb1 c0; replace c1 := cell_later hb1 c1; replace c2 := cell_later hb1 c2; replace c3 := cell_later hb1 c3; replace c4 := cell_later hb1 c4; replace c5 := cell_later hb1 c5; replace c6 := cell_later hb1 c6; replace c7 := cell_later hb1 c7; replace c8 := cell_later hb1 c8; replace hW := hW.later hb1)
        go_ret
        exact ⟨by rw [e.out]; rfl, behind (boxed (Below.refl _ _) _) hb1⟩
      · have p2 : inB seq 1 1099511627776 = true := by rw [inB_iff]; omega
        have P2 : Hid (inB seq 1 1099511627776 = true) := p2
        clear p2
        clear p1
        go_enter Tryz.func252, Tryz.ntmps252
        go_wp2_with (go_at_call 202; refine (isSite_is P1.out _).mono ?_; rintro e w1 ⟨rfl, hb1⟩; replace c0 := cell_later hb1 c0; replace c1 := cell_later hb1 c1; replace c2 := cell_later hb1 c2; replace c3 := cell_later hb1 c3; replace c4 := cell_later hb1 c4; replace c5 := cell_later hb1 c5; replace c6 := cell_later hb1 c6; replace c7 := cell_later hb1 c7; replace c8 := cell_later hb1 c8; replace hW := hW.later hb1)
        have hb := behind (boxed (Below.refl _ _) _) hb1
        clear hb1
        replace c0 := Later.cell c0
        replace c1 := Later.cell c1
        replace c2 := Later.cell c2
        replace c3 := Later.cell c3
        replace c4 := Later.cell c4
        replace c5 := Later.cell c5
        replace c6 := Later.cell c6
        replace c7 := Later.cell c7
        replace c8 := Later.cell c8
        cases p3 : (timeB wall && timeB count)
        · have e : Hid (okTx site seq wall count d0 d1 d2 d3 l = false) := by show okTx site seq wall count d0 d1 d2 d3 l = false; simp only [okTx, p3, Bool.and_false, Bool.false_and]
          refine wp_region_later (by kernel_rfl) (by kernel_rfl) ?_
          repeat (go_big_quiet_step (first | (go_at_call 270; with_reducible exact calls_later (right_is p3 _)) | (go_at_call 203; with_reducible exact calls_later (rightv_is p4 _)) | (go_at_call 241; exact calls_later (rightW_any (WrIn.later (Later.below _) hW)))))
          refine wpQuiet_nil ?_
          rintro w5 ⟨⟨_, hb7⟩, rfl⟩
          go_wp2
          go_ret
          exact ⟨by rw [e.out]; rfl, behind hb hb7⟩
        · cases p4 : timesB d0 d1 d2 d3
          · have e : Hid (okTx site seq wall count d0 d1 d2 d3 l = false) := by show okTx site seq wall count d0 d1 d2 d3 l = false; simp only [okTx, p4, Bool.and_false, Bool.false_and]
            refine wp_region_later (by kernel_rfl) (by kernel_rfl) ?_
            repeat (go_big_quiet_step (first | (go_at_call 270; with_reducible exact calls_later (right_is p3 _)) | (go_at_call 203; with_reducible exact calls_later (rightv_is p4 _)) | (go_at_call 241; exact calls_later (rightW_any (WrIn.later (Later.below _) hW)))))
            refine wpQuiet_nil ?_
            rintro w5 ⟨⟨_, hb7⟩, rfl⟩
            go_wp2
            go_ret
            exact ⟨by rw [e.out]; rfl, behind hb hb7⟩
          · have hs := inB_iff.1 P1.out
            have hs' : site = 0 ∨ site = 1 ∨ site = 2 ∨ site = 3 := by omega
            clear hs
            rcases hs' with rfl | rfl | rfl | rfl
            · by_cases h5 : d0 = seq - 1
              · have e5 : (d0 == seq - 1) = true := by simp [h5]
                have e : Hid (okTx 0 seq wall count d0 d1 d2 d3 l = okWs l) := by show okTx 0 seq wall count d0 d1 d2 d3 l = okWs l; simp only [okTx, P1.out, P2.out, p3, p4, Bool.and_true, Bool.true_and, depOf]; simp [h5]
                clear h5
                refine wp_region_later (by kernel_rfl) (by kernel_rfl) ?_
                repeat (go_big_quiet_step (first | (go_at_call 270; with_reducible exact calls_later (right_is p3 _)) | (go_at_call 203; with_reducible exact calls_later (rightv_is p4 _)) | (go_at_call 241; exact calls_later (rightW_any (WrIn.later (Later.below _) hW)))))
                refine wpQuiet_nil ?_
                rintro w5 ⟨⟨_, hb7⟩, rfl⟩
                go_wp2
                go_ret
                exact ⟨by rw [e.out]; rfl, behind hb hb7⟩
              · have e5 : (d0 == seq - 1) = false := by simp [h5]
                have e : Hid (okTx 0 seq wall count d0 d1 d2 d3 l = false) := by show okTx 0 seq wall count d0 d1 d2 d3 l = false; simp only [okTx, P1.out, P2.out, p3, p4, Bool.and_true, Bool.true_and, depOf]; simp [h5]
                clear h5
                refine wp_region_later (by kernel_rfl) (by kernel_rfl) ?_
                repeat (go_big_quiet_step (first | (go_at_call 270; with_reducible exact calls_later (right_is p3 _)) | (go_at_call 203; with_reducible exact calls_later (rightv_is p4 _)) | (go_at_call 241; exact calls_later (rightW_any (WrIn.later (Later.below _) hW)))))
                refine wpQuiet_nil ?_
                rintro w5 ⟨⟨_, hb7⟩, rfl⟩
                go_wp2
                go_ret
                exact ⟨by rw [e.out]; rfl, behind hb hb7⟩
            · by_cases h5 : d1 = seq - 1
              · have e5 : (d1 == seq - 1) = true := by simp [h5]
                have e : Hid (okTx 1 seq wall count d0 d1 d2 d3 l = okWs l) := by show okTx 1 seq wall count d0 d1 d2 d3 l = okWs l; simp only [okTx, P1.out, P2.out, p3, p4, Bool.and_true, Bool.true_and, depOf]; simp [h5]
                clear h5
                refine wp_region_later (by kernel_rfl) (by kernel_rfl) ?_
                repeat (go_big_quiet_step (first | (go_at_call 270; with_reducible exact calls_later (right_is p3 _)) | (go_at_call 203; with_reducible exact calls_later (rightv_is p4 _)) | (go_at_call 241; exact calls_later (rightW_any (WrIn.later (Later.below _) hW)))))
                refine wpQuiet_nil ?_
                rintro w5 ⟨⟨_, hb7⟩, rfl⟩
                go_wp2
                go_ret
                exact ⟨by rw [e.out]; rfl, behind hb hb7⟩
              · have e5 : (d1 == seq - 1) = false := by simp [h5]
                have e : Hid (okTx 1 seq wall count d0 d1 d2 d3 l = false) := by show okTx 1 seq wall count d0 d1 d2 d3 l = false; simp only [okTx, P1.out, P2.out, p3, p4, Bool.and_true, Bool.true_and, depOf]; simp [h5]
                clear h5
                refine wp_region_later (by kernel_rfl) (by kernel_rfl) ?_
                repeat (go_big_quiet_step (first | (go_at_call 270; with_reducible exact calls_later (right_is p3 _)) | (go_at_call 203; with_reducible exact calls_later (rightv_is p4 _)) | (go_at_call 241; exact calls_later (rightW_any (WrIn.later (Later.below _) hW)))))
                refine wpQuiet_nil ?_
                rintro w5 ⟨⟨_, hb7⟩, rfl⟩
                go_wp2
                go_ret
                exact ⟨by rw [e.out]; rfl, behind hb hb7⟩
            · by_cases h5 : d2 = seq - 1
              · have e5 : (d2 == seq - 1) = true := by simp [h5]
                have e : Hid (okTx 2 seq wall count d0 d1 d2 d3 l = okWs l) := by show okTx 2 seq wall count d0 d1 d2 d3 l = okWs l; simp only [okTx, P1.out, P2.out, p3, p4, Bool.and_true, Bool.true_and, depOf]; simp [h5]
                clear h5
                refine wp_region_later (by kernel_rfl) (by kernel_rfl) ?_
                repeat (go_big_quiet_step (first | (go_at_call 270; with_reducible exact calls_later (right_is p3 _)) | (go_at_call 203; with_reducible exact calls_later (rightv_is p4 _)) | (go_at_call 241; exact calls_later (rightW_any (WrIn.later (Later.below _) hW)))))
                refine wpQuiet_nil ?_
                rintro w5 ⟨⟨_, hb7⟩, rfl⟩
                go_wp2
                go_ret
                exact ⟨by rw [e.out]; rfl, behind hb hb7⟩
              · have e5 : (d2 == seq - 1) = false := by simp [h5]
                have e : Hid (okTx 2 seq wall count d0 d1 d2 d3 l = false) := by show okTx 2 seq wall count d0 d1 d2 d3 l = false; simp only [okTx, P1.out, P2.out, p3, p4, Bool.and_true, Bool.true_and, depOf]; simp [h5]
                clear h5
                refine wp_region_later (by kernel_rfl) (by kernel_rfl) ?_
                repeat (go_big_quiet_step (first | (go_at_call 270; with_reducible exact calls_later (right_is p3 _)) | (go_at_call 203; with_reducible exact calls_later (rightv_is p4 _)) | (go_at_call 241; exact calls_later (rightW_any (WrIn.later (Later.below _) hW)))))
                refine wpQuiet_nil ?_
                rintro w5 ⟨⟨_, hb7⟩, rfl⟩
                go_wp2
                go_ret
                exact ⟨by rw [e.out]; rfl, behind hb hb7⟩
            · by_cases h5 : d3 = seq - 1
              · have e5 : (d3 == seq - 1) = true := by simp [h5]
                have e : Hid (okTx 3 seq wall count d0 d1 d2 d3 l = okWs l) := by show okTx 3 seq wall count d0 d1 d2 d3 l = okWs l; simp only [okTx, P1.out, P2.out, p3, p4, Bool.and_true, Bool.true_and, depOf]; simp [h5]
                clear h5
                refine wp_region_later (by kernel_rfl) (by kernel_rfl) ?_
                repeat (go_big_quiet_step (first | (go_at_call 270; with_reducible exact calls_later (right_is p3 _)) | (go_at_call 203; with_reducible exact calls_later (rightv_is p4 _)) | (go_at_call 241; exact calls_later (rightW_any (WrIn.later (Later.below _) hW)))))
                refine wpQuiet_nil ?_
                rintro w5 ⟨⟨_, hb7⟩, rfl⟩
                go_wp2
                go_ret
                exact ⟨by rw [e.out]; rfl, behind hb hb7⟩
              · have e5 : (d3 == seq - 1) = false := by simp [h5]
                have e : Hid (okTx 3 seq wall count d0 d1 d2 d3 l = false) := by show okTx 3 seq wall count d0 d1 d2 d3 l = false; simp only [okTx, P1.out, P2.out, p3, p4, Bool.and_true, Bool.true_and, depOf]; simp [h5]
                clear h5
                refine wp_region_later (by kernel_rfl) (by kernel_rfl) ?_
                repeat (go_big_quiet_step (first | (go_at_call 270; with_reducible exact calls_later (right_is p3 _)) | (go_at_call 203; with_reducible exact calls_later (rightv_is p4 _)) | (go_at_call 241; exact calls_later (rightW_any (WrIn.later (Later.below _) hW)))))
                refine wpQuiet_nil ?_
                rintro w5 ⟨⟨_, hb7⟩, rfl⟩
                go_wp2
                go_ret
                exact ⟨by rw [e.out]; rfl, behind hb hb7⟩

theorem rightTx_is {site seq wall count d0 d1 d2 d3 : Int} {a : Option Addr} {cap : Nat} {l : List Wr} {w : World} {v : Bool} (hW : WrIn w a cap l) (h : okTx site seq wall count d0 d1 d2 d3 l = v) :
    Calls Tryz.prog 252 #[.agg #[.int .i64 site, .int .i64 seq, .int .i64 wall, .int .i64 count, .int .i64 d0, .int .i64 d1, .int .i64 d2, .int .i64 d3, .slice a l.length cap]] w fun e w' => e = .returned (.bool v) ∧ Below w.heap.size w w' := by
  subst h
  exact rightTx_any site seq wall count d0 d1 d2 d3 a cap l w hW
end
/-- what is read at a site: the version, and the error -/
def readS (S : SiteS) (key a0 a1 a2 a3 : Int) : Ver × Int := if covB S.a0 S.a1 S.a2 S.a3 a0 a1 a2 a3 = true then readV key a0 a1 a2 a3 S.l else (ver0, 10)

theorem ver_far {w W : World} {b : Nat} (h : Below w.heap.size w W) (hB : w.heap.size ≤ b) (x0 x1 x2 x3 : Int) (x4 : ByteArray) (x5 : Bool) : Below w.heap.size w ((((((W.setCell ⟨b, 0, none⟩ (.int .i64 x0)).setCell ⟨b, 1, none⟩ (.int .i64 x1)).setCell ⟨b, 2, none⟩ (.int .i64 x2)).setCell ⟨b, 3, none⟩ (.int .i64 x3)).setCell ⟨b, 4, none⟩ (.string x4)).setCell ⟨b, 5, none⟩ (.bool x5)) :=
  (((((h.setCell hB _).setCell hB _).setCell hB _).setCell hB _).setCell hB _).setCell hB _
theorem row4_ver {W : World} {b c : Nat} {a0 a1 a2 a3 : Int} (h : Row4 W b a0 a1 a2 a3) (hn : c ≠ b) (x0 x1 x2 x3 : Int) (x4 : ByteArray) (x5 : Bool) : Row4 ((((((W.setCell ⟨c, 0, none⟩ (.int .i64 x0)).setCell ⟨c, 1, none⟩ (.int .i64 x1)).setCell ⟨c, 2, none⟩ (.int .i64 x2)).setCell ⟨c, 3, none⟩ (.int .i64 x3)).setCell ⟨c, 4, none⟩ (.string x4)).setCell ⟨c, 5, none⟩ (.bool x5)) b a0 a1 a2 a3 :=
  (((((h.far ⟨c, 0, none⟩ _ hn).far ⟨c, 1, none⟩ _ hn).far ⟨c, 2, none⟩ _ hn).far ⟨c, 3, none⟩ _ hn).far ⟨c, 4, none⟩ _ hn).far ⟨c, 5, none⟩ _ hn
theorem ver_set {W : World} {b : Nat} (h : RowL W b (verL ver0)) (x0 x1 x2 x3 : Int) (x4 : ByteArray) (x5 : Bool) : RowL ((((((W.setCell ⟨b, 0, none⟩ (.int .i64 x0)).setCell ⟨b, 1, none⟩ (.int .i64 x1)).setCell ⟨b, 2, none⟩ (.int .i64 x2)).setCell ⟨b, 3, none⟩ (.int .i64 x3)).setCell ⟨b, 4, none⟩ (.string x4)).setCell ⟨b, 5, none⟩ (.bool x5)) b (verL ⟨x0, x1, x2, x3, x4, x5⟩) :=
  (((((h.set 0 _ (by simp [verL])).set 1 _ (by simp [verL])).set 2 _ (by simp [verL])).set 3 _ (by simp [verL])).set 4 _ (by simp [verL])).set 5 _ (by simp [verL])
/-- a thing in memory: what it is to be there, in blocks of G -/
structure Part where
  is : World → (Nat → Prop) → Prop
  lt : ∀ w G, is w G → ∀ k, G k → k < w.heap.size
  kept : ∀ w w' G, is w G → (∀ k, G k → w'.heap[k]? = w.heap[k]?) → w.heap.size ≤ w'.heap.size → is w' G
/-- what is left: another thing, in its blocks and new ones -/
def Left (p : Part) (w : World) (G : Nat → Prop) (w' : World) : Prop := ∃ G', p.is w' G' ∧ (∀ k, G' k → G k ∨ w.heap.size ≤ k) ∧ Touch G w w'
/-- what is left of two; Y: blocks that are new, and not the first one's -/
def Left2 (p q : Part) (w : World) (G H Y : Nat → Prop) (w' : World) : Prop := ∃ G' H', p.is w' G' ∧ q.is w' H' ∧ (∀ k, G' k → G k ∨ w.heap.size ≤ k) ∧ (∀ k, H' k → H k ∨ w.heap.size ≤ k) ∧ (∀ k, G' k → ¬ H' k) ∧ (∀ k, Y k → w.heap.size ≤ k ∧ k < w'.heap.size ∧ ¬ G' k) ∧ Touch (fun k => G k ∨ H k) w w'
def NoY : Nat → Prop := fun _ => False
/-- where they lie; X: blocks that are nobody's; Y: blocks that are nobody's but perhaps the o-th one's -/
structure AsideAt (w : World) (n : Nat) (ps : Nat → Part) (Gs : Nat → Nat → Prop) (X : Nat → Prop) (o : Nat) (Y : Nat → Prop) : Prop where
  is : ∀ i, i < n → (ps i).is w (Gs i)
  apart : ∀ i j k, i < n → j < n → i ≠ j → Gs i k → ¬ Gs j k
  free : ∀ k, X k → k < w.heap.size ∧ ∀ i, i < n → ¬ Gs i k
  half : ∀ k, Y k → k < w.heap.size ∧ ∀ i, i < n → i ≠ o → ¬ Gs i k
section
section
variable {w w' : World} {n o : Nat} {ps ps' : Nat → Part} {Gs : Nat → Nat → Prop} {X : Nat → Prop}
theorem AsideAt.stepG (h : AsideAt w n ps Gs X o NoY) {i : Nat} (hi : i < n) {p : Part} (hl : Left p w (Gs i) w') (e1 : ps' i = p) (e2 : ∀ j, j < n → j ≠ i → ps' j = ps j) : ∃ Gs', AsideAt w' n ps' Gs' X o NoY ∧ (∀ j k, Gs' j k → Gs j k ∨ w.heap.size ≤ k) ∧ Keeps X w w' ∧ Touch (Gs i) w w' := by
  obtain ⟨G', p1, p2, tt⟩ := hl
  refine ⟨fun j => if j = i then G' else Gs j, ⟨fun j hj => ?_, fun a b k ha hb hab hk hk2 => ?_, fun k hk => ⟨Nat.lt_of_lt_of_le (h.free k hk).1 tt.size, fun j hj hg => ?_⟩, fun k hk => hk.elim⟩, fun j k hk => ?_, ⟨tt.os, tt.tape, tt.output, tt.size, fun k hk => tt.block k (h.free k hk).1 (fun e => (h.free k hk).2 i hi e)⟩, tt⟩
  · by_cases hji : j = i
    · rw [if_pos hji, hji, e1]; exact p1
    · rw [if_neg hji, e2 j hj hji]
      exact (ps j).kept _ _ _ (h.is j hj) (fun k hk => tt.block k ((ps j).lt _ _ (h.is j hj) k hk) (fun e => h.apart j i k hj hi hji hk e)) tt.size
  · by_cases ga : a = i
    · rw [if_pos ga] at hk
      have gb : b ≠ i := fun e => hab (ga.trans e.symm)
      rw [if_neg gb] at hk2
      rcases p2 k hk with h1 | h1
      · exact h.apart i b k hi hb (Ne.symm gb) h1 hk2
      · have := (ps b).lt _ _ (h.is b hb) k hk2; omega
    · rw [if_neg ga] at hk
      by_cases gb : b = i
      · rw [if_pos gb] at hk2
        rcases p2 k hk2 with h1 | h1
        · exact h.apart a i k ha hi ga hk h1
        · have := (ps a).lt _ _ (h.is a ha) k hk; omega
      · rw [if_neg gb] at hk2
        exact h.apart a b k ha hb hab hk hk2
  · by_cases hji : j = i
    · rw [if_pos hji] at hg
      rcases p2 k hg with h1 | h1
      · exact (h.free k hk).2 i hi h1
      · have := (h.free k hk).1; omega
    · rw [if_neg hji] at hg
      exact (h.free k hk).2 j hj hg
  · have hk : (if j = i then G' else Gs j) k := hk
    by_cases hji : j = i
    · rw [if_pos hji] at hk
      rw [hji]
      exact p2 k hk
    · rw [if_neg hji] at hk
      exact .inl hk
theorem AsideAt.to {X' : Nat → Prop} (h : AsideAt w n ps Gs X o NoY) (hk : ∀ j k, j < n → Gs j k → w'.heap[k]? = w.heap[k]?) (hs : w.heap.size ≤ w'.heap.size) (hX : ∀ k, X' k → (X k ∨ w.heap.size ≤ k) ∧ k < w'.heap.size) : AsideAt w' n ps Gs X' o NoY := by
  refine ⟨fun j hj => (ps j).kept _ _ _ (h.is j hj) (fun k e => hk j k hj e) hs, h.apart, fun k e => ⟨(hX k e).2, fun j hj hg => ?_⟩, fun k e => e.elim⟩
  rcases (hX k e).1 with q | q
  · exact (h.free k q).2 j hj hg
  · have := (ps j).lt _ _ (h.is j hj) k hg
    omega
end
end
theorem take_sound {R R' : List UInt8} {wrong wrong' : Bool} {n : Int} {s : ByteArray} (h : TakeIs R wrong n s R' wrong') (hx : wrong' = false) (n0 : 0 ≤ n) : wrong = false ∧ (s.size : Int) = n ∧ R = toL s ++ R' := by
  rcases h with ⟨h1, h2, h3, h4⟩ | ⟨_, _, _, h4⟩
  · refine ⟨by rw [← h4]; exact hx, ?_, by rw [h2, h3, List.take_append_drop]⟩
    have : (toL s).length = n.toNat := by rw [h2, List.length_take]; omega
    rw [toL_length] at this
    omega
  · rw [hx] at h4; cases h4
theorem take_full {R R' : List UInt8} {wrong wrong' : Bool} {n : Int} {s d : ByteArray} {r : List UInt8} (h : TakeIs R wrong n s R' wrong') (hw : wrong = false) (hn : n = (d.size : Int)) (hR : R = toL d ++ r) : s = d ∧ R' = r ∧ wrong' = false := by
  have hl : (toL d).length = n.toNat := by rw [toL_length]; omega
  rcases h with ⟨h1, h2, h3, h4⟩ | ⟨h1, _, _, _⟩
  · refine ⟨toL_inj ?_, ?_, by rw [h4, hw]⟩
    · rw [h2, hR, ← hl, List.take_left]
    · rw [h3, hR, ← hl, List.drop_left]
  · rw [hR, List.length_append] at h1
    omega

theorem write_sound {R R' : List UInt8} {wrong wrong' : Bool} {key : Int} {data : ByteArray} {gone : Bool} (h : WriteIs R wrong key data gone R' wrong') (hx : wrong' = false) : wrong = false ∧ R = wrL ⟨key, data, gone⟩ ++ R' := by
  obtain ⟨R0, x0, R1, x1, R2, x2, g, n, n0, n1, hg, n2, t⟩ := h
  obtain ⟨e2, s2, q3⟩ := take_sound t hx n2.nonneg
  obtain ⟨e1, _, q2⟩ := n2.sound e2
  obtain ⟨e0, b1, q1⟩ := n1.sound e1
  obtain ⟨e, _, q0⟩ := n0.sound e0
  refine ⟨e, ?_⟩
  have hgi : g = if gone then 1 else 0 := by
    rw [hg]
    have : g = 0 ∨ g = 1 := by omega
    rcases this with rfl | rfl <;> rfl
  simp only [wrL, List.append_assoc]
  rw [q0, q1, q2, q3, ← hgi, s2]
theorem write_full {R R' : List UInt8} {wrong wrong' : Bool} {key : Int} {data : ByteArray} {gone : Bool} {y : Wr} {r : List UInt8} (h : WriteIs R wrong key data gone R' wrong') (hw : wrong = false) (hR : R = wrL y ++ r) (hy : 0 ≤ y.key ∧ y.key ≤ 7 ∧ y.data.size ≤ 12) :
    (⟨key, data, gone⟩ : Wr) = y ∧ R' = r ∧ wrong' = false := by
  obtain ⟨R0, x0, R1, x1, R2, x2, g, n, n0, n1, hg, n2, t⟩ := h
  simp only [wrL, List.append_assoc] at hR
  obtain ⟨a0, r0, e0⟩ := n0.full hw hR hy.1 hy.2.1 (by decide)
  obtain ⟨a1, r1, e1⟩ := n1.full e0 r0 (by cases y.gone <;> decide) (by cases y.gone <;> decide) (by decide)
  obtain ⟨a2, r2, e2⟩ := n2.full e1 r1 (by omega) (by omega) (by decide)
  obtain ⟨a3, r3, e3⟩ := take_full t e2 a2 r2
  refine ⟨?_, r3, e3⟩
  obtain ⟨yk, yd, yg⟩ := y
  simp only at a0 a1 a3
  have : gone = yg := by
    rw [hg, a1]
    cases yg <;> rfl
  rw [a0, a3, this]
theorem write_length {R R' : List UInt8} {wrong wrong' : Bool} {key : Int} {data : ByteArray} {gone : Bool} (h : WriteIs R wrong key data gone R' wrong') : R'.length ≤ R.length := by
  obtain ⟨R0, x0, R1, x1, R2, x2, g, n, n0, n1, hg, n2, t⟩ := h
  have a0 := n0.1
  have a1 := n1.1
  have a2 := n2.1
  have a3 := take_length t
  omega

/-- writes, one behind the other -/
inductive WsIs (R : List UInt8) (x : Bool) : List Wr → List UInt8 → Bool → Prop
  | nil : WsIs R x [] R x
  | snoc {l : List Wr} {R1 R2 : List UInt8} {x1 x2 : Bool} {key : Int} {data : ByteArray} {gone : Bool} : WsIs R x l R1 x1 → WriteIs R1 x1 key data gone R2 x2 → WsIs R x (l ++ [⟨key, data, gone⟩]) R2 x2

theorem wrsL_snoc (l : List Wr) (x : Wr) : wrsL (l ++ [x]) = wrsL l ++ wrL x := by simp [wrsL]
theorem ws_sound {R R' : List UInt8} {x x' : Bool} {l : List Wr} (h : WsIs R x l R' x') : x' = false → x = false ∧ R = wrsL l ++ R' := by
  induction h with
  | nil => exact fun e => ⟨e, rfl⟩
  | snoc _ hw ih =>
    intro e
    obtain ⟨e1, q1⟩ := write_sound hw e
    obtain ⟨e0, q0⟩ := ih e1
    exact ⟨e0, by rw [q0, q1, wrsL_snoc, List.append_assoc]⟩
theorem ws_full {R R' : List UInt8} {x x' : Bool} {l m : List Wr} {r : List UInt8} (h : WsIs R x l R' x') (hx : x = false) (hR : R = wrsL m ++ r) (hm : ∀ y ∈ m, 0 ≤ y.key ∧ y.key ≤ 7 ∧ y.data.size ≤ 12) :
    l.length ≤ m.length → l = m.take l.length ∧ R' = wrsL (m.drop l.length) ++ r ∧ x' = false := by
  induction h with
  | nil => exact fun _ => ⟨by simp, by simpa using hR, hx⟩
  | @snoc l R1 R2 x1 x2 key data gone _ hw ih =>
    intro hl
    rw [List.length_append, List.length_singleton] at hl ⊢
    obtain ⟨q0, q1, q2⟩ := ih (by omega)
    have hk : l.length < m.length := by omega
    have e : wrsL (m.drop l.length) = wrL m[l.length] ++ wrsL (m.drop (l.length + 1)) := by
      unfold wrsL
      rw [List.drop_eq_getElem_cons hk, List.flatMap_cons]
    rw [e, List.append_assoc] at q1
    obtain ⟨a, b, c⟩ := write_full hw q2 q1 (hm _ (List.getElem_mem hk))
    refine ⟨?_, b, c⟩
    rw [a, List.take_succ_eq_append_getElem hk, ← q0]
theorem ws_length {R R' : List UInt8} {x x' : Bool} {l : List Wr} (h : WsIs R x l R' x') : R'.length ≤ R.length := by
  induction h with
  | nil => exact Nat.le_refl _
  | snoc _ hw ih => exact Nat.le_trans (write_length hw) ih

theorem tx_chain {L R0 R1 R2 R3 R4 R5 R6 R7 R8 R9 R10 : List UInt8} {x0 x1 x2 x3 x4 x5 x6 x7 x8 x9 x10 : Bool} {site seq wall count v0 v1 v2 v3 nw : Int} {l : List Wr}
    (hK : KindIs L false 116 R0 x0) (h1 : NumIs 3 R0 x0 site R1 x1) (h2 : NumIs 1099511627776 R1 x1 seq R2 x2) (h3 : NumIs 1099511627776 R2 x2 wall R3 x3) (h4 : NumIs 1099511627776 R3 x3 count R4 x4)
    (h5 : NumIs 1099511627776 R4 x4 v0 R5 x5) (h6 : NumIs 1099511627776 R5 x5 v1 R6 x6) (h7 : NumIs 1099511627776 R6 x6 v2 R7 x7) (h8 : NumIs 1099511627776 R7 x7 v3 R8 x8) (h9 : NumIs 5 R8 x8 nw R9 x9) (hW : WsIs R9 x9 l R10 x10) (hl : (l.length : Int) = nw) :
    (doneB R10 x10 = true → toL (txS site seq wall count v0 v1 v2 v3 l) = L) ∧ (∀ y, Good L y → doneB R10 x10 = true ∧ y = ⟨site, seq, wall, count, v0, v1, v2, v3, l⟩) := by
  constructor
  · intro h
    obtain ⟨hx, hR⟩ := doneB_iff.1 h
    obtain ⟨e9, q10⟩ := ws_sound hW hx
    obtain ⟨e8, _, q9⟩ := h9.sound e9
    obtain ⟨e7, _, q8⟩ := h8.sound e8
    obtain ⟨e6, _, q7⟩ := h7.sound e7
    obtain ⟨e5, _, q6⟩ := h6.sound e6
    obtain ⟨e4, _, q5⟩ := h5.sound e5
    obtain ⟨e3, _, q4⟩ := h4.sound e4
    obtain ⟨e2, _, q3⟩ := h3.sound e3
    obtain ⟨e1, _, q2⟩ := h2.sound e2
    obtain ⟨e0, _, q1⟩ := h1.sound e1
    obtain ⟨_, qk⟩ := hK.1.1 e0
    rw [txS_toL, qk, q1, q2, q3, q4, q5, q6, q7, q8, q9, q10, hR, hl, List.append_nil]
    rfl
  · rintro ⟨s, q, wl, ct, a0, a1, a2, a3, m⟩ hy
    obtain ⟨bs, bq, bw, bc, b0, b1, b2, b3, bm⟩ := ok_parts hy.1
    simp only at bs bq bw bc b0 b1 b2 b3 bm
    have hlen := okWs_len bm
    have e : L = headL s q wl ct a0 a1 a2 a3 m.length (wrsL m) := hy.2.symm.trans (txS_toL s q wl ct a0 a1 a2 a3 m)
    unfold headL at e
    have r0 := hK.2.2 _ e
    have y0 := hK.1.2 ⟨rfl, by rw [r0]; exact e⟩
    obtain ⟨z1, r1, y1⟩ := h1.full y0 r0 bs.1 bs.2 (by decide)
    obtain ⟨z2, r2, y2⟩ := h2.full y1 r1 (by omega) bq.2 (by decide)
    obtain ⟨z3, r3, y3⟩ := h3.full y2 r2 bw.1 bw.2 (by decide)
    obtain ⟨z4, r4, y4⟩ := h4.full y3 r3 bc.1 bc.2 (by decide)
    obtain ⟨z5, r5, y5⟩ := h5.full y4 r4 b0.1 b0.2 (by decide)
    obtain ⟨z6, r6, y6⟩ := h6.full y5 r5 b1.1 b1.2 (by decide)
    obtain ⟨z7, r7, y7⟩ := h7.full y6 r6 b2.1 b2.2 (by decide)
    obtain ⟨z8, r8, y8⟩ := h8.full y7 r7 b3.1 b3.2 (by decide)
    obtain ⟨z9, r9, y9⟩ := h9.full y8 r8 (by omega) (by omega) (by decide)
    have hlm : l.length = m.length := by omega
    obtain ⟨w1, w2, w3⟩ := ws_full (m := m) (r := []) hW y9 (by simpa using r9) (okWs_mem bm) (by omega)
    have hlm2 : l = m := by rw [hlm, List.take_length] at w1; exact w1
    refine ⟨doneB_iff.2 ⟨w3, ?_⟩, ?_⟩
    · rw [w2, hlm, List.drop_length]
      rfl
    · rw [z1, z2, z3, z4, z5, z6, z7, z8, hlm2]
section
theorem Rd.drew {w : World} {rb : Nat} {R : List UInt8} {wrong : Bool} (h : Rd w rb R wrong) : Rd w.drew rb R wrong := h.kept fun _ _ => rfl
theorem Rd.grown {w w' : World} {rb : Nat} {R : List UInt8} {wrong : Bool} {r : Option Nat} (h : Rd w rb R wrong) (hg : w.grownBy w' r) (hr : ∀ k, r = some k → rb < k) : Rd w' rb R wrong := by
  obtain ⟨a, c, q0, hc, hB⟩ := h.rest
  have e := hg.block rb h.lt (fun x => by have := hr rb x.symm; omega)
  refine ⟨⟨a, c, by rw [World.cell?_of_block (w := w) e]; exact q0, hc, ?_⟩, by rw [World.cell?_of_block (w := w) e]; exact h.c1, by rw [World.frozen?_of_block (w := w) e]; exact h.f0, by rw [World.frozen?_of_block (w := w) e]; exact h.f1⟩
  rcases hB with hB | ⟨b, o, ea, hne, hcell⟩
  · exact .inl hB
  · refine .inr ⟨b, o, ea, hne, fun j u hu => ?_⟩
    have hx := hcell j u hu
    rw [World.cell?_of_block (w := w) (hg.block b (World.block_lt_of_cell? _ _ hx) (fun x => by have := hr b x.symm; omega))]
    exact hx
theorem owns_far {w w' : World} {B : Nat} {T : TypeId} {v : Value} {n : Nat} {xs : List Value} {rb : Nat} (h : w.ownsRow B T 3 v n xs) (hO : Only rb w w') (hr : rb < B) : w'.ownsRow B T 3 v n xs := by
  refine h.kept hO ?_
  cases hv : v.ownBlock with
  | none => exact .inl rfl
  | some k =>
    refine .inr (fun e => ?_)
    injection e with e
    have := (h.lt k hv).1
    omega
theorem own_later {w w' : World} {B : Nat} {T : TypeId} {v : Value} {n : Nat} {xs : List Value} (h : w.ownsRow B T 3 v n xs) (hb : Below w.heap.size w w') : w'.ownsRow B T 3 v n xs :=
  h.kept (row := none) ⟨hb.os, hb.tape, hb.output, hb.size, fun k hk _ => hb.block k hk⟩ (by cases v.ownBlock <;> simp)
theorem own_rows {w : World} {B : Nat} {T : TypeId} {v : Value} {n : Nat} {xs : List Value} (h : w.ownsRow B T 3 v n xs) : ∀ k, v.ownBlock = some k → B ≤ k := fun k hk => (h.lt k hk).1

theorem writeInfo : (Tryz.prog.info? 100).map (fun i => (i.zero, i.size, i.bytes)) = some (some (.agg #[.int .i64 0, .string ⟨#[]⟩, .bool false]), 3, 32) := by kernel_rfl

def txA (site seq wall count d0 d1 d2 d3 : Int) (v : Value) : List Value := [.int .i64 site, .int .i64 seq, .int .i64 wall, .int .i64 count, .int .i64 d0, .int .i64 d1, .int .i64 d2, .int .i64 d3, v]

def TxOut (L : List UInt8) (w : World) (e : Ending) (w' : World) : Prop :=
  ((∃ (x : TxV) (a : Option Addr) (cap : Nat), Good L x ∧ WrIn w' a cap x.l ∧ e = .returned (.tuple #[.agg #[.int .i64 x.site, .int .i64 x.seq, .int .i64 x.wall, .int .i64 x.count, .int .i64 x.d0, .int .i64 x.d1, .int .i64 x.d2, .int .i64 x.d3, .slice a x.l.length cap], .nilIface])) ∨
   ((∀ x, ¬ Good L x) ∧ e = .returned (.tuple #[.agg #[.int .i64 0, .int .i64 0, .int .i64 0, .int .i64 0, .int .i64 0, .int .i64 0, .int .i64 0, .int .i64 0, .slice none 0 0], .iface 26 (.int .i64 3)]))) ∧ Below w.heap.size w w'

theorem dec_results {tmps : Array Value} {w : World} {b : Nat} {q0 q1 q2 q3 q4 q5 q6 q7 q8 ev : Value} (h : RowL w b [q0, q1, q2, q3, q4, q5, q6, q7, q8]) (h2 : tmps[2]? = some (.pointer (some ⟨b, 0, none⟩))) (h3 : tmps[3]? = some ev)
    (p0 : ∃ n, q0 = .int .i64 n) (p1 : ∃ n, q1 = .int .i64 n) (p2 : ∃ n, q2 = .int .i64 n) (p3 : ∃ n, q3 = .int .i64 n) (p4 : ∃ n, q4 = .int .i64 n) (p5 : ∃ n, q5 = .int .i64 n) (p6 : ∃ n, q6 = .int .i64 n) (p7 : ∃ n, q7 = .int .i64 n) (p8 : ∃ a n c, q8 = .slice a n c) :
    (results Tryz.f209 tmps).run Tryz.prog w = .ok (.tuple #[.agg #[q0, q1, q2, q3, q4, q5, q6, q7, q8], ev]) w := by
  obtain ⟨n0, rfl⟩ := p0
  obtain ⟨n1, rfl⟩ := p1
  obtain ⟨n2, rfl⟩ := p2
  obtain ⟨n3, rfl⟩ := p3
  obtain ⟨n4, rfl⟩ := p4
  obtain ⟨n5, rfl⟩ := p5
  obtain ⟨n6, rfl⟩ := p6
  obtain ⟨n7, rfl⟩ := p7
  obtain ⟨a, n, c, rfl⟩ := p8
  have z0 := h.cell 0 _ rfl
  have z1 := h.cell 1 _ rfl
  have z2 := h.cell 2 _ rfl
  have z3 := h.cell 3 _ rfl
  have z4 := h.cell 4 _ rfl
  have z5 := h.cell 5 _ rfl
  have z6 := h.cell 6 _ rfl
  have z7 := h.cell 7 _ rfl
  have z8 := h.cell 8 _ rfl
  simp [results, Tryz.results209, go_sem, h2, h3, z0, z1, z2, z3, z4, z5, z6, z7, z8]

set_option maxRecDepth 100000 in
set_option maxHeartbeats 8000000 in
theorem decTx_any (a : Option Addr) (L : List UInt8) (c : Nat) (w : World) (hB : BytesAt w w.heap.size a L) (hc : L.length ≤ c) (hl : L.length ≤ 1000000) :
    Calls Tryz.prog 209 #[.slice a L.length c] w fun e w' => TxOut L w e w' := by
  have RV := (RowL.new (w := w) (T := 102) [.int .i64 0, .int .i64 0, .int .i64 0, .int .i64 0, .int .i64 0, .int .i64 0, .int .i64 0, .int .i64 0, .slice none 0 0] rfl).boxed (.cells #[.slice a L.length c, .bool false] 301)
  have D := Rd.new (w := w.alloc (.cells #[.int .i64 0, .int .i64 0, .int .i64 0, .int .i64 0, .int .i64 0, .int .i64 0, .int .i64 0, .int .i64 0, .slice none 0 0] 102)) (n := w.heap.size + 1) (T := 301) (by simp) hc (hB.later (boxed (Below.refl _ _) _) (by omega))
  have hb := boxed (boxed (Below.refl _ w) (.cells #[.int .i64 0, .int .i64 0, .int .i64 0, .int .i64 0, .int .i64 0, .int .i64 0, .int .i64 0, .int .i64 0, .slice none 0 0] 102)) (.cells #[.slice a L.length c, .bool false] 301)
  have hne : w.heap.size ≠ w.heap.size + 1 := by omega
  go_enter Tryz.func209, Tryz.ntmps209
  go_wp2_with fail
  refine (kind_any (w.heap.size + 1) L false 116 _ D hl).mono ?_
  rintro e w1 ⟨rfl, R0, x0, k0, D0, y0⟩
  have K0 : Hid (KindIs L false 116 R0 x0) := k0
  replace RV := (RV.only y0 hne).boxed (.cells #[.int .i64 0, .int .i64 0, .int .i64 0, .int .i64 0, .int .i64 0, .int .i64 0, .int .i64 0, .int .i64 0, .slice none 0 0] 102)
  replace hb := boxed (only_below hb y0 (by omega)) (.cells #[.int .i64 0, .int .i64 0, .int .i64 0, .int .i64 0, .int .i64 0, .int .i64 0, .int .i64 0, .int .i64 0, .slice none 0 0] 102)
  replace D0 := D0.alloc (.cells #[.int .i64 0, .int .i64 0, .int .i64 0, .int .i64 0, .int .i64 0, .int .i64 0, .int .i64 0, .int .i64 0, .slice none 0 0] 102)
  have RT := RowL.new (w := w1) (T := 102) [.int .i64 0, .int .i64 0, .int .i64 0, .int .i64 0, .int .i64 0, .int .i64 0, .int .i64 0, .int .i64 0, .slice none 0 0] rfl
  have hlt : w.heap.size + 1 < w1.heap.size := by have := y0.size; simp at this; omega
  have hnt : w1.heap.size ≠ w.heap.size + 1 := by omega
  clear k0 y0 D
  go_wp2_with fail
  refine (rdNumber_any (w.heap.size + 1) R0 x0 3 _ D0).mono ?_
  rintro e w2 ⟨site, rfl, R1, x1, n1, D1, y1⟩
  have N1 : Hid (NumIs 3 R0 x0 site R1 x1) := n1
  replace RV := RV.only y1 hne
  replace RT := RT.only y1 hnt
  replace hb := only_below hb y1 (by omega)
  clear n1 y1 D0
  have c0 := RT.cell 0 _ rfl
  have f0 := RT.free 0 (by simp)
  replace RV := RV.far ⟨w1.heap.size, 0, none⟩ (.int .i64 site) (by show w1.heap.size ≠ w.heap.size; omega)
  replace RT := RT.set 0 (.int .i64 site) (by simp)
  replace hb := hb.setCell (p := ⟨w1.heap.size, 0, none⟩) (by show w.heap.size ≤ w1.heap.size; omega) (.int .i64 site)
  replace D1 := D1.far ⟨w1.heap.size, 0, none⟩ (.int .i64 site) (by show w.heap.size + 1 < w1.heap.size; omega)
  go_wp2_with fail
  clear c0 f0
  refine (rdNumber_any (w.heap.size + 1) R1 x1 1099511627776 _ D1).mono ?_
  rintro e w3 ⟨seq, rfl, R2, x2, n2, D2, y2⟩
  have N2 : Hid (NumIs 1099511627776 R1 x1 seq R2 x2) := n2
  replace RV := RV.only y2 hne
  replace RT := RT.only y2 hnt
  replace hb := only_below hb y2 (by omega)
  clear n2 y2 D1
  have c1 := RT.cell 1 _ rfl
  have f1 := RT.free 1 (by simp)
  replace RV := RV.far ⟨w1.heap.size, 1, none⟩ (.int .i64 seq) (by show w1.heap.size ≠ w.heap.size; omega)
  replace RT := RT.set 1 (.int .i64 seq) (by simp)
  replace hb := hb.setCell (p := ⟨w1.heap.size, 1, none⟩) (by show w.heap.size ≤ w1.heap.size; omega) (.int .i64 seq)
  replace D2 := D2.far ⟨w1.heap.size, 1, none⟩ (.int .i64 seq) (by show w.heap.size + 1 < w1.heap.size; omega)
  go_wp2_with fail
  clear c1 f1
  refine (rdNumber_any (w.heap.size + 1) R2 x2 1099511627776 _ D2).mono ?_
  rintro e w4 ⟨wall, rfl, R3, x3, n3, D3, y3⟩
  have N3 : Hid (NumIs 1099511627776 R2 x2 wall R3 x3) := n3
  replace RV := RV.only y3 hne
  replace RT := RT.only y3 hnt
  replace hb := only_below hb y3 (by omega)
  clear n3 y3 D2
  have c2 := RT.cell 2 _ rfl
  have f2 := RT.free 2 (by simp)
  replace RV := RV.far ⟨w1.heap.size, 2, none⟩ (.int .i64 wall) (by show w1.heap.size ≠ w.heap.size; omega)
  replace RT := RT.set 2 (.int .i64 wall) (by simp)
  replace hb := hb.setCell (p := ⟨w1.heap.size, 2, none⟩) (by show w.heap.size ≤ w1.heap.size; omega) (.int .i64 wall)
  replace D3 := D3.far ⟨w1.heap.size, 2, none⟩ (.int .i64 wall) (by show w.heap.size + 1 < w1.heap.size; omega)
  go_wp2_with fail
  clear c2 f2
  refine (rdNumber_any (w.heap.size + 1) R3 x3 1099511627776 _ D3).mono ?_
  rintro e w5 ⟨count, rfl, R4, x4, n4, D4, y4⟩
  have N4 : Hid (NumIs 1099511627776 R3 x3 count R4 x4) := n4
  replace RV := RV.only y4 hne
  replace RT := RT.only y4 hnt
  replace hb := only_below hb y4 (by omega)
  clear n4 y4 D3
  have c3 := RT.cell 3 _ rfl
  have f3 := RT.free 3 (by simp)
  replace RV := RV.far ⟨w1.heap.size, 3, none⟩ (.int .i64 count) (by show w1.heap.size ≠ w.heap.size; omega)
  replace RT := RT.set 3 (.int .i64 count) (by simp)
  replace hb := hb.setCell (p := ⟨w1.heap.size, 3, none⟩) (by show w.heap.size ≤ w1.heap.size; omega) (.int .i64 count)
  replace D4 := D4.far ⟨w1.heap.size, 3, none⟩ (.int .i64 count) (by show w.heap.size + 1 < w1.heap.size; omega)
  go_wp2_with fail
  clear c3 f3
  refine (vec_any (w.heap.size + 1) R4 x4 _ D4).mono ?_
  rintro e w6 ⟨v0, v1, v2, v3, rfl, R5, x5, R6, x6, R7, x7, R8, x8, m5, m6, m7, m8, D8, y8⟩
  have N5 : Hid (NumIs 1099511627776 R4 x4 v0 R5 x5) := m5
  have N6 : Hid (NumIs 1099511627776 R5 x5 v1 R6 x6) := m6
  have N7 : Hid (NumIs 1099511627776 R6 x6 v2 R7 x7) := m7
  have N8 : Hid (NumIs 1099511627776 R7 x7 v3 R8 x8) := m8
  replace RV := RV.only y8 hne
  replace RT := RT.only y8 hnt
  replace hb := only_below hb y8 (by omega)
  clear m5 m6 m7 m8 y8 D4
  have c4 := RT.cell 4 _ rfl
  have f4 := RT.free 4 (by simp)
  have c5 := RT.cell 5 _ rfl
  have f5 := RT.free 5 (by simp)
  have c6 := RT.cell 6 _ rfl
  have f6 := RT.free 6 (by simp)
  have c7 := RT.cell 7 _ rfl
  have f7 := RT.free 7 (by simp)
  replace RV := RV.far ⟨w1.heap.size, 4, none⟩ (.int .i64 v0) (by show w1.heap.size ≠ w.heap.size; omega)
  replace RT := RT.set 4 (.int .i64 v0) (by simp)
  replace hb := hb.setCell (p := ⟨w1.heap.size, 4, none⟩) (by show w.heap.size ≤ w1.heap.size; omega) (.int .i64 v0)
  replace D8 := D8.far ⟨w1.heap.size, 4, none⟩ (.int .i64 v0) (by show w.heap.size + 1 < w1.heap.size; omega)
  replace RV := RV.far ⟨w1.heap.size, 5, none⟩ (.int .i64 v1) (by show w1.heap.size ≠ w.heap.size; omega)
  replace RT := RT.set 5 (.int .i64 v1) (by simp)
  replace hb := hb.setCell (p := ⟨w1.heap.size, 5, none⟩) (by show w.heap.size ≤ w1.heap.size; omega) (.int .i64 v1)
  replace D8 := D8.far ⟨w1.heap.size, 5, none⟩ (.int .i64 v1) (by show w.heap.size + 1 < w1.heap.size; omega)
  replace RV := RV.far ⟨w1.heap.size, 6, none⟩ (.int .i64 v2) (by show w1.heap.size ≠ w.heap.size; omega)
  replace RT := RT.set 6 (.int .i64 v2) (by simp)
  replace hb := hb.setCell (p := ⟨w1.heap.size, 6, none⟩) (by show w.heap.size ≤ w1.heap.size; omega) (.int .i64 v2)
  replace D8 := D8.far ⟨w1.heap.size, 6, none⟩ (.int .i64 v2) (by show w.heap.size + 1 < w1.heap.size; omega)
  replace RV := RV.far ⟨w1.heap.size, 7, none⟩ (.int .i64 v3) (by show w1.heap.size ≠ w.heap.size; omega)
  replace RT := RT.set 7 (.int .i64 v3) (by simp)
  replace hb := hb.setCell (p := ⟨w1.heap.size, 7, none⟩) (by show w.heap.size ≤ w1.heap.size; omega) (.int .i64 v3)
  replace D8 := D8.far ⟨w1.heap.size, 7, none⟩ (.int .i64 v3) (by show w.heap.size + 1 < w1.heap.size; omega)
  go_wp2_with fail
  clear c4 f4 c5 f5 c6 f6 c7 f7
  refine (rdNumber_any (w.heap.size + 1) R8 x8 5 _ D8).mono ?_
  rintro e w7 ⟨nw, rfl, R9, x9, n9, D9, y9⟩
  have N9 : Hid (NumIs 5 R8 x8 nw R9 x9) := n9
  replace RV := RV.only y9 hne
  replace RT := RT.only y9 hnt
  replace hb := only_below hb y9 (by omega)
  clear n9 y9 D8
  have RTX : RowL w7 w1.heap.size (txA site seq wall count v0 v1 v2 v3 (.slice none 0 0)) := RT
  have hsz : w1.heap.size + 1 ≤ w7.heap.size := RT.lt
  clear RT
  have nw0 := N9.out.nonneg
  have hlen9 : R9.length ≤ 1000000 := by
    have a0 := K0.out.2.1
    have a1 := N1.out.1
    have a2 := N2.out.1
    have a3 := N3.out.1
    have a4 := N4.out.1
    have a5 := N5.out.1
    have a6 := N6.out.1
    have a7 := N7.out.1
    have a8 := N8.out.1
    have a9 := N9.out.1
    omega
  obtain ⟨m, rfl⟩ : ∃ m : Nat, nw = m := ⟨nw.toNat, by omega⟩
  have hm5 : m ≤ 5 := by
    rcases N9.out.2 with ⟨_, h, _⟩ | ⟨_, h, _⟩ <;> omega
  clear nw0
  go_wp2_with fail
  go_loopw [30] (fun iv wr => ∃ (k : Nat) (z : Int) (l : List Wr) (R : List UInt8) (x : Bool) (v : Value), k ≤ m ∧ z = k ∧ iv = .int .i64 z ∧ l.length = k ∧ WsIs R9 x9 l R x ∧ RowL wr w1.heap.size (txA site seq wall count v0 v1 v2 v3 v) ∧ wr.ownsRow (w1.heap.size + 1) 100 3 v l.length (wrsC l) ∧ Rd wr (w.heap.size + 1) R x ∧ RowL wr w.heap.size [.int .i64 0, .int .i64 0, .int .i64 0, .int .i64 0, .int .i64 0, .int .i64 0, .int .i64 0, .int .i64 0, .slice none 0 0] ∧ Below w.heap.size w wr ∧ w1.heap.size + 1 ≤ wr.heap.size) (fun i _ => m - (intOf i).toNat)
  case atStart => exact ⟨0, 0, [], R9, x9, .slice none 0 0, by omega, rfl, rfl, rfl, .nil, RTX, World.ownsRow_nil _ _ _ _, D9, RV, hb, hsz⟩
  case round =>
    clear RTX D9 RV hb hsz
    obtain ⟨k, z, l, R, x, v, hk, hz, rfl, hlk, hws, RT, own, D, RV, hb, hsz⟩ := hrel
    have HWS : Hid (WsIs R9 x9 l R x) := hws
    have HLK : Hid (l.length = k) := hlk
    have hl5 : l.length ≤ 5 := by omega
    clear hws hlk
    by_cases hlt2 : k < m
    · have h1 : z < (m : Int) := by omega
      have h3 : 0 ≤ z := by omega
      have HZ : Hid (z = k) := hz
      clear hz
      have hlenR : R.length ≤ 1000000 := Nat.le_trans (ws_length HWS.out) hlen9
      have c8 : wr.cell? ⟨w1.heap.size, 8, none⟩ = some v := RT.cell 8 _ rfl
      obtain ⟨i0, hi, hz0, hz1, hz2⟩ := info_parts writeInfo
      go_wp2_with fail
      go_region_law (first
        | (refine step_call rfl 250 #[.pointer (some ⟨w.heap.size + 1, 0, none⟩)] (by go_simp) (write_any (w.heap.size + 1) R x _ D.drew hlenR) ?_
           rintro e w8 ⟨key, data, gone, rfl, R', x', wi, D', y8⟩
           refine ⟨_, rfl, ?_⟩
           have WI : Hid (WriteIs R x key data gone R' x') := wi
           have RT8 := RT.drew.only y8 hnt
           have RV8 := RV.drew.only y8 hne
           have hb8 := only_below hb.drew y8 (by omega)
           have own8 := owns_far (w := wr.drew) own y8 (by omega)
           have c8b : w8.cell? ⟨w1.heap.size, 8, none⟩ = some v := RT8.cell 8 _ rfl
           have hlt8 := RT8.lt
           clear wi y8)
        | (refine step_append_lies _ rfl (.tmp 33) (.tmp 36) 88 rfl (w1.heap.size + 1) 100 i0 (.agg #[.int .i64 0, .string ⟨#[]⟩, .bool false]) 3 32 Tryz.underlying88 hi hz0 hz1 hz2 rfl (by decide) v l.length (wrsC l) (by simp [Act.eval]) (own8.alloc _) ⟨w8.heap.size, 0, none⟩ 1 1 (wrC ⟨key, data, gone⟩) (by simp [Act.eval]) rfl (World.news_of_block (heap_alloc_new w8 (.cells #[.int .i64 key, .string data, .bool gone] 100))) (by intro u hu; simp [wrC] at hu; rcases hu with rfl | rfl | rfl <;> rfl) (by decide) (by simp only [maxLen]; omega) (by omega) (by simp; omega) _ rfl ?_
           intro g cap w9 own9 gr9 eg9 lt9
           have RT9 := (RT8.boxed (.cells #[.int .i64 key, .string data, .bool gone] 100)).grown gr9 (fun e => by have := own_rows own8 _ e.symm; omega)
           have RV9 := (RV8.boxed (.cells #[.int .i64 key, .string data, .bool gone] 100)).grown gr9 (fun e => by have := own_rows own8 _ e.symm; omega)
           have D9 := (D'.alloc (.cells #[.int .i64 key, .string data, .bool gone] 100)).grown gr9 (fun j hj => by have := own_rows own8 _ hj; omega)
           have hb9 := (boxed hb8 (.cells #[.int .i64 key, .string data, .bool gone] 100)).grown gr9 (by have := hb8.size; simp; omega) (fun j hj => by have := own_rows own8 _ hj; omega)
           have c8c : w9.cell? ⟨w1.heap.size, 8, none⟩ = some v := RT9.cell 8 _ rfl
           have f8c : w9.frozen? ⟨w1.heap.size, 8, none⟩ = false := RT9.free 8 (by simp [txA])))
      all_goals
        have RT10 : RowL (w9.setCell ⟨w1.heap.size, 8, none⟩ (.slice (some ⟨g, 0, none⟩) (l.length + 1) cap)) w1.heap.size (txA site seq wall count v0 v1 v2 v3 (.slice (some ⟨g, 0, none⟩) (l.length + 1) cap)) := RT9.set 8 (.slice (some ⟨g, 0, none⟩) (l.length + 1) cap) (by simp [txA])
        have RV10 := RV9.far ⟨w1.heap.size, 8, none⟩ (.slice (some ⟨g, 0, none⟩) (l.length + 1) cap) (by show w1.heap.size ≠ w.heap.size; omega)
        have D10 := D9.far ⟨w1.heap.size, 8, none⟩ (.slice (some ⟨g, 0, none⟩) (l.length + 1) cap) (by show w.heap.size + 1 < w1.heap.size; omega)
        have hb10 := hb9.setCell (p := ⟨w1.heap.size, 8, none⟩) (by show w.heap.size ≤ w1.heap.size; omega) (.slice (some ⟨g, 0, none⟩) (l.length + 1) cap)
        have own10 := ownsRow_setCell_below own9 (a := ⟨w1.heap.size, 8, none⟩) (by show w1.heap.size < w1.heap.size + 1; omega) (.slice (some ⟨g, 0, none⟩) (l.length + 1) cap)
        go_wp2_with fail
        go_roundw
        case rel => exact ⟨k + 1, z + 1, l ++ [⟨key, data, gone⟩], R', x', _, by omega, by have := HZ.out; omega, by go_num, by have := HLK.out; simp; omega, .snoc HWS.out WI.out, RT10, by rw [wrsC_snoc, List.length_append]; exact own10, D10, RV10, hb10, by have := RT10.lt; omega⟩
        case measure => simp [intOf]; omega
    · obtain rfl : k = m := by omega
      have CH : Hid ((doneB R x = true → toL (txS site seq wall count v0 v1 v2 v3 l) = L) ∧ (∀ y, Good L y → doneB R x = true ∧ y = ⟨site, seq, wall, count, v0, v1, v2, v3, l⟩)) := tx_chain K0.out N1.out N2.out N3.out N4.out N5.out N6.out N7.out N8.out N9.out HWS.out (by have := HLK.out; omega)
      obtain ⟨a', cap', rfl, hW⟩ := wrIn_own own
      have OWN : Hid (wr.ownsRow (w1.heap.size + 1) 100 3 (.slice a' l.length cap') l.length (wrsC l)) := own
      clear own
      go_wp2_with fail
      refine (isDone_any (w.heap.size + 1) R x _ D).mono ?_
      rintro e w8 ⟨rfl, hb8⟩
      have RV8 := RV.later hb8
      have RT8 := RT.later hb8
      replace hW := hW.later hb8
      replace OWN : Hid (w8.ownsRow (w1.heap.size + 1) 100 3 (.slice a' l.length cap') l.length (wrsC l)) := own_later OWN.out hb8
      have hbX := behind hb hb8
      clear hb8 D RV RT
      cases hd : doneB R x
      · have NO : Hid (∀ y, ¬ Good L y) := fun y hy => by rw [(CH.out.2 y hy).1] at hd; cases hd
        clear hd
        have RZ := (((((((((RV8.set 0 (.int .i64 0) (by simp)).set 1 (.int .i64 0) (by simp)).set 2 (.int .i64 0) (by simp)).set 3 (.int .i64 0) (by simp)).set 4 (.int .i64 0) (by simp)).set 5 (.int .i64 0) (by simp)).set 6 (.int .i64 0) (by simp)).set 7 (.int .i64 0) (by simp)).set 8 (.slice none 0 0) (by simp))
        have hbZ := (((((((((hbX.setCell (p := ⟨w.heap.size, 0, none⟩) (Nat.le_refl _) (.int .i64 0)).setCell (p := ⟨w.heap.size, 1, none⟩) (Nat.le_refl _) (.int .i64 0)).setCell (p := ⟨w.heap.size, 2, none⟩) (Nat.le_refl _) (.int .i64 0)).setCell (p := ⟨w.heap.size, 3, none⟩) (Nat.le_refl _) (.int .i64 0)).setCell (p := ⟨w.heap.size, 4, none⟩) (Nat.le_refl _) (.int .i64 0)).setCell (p := ⟨w.heap.size, 5, none⟩) (Nat.le_refl _) (.int .i64 0)).setCell (p := ⟨w.heap.size, 6, none⟩) (Nat.le_refl _) (.int .i64 0)).setCell (p := ⟨w.heap.size, 7, none⟩) (Nat.le_refl _) (.int .i64 0)).setCell (p := ⟨w.heap.size, 8, none⟩) (Nat.le_refl _) (.slice none 0 0))
        have k0 := RV8.cell 0 _ rfl
        have g0 := RV8.free 0 (by simp)
        have k1 := RV8.cell 1 _ rfl
        have g1 := RV8.free 1 (by simp)
        have k2 := RV8.cell 2 _ rfl
        have g2 := RV8.free 2 (by simp)
        have k3 := RV8.cell 3 _ rfl
        have g3 := RV8.free 3 (by simp)
        have k4 := RV8.cell 4 _ rfl
        have g4 := RV8.free 4 (by simp)
        have k5 := RV8.cell 5 _ rfl
        have g5 := RV8.free 5 (by simp)
        have k6 := RV8.cell 6 _ rfl
        have g6 := RV8.free 6 (by simp)
        have k7 := RV8.cell 7 _ rfl
        have g7 := RV8.free 7 (by simp)
        have k8 := RV8.cell 8 _ rfl
        have g8 := RV8.free 8 (by simp)
        go_wp2_with fail
        refine bodyPost_ret (v := .tuple #[.agg #[.int .i64 0, .int .i64 0, .int .i64 0, .int .i64 0, .int .i64 0, .int .i64 0, .int .i64 0, .int .i64 0, .slice none 0 0], .iface 26 (.int .i64 3)]) (dec_results RZ rfl rfl ⟨_, rfl⟩ ⟨_, rfl⟩ ⟨_, rfl⟩ ⟨_, rfl⟩ ⟨_, rfl⟩ ⟨_, rfl⟩ ⟨_, rfl⟩ ⟨_, rfl⟩ ⟨_, _, _, rfl⟩) rfl ⟨.inr ⟨NO.out, rfl⟩, hbZ⟩
      · have HD : Hid (doneB R x = true) := hd
        clear hd
        have c0 := RT8.cell 0 _ rfl
        have c1 := RT8.cell 1 _ rfl
        have c2 := RT8.cell 2 _ rfl
        have c3 := RT8.cell 3 _ rfl
        have c4 := RT8.cell 4 _ rfl
        have c5 := RT8.cell 5 _ rfl
        have c6 := RT8.cell 6 _ rfl
        have c7 := RT8.cell 7 _ rfl
        have c8 := RT8.cell 8 _ rfl
        cases ho : okTx site seq wall count v0 v1 v2 v3 l
        · have NO : Hid (∀ y, ¬ Good L y) := fun y hy => by
            have h1 := (CH.out.2 y hy).2
            have h2 := hy.1
            rw [h1] at h2
            rw [show TxV.ok ⟨site, seq, wall, count, v0, v1, v2, v3, l⟩ = okTx site seq wall count v0 v1 v2 v3 l from rfl, ho] at h2
            cases h2
          have HO : Hid (okTx site seq wall count v0 v1 v2 v3 l = false) := ho
          clear ho
          go_wp2_with fail
          refine (rightTx_is hW HO.out).mono ?_
          rintro e w9 ⟨rfl, hb9⟩
          replace RV8 := RV8.later hb9
          replace hbX := behind hbX hb9
          clear hb9 RT8 hW c0 c1 c2 c3 c4 c5 c6 c7 c8
          have RZ := (((((((((RV8.set 0 (.int .i64 0) (by simp)).set 1 (.int .i64 0) (by simp)).set 2 (.int .i64 0) (by simp)).set 3 (.int .i64 0) (by simp)).set 4 (.int .i64 0) (by simp)).set 5 (.int .i64 0) (by simp)).set 6 (.int .i64 0) (by simp)).set 7 (.int .i64 0) (by simp)).set 8 (.slice none 0 0) (by simp))
          have hbZ := (((((((((hbX.setCell (p := ⟨w.heap.size, 0, none⟩) (Nat.le_refl _) (.int .i64 0)).setCell (p := ⟨w.heap.size, 1, none⟩) (Nat.le_refl _) (.int .i64 0)).setCell (p := ⟨w.heap.size, 2, none⟩) (Nat.le_refl _) (.int .i64 0)).setCell (p := ⟨w.heap.size, 3, none⟩) (Nat.le_refl _) (.int .i64 0)).setCell (p := ⟨w.heap.size, 4, none⟩) (Nat.le_refl _) (.int .i64 0)).setCell (p := ⟨w.heap.size, 5, none⟩) (Nat.le_refl _) (.int .i64 0)).setCell (p := ⟨w.heap.size, 6, none⟩) (Nat.le_refl _) (.int .i64 0)).setCell (p := ⟨w.heap.size, 7, none⟩) (Nat.le_refl _) (.int .i64 0)).setCell (p := ⟨w.heap.size, 8, none⟩) (Nat.le_refl _) (.slice none 0 0))
          have k0 := RV8.cell 0 _ rfl
          have g0 := RV8.free 0 (by simp)
          have k1 := RV8.cell 1 _ rfl
          have g1 := RV8.free 1 (by simp)
          have k2 := RV8.cell 2 _ rfl
          have g2 := RV8.free 2 (by simp)
          have k3 := RV8.cell 3 _ rfl
          have g3 := RV8.free 3 (by simp)
          have k4 := RV8.cell 4 _ rfl
          have g4 := RV8.free 4 (by simp)
          have k5 := RV8.cell 5 _ rfl
          have g5 := RV8.free 5 (by simp)
          have k6 := RV8.cell 6 _ rfl
          have g6 := RV8.free 6 (by simp)
          have k7 := RV8.cell 7 _ rfl
          have g7 := RV8.free 7 (by simp)
          have k8 := RV8.cell 8 _ rfl
          have g8 := RV8.free 8 (by simp)
          go_wp2_with fail
          refine bodyPost_ret (v := .tuple #[.agg #[.int .i64 0, .int .i64 0, .int .i64 0, .int .i64 0, .int .i64 0, .int .i64 0, .int .i64 0, .int .i64 0, .slice none 0 0], .iface 26 (.int .i64 3)]) (dec_results RZ rfl rfl ⟨_, rfl⟩ ⟨_, rfl⟩ ⟨_, rfl⟩ ⟨_, rfl⟩ ⟨_, rfl⟩ ⟨_, rfl⟩ ⟨_, rfl⟩ ⟨_, rfl⟩ ⟨_, _, _, rfl⟩) rfl ⟨.inr ⟨NO.out, rfl⟩, hbZ⟩
        · have YES : Hid (Good L ⟨site, seq, wall, count, v0, v1, v2, v3, l⟩) := ⟨ho, CH.out.1 HD.out⟩
          have HO : Hid (okTx site seq wall count v0 v1 v2 v3 l = true) := ho
          clear ho
          go_wp2_with fail
          refine (rightTx_is hW HO.out).mono ?_
          rintro e w9 ⟨rfl, hb9⟩
          replace RV8 := RV8.later hb9
          replace RT8 := RT8.later hb9
          have ownZ := own_later OWN.out hb9
          replace hbX := behind hbX hb9
          clear hb9
          replace c0 := RT8.cell 0 _ rfl
          replace c1 := RT8.cell 1 _ rfl
          replace c2 := RT8.cell 2 _ rfl
          replace c3 := RT8.cell 3 _ rfl
          replace c4 := RT8.cell 4 _ rfl
          replace c5 := RT8.cell 5 _ rfl
          replace c6 := RT8.cell 6 _ rfl
          replace c7 := RT8.cell 7 _ rfl
          replace c8 := RT8.cell 8 _ rfl
          have RZ := (((((((((RV8.set 0 (.int .i64 site) (by simp)).set 1 (.int .i64 seq) (by simp)).set 2 (.int .i64 wall) (by simp)).set 3 (.int .i64 count) (by simp)).set 4 (.int .i64 v0) (by simp)).set 5 (.int .i64 v1) (by simp)).set 6 (.int .i64 v2) (by simp)).set 7 (.int .i64 v3) (by simp)).set 8 (.slice a' l.length cap') (by simp))
          replace ownZ := ownsRow_setCell_below ownZ (a := ⟨w.heap.size, 0, none⟩) (by show w.heap.size < w1.heap.size + 1; omega) (.int .i64 site)
          replace ownZ := ownsRow_setCell_below ownZ (a := ⟨w.heap.size, 1, none⟩) (by show w.heap.size < w1.heap.size + 1; omega) (.int .i64 seq)
          replace ownZ := ownsRow_setCell_below ownZ (a := ⟨w.heap.size, 2, none⟩) (by show w.heap.size < w1.heap.size + 1; omega) (.int .i64 wall)
          replace ownZ := ownsRow_setCell_below ownZ (a := ⟨w.heap.size, 3, none⟩) (by show w.heap.size < w1.heap.size + 1; omega) (.int .i64 count)
          replace ownZ := ownsRow_setCell_below ownZ (a := ⟨w.heap.size, 4, none⟩) (by show w.heap.size < w1.heap.size + 1; omega) (.int .i64 v0)
          replace ownZ := ownsRow_setCell_below ownZ (a := ⟨w.heap.size, 5, none⟩) (by show w.heap.size < w1.heap.size + 1; omega) (.int .i64 v1)
          replace ownZ := ownsRow_setCell_below ownZ (a := ⟨w.heap.size, 6, none⟩) (by show w.heap.size < w1.heap.size + 1; omega) (.int .i64 v2)
          replace ownZ := ownsRow_setCell_below ownZ (a := ⟨w.heap.size, 7, none⟩) (by show w.heap.size < w1.heap.size + 1; omega) (.int .i64 v3)
          replace ownZ := ownsRow_setCell_below ownZ (a := ⟨w.heap.size, 8, none⟩) (by show w.heap.size < w1.heap.size + 1; omega) (.slice a' l.length cap')
          obtain ⟨a2, cap2, ea, hW2⟩ := wrIn_own ownZ
          injection ea with e1 _ e3
          subst e1 e3
          have HW2 : Hid (WrIn _ a' cap' l) := hW2
          clear hW2 ownZ hW OWN
          have hbZ := (((((((((hbX.setCell (p := ⟨w.heap.size, 0, none⟩) (Nat.le_refl _) (.int .i64 site)).setCell (p := ⟨w.heap.size, 1, none⟩) (Nat.le_refl _) (.int .i64 seq)).setCell (p := ⟨w.heap.size, 2, none⟩) (Nat.le_refl _) (.int .i64 wall)).setCell (p := ⟨w.heap.size, 3, none⟩) (Nat.le_refl _) (.int .i64 count)).setCell (p := ⟨w.heap.size, 4, none⟩) (Nat.le_refl _) (.int .i64 v0)).setCell (p := ⟨w.heap.size, 5, none⟩) (Nat.le_refl _) (.int .i64 v1)).setCell (p := ⟨w.heap.size, 6, none⟩) (Nat.le_refl _) (.int .i64 v2)).setCell (p := ⟨w.heap.size, 7, none⟩) (Nat.le_refl _) (.int .i64 v3)).setCell (p := ⟨w.heap.size, 8, none⟩) (Nat.le_refl _) (.slice a' l.length cap'))
          have k0 := RV8.cell 0 _ rfl
          have g0 := RV8.free 0 (by simp)
          have k1 := RV8.cell 1 _ rfl
          have g1 := RV8.free 1 (by simp)
          have k2 := RV8.cell 2 _ rfl
          have g2 := RV8.free 2 (by simp)
          have k3 := RV8.cell 3 _ rfl
          have g3 := RV8.free 3 (by simp)
          have k4 := RV8.cell 4 _ rfl
          have g4 := RV8.free 4 (by simp)
          have k5 := RV8.cell 5 _ rfl
          have g5 := RV8.free 5 (by simp)
          have k6 := RV8.cell 6 _ rfl
          have g6 := RV8.free 6 (by simp)
          have k7 := RV8.cell 7 _ rfl
          have g7 := RV8.free 7 (by simp)
          have k8 := RV8.cell 8 _ rfl
          have g8 := RV8.free 8 (by simp)
          go_wp2_with fail
          refine bodyPost_ret (v := .tuple #[.agg #[.int .i64 site, .int .i64 seq, .int .i64 wall, .int .i64 count, .int .i64 v0, .int .i64 v1, .int .i64 v2, .int .i64 v3, .slice a' l.length cap'], .nilIface]) (dec_results RZ rfl rfl ⟨_, rfl⟩ ⟨_, rfl⟩ ⟨_, rfl⟩ ⟨_, rfl⟩ ⟨_, rfl⟩ ⟨_, rfl⟩ ⟨_, rfl⟩ ⟨_, rfl⟩ ⟨_, _, _, rfl⟩) rfl ⟨.inl ⟨⟨site, seq, wall, count, v0, v1, v2, v3, l⟩, a', cap', YES.out, HW2.out, rfl⟩, hbZ⟩
end
section
/-- numbers' bytes behind others -/
def numsS (S : ByteArray) (ns : List Int) : ByteArray := ns.foldl (fun s n => s ++ numS 5 n) S
theorem numsS_snoc {S : ByteArray} {ns : List Int} {k : Nat} (hk : k < ns.length) : numsS S (ns.take (k + 1)) = numsS S (ns.take k) ++ numS 5 (ns.getD k 0) := by
  unfold numsS
  rw [List.take_succ_eq_append_getElem hk, List.foldl_append]
  simp [List.getD, List.getElem?_eq_getElem hk]
theorem numsS_size (S : ByteArray) (ns : List Int) : ∀ k, k ≤ ns.length → (numsS S (ns.take k)).size ≤ S.size + 6 * k
  | 0, _ => by simp [numsS]
  | k + 1, hk => by
    rw [numsS_snoc (by omega), ByteArray.size_append]
    have a := numsS_size S ns k (by omega)
    have b := numS_size 5 (ns.getD k 0)
    omega

theorem nrem {m : Int} (h0 : 0 ≤ m) : IntKind.i64.wrap (m.tmod 128) = m % 128 := by
  rw [Int.tmod_eq_emod_of_nonneg h0]
  unfold IntKind.wrap
  simp [IntKind.signed, IntKind.bits]
  omega
theorem nquo {m : Int} (h0 : 0 ≤ m) (hm : m ≤ 1099511627776) : IntKind.i64.wrap (m.tdiv 128) = m / 128 := by
  rw [Int.tdiv_eq_ediv_of_nonneg h0]
  unfold IntKind.wrap
  simp [IntKind.signed, IntKind.bits]
  omega

theorem u8info : (Tryz.prog.info? 5).map (fun i => (i.zero, i.size, i.bytes)) = some (some (.int .u8 0), 1, 1) := by kernel_rfl

set_option maxHeartbeats 4000000 in
theorem numbers_any (B g cap : Nat) (S : ByteArray) (lb lo lc : Nat) (ns : List Int) (w : World) (hO : Own w B g cap S) (hB : B ≤ w.heap.size) (hne : lb ≠ g)
    (hC : ∀ i, i < ns.length → w.cell? ⟨lb, lo + i, none⟩ = some (.int .i64 (ns.getD i 0))) (hr : ∀ i, i < ns.length → 0 ≤ ns.getD i 0 ∧ ns.getD i 0 ≤ 1099511627776) (hs : S.size + 6 * ns.length ≤ 900000) :
    Calls Tryz.prog 204 #[.slice (some ⟨g, 0, none⟩) S.size cap, .slice (some ⟨lb, lo, none⟩) ns.length lc] w fun e w' =>
      ∃ S' g' cap', e = .returned (.slice (some ⟨g', 0, none⟩) S'.size cap') ∧ S' = numsS S ns ∧ Own w' B g' cap' S' ∧ (g' = g ∨ w.heap.size ≤ g') ∧ Only g w w' := by
  have HC : Hid (∀ i, i < ns.length → w.cell? ⟨lb, lo + i, none⟩ = some (.int .i64 (ns.getD i 0))) := hC
  have HR : Hid (∀ i, i < ns.length → 0 ≤ ns.getD i 0 ∧ ns.getD i 0 ≤ 1099511627776) := hr
  clear hC hr
  go_enter Tryz.func204, Tryz.ntmps204
  go_wp2_with fail
  go_loopw [0, 9] (fun bv i wr => ∃ (k : Nat) (z : Int) (S' : ByteArray) (g' cap' : Nat), k ≤ ns.length ∧ z = k ∧ i = .int .i64 z ∧ bv = .slice (some ⟨g', 0, none⟩) S'.size cap' ∧ S' = numsS S (ns.take k) ∧ Own wr B g' cap' S' ∧ (g' = g ∨ w.heap.size ≤ g') ∧ Only g w wr) (fun _ i _ => ns.length - (intOf i).toNat)
  case atStart => exact ⟨0, 0, S, g, cap, by omega, rfl, rfl, rfl, rfl, hO, .inl rfl, Only.refl _ _⟩
  case round =>
    obtain ⟨k, z, S1, g1, c1, hk, hz, rfl, rfl, hS1, O1, e1, y1⟩ := hrel
    have HS1 : Hid (S1 = numsS S (ns.take k)) := hS1
    clear hS1
    have hsz1 : S1.size ≤ S.size + 6 * k := by rw [HS1.out]; exact numsS_size S ns k hk
    by_cases hlt : k < ns.length
    · have x0 := y1.cell (HC.out k hlt) hne
      obtain ⟨r0, r1⟩ := HR.out k hlt
      have h1 : z < (ns.length : Int) := by omega
      have h2 : z.toNat = k := by omega
      have h3 : 0 ≤ z := by omega
      have HZ : Hid (z = k) := hz
      clear hz
      have HN := numsS_snoc (S := S) hlt
      obtain ⟨n, hn⟩ : ∃ n, ns.getD k 0 = n := ⟨_, rfl⟩
      rw [hn] at x0 r0 r1 HN
      rw [← HS1.out] at HN
      obtain ⟨T, hT⟩ : ∃ T, T = S1 ++ numS 5 n := ⟨_, rfl⟩
      rw [← hT] at HN
      have HN2 : Hid (numsS S (ns.take (k + 1)) = T) := HN
      have HT : Hid (T = S1 ++ numS 5 n) := hT
      clear HN hT hn
      have hszT : T.size ≤ S.size + 6 * k + 6 := by rw [HT.out, ByteArray.size_append]; have := numS_size 5 n; omega
      go_wp2_with fail
      go_loopw [0, 6] (fun bv nv wi => ∃ (m : Int) (f : Nat) (S2 : ByteArray) (g2 c2 : Nat), nv = .int .i64 m ∧ bv = .slice (some ⟨g2, 0, none⟩) S2.size c2 ∧ 0 ≤ m ∧ m ≤ 1099511627776 ∧ m < 128 ^ (f + 1) ∧ S2 ++ numS f m = T ∧ Own wi B g2 c2 S2 ∧ (g2 = g ∨ w.heap.size ≤ g2) ∧ Only g w wi) (fun _ nv _ => (intOf nv).toNat)
      case atStart => exact ⟨n, 5, S1, g1, c1, rfl, rfl, r0, r1, by have e : (128 : Int) ^ (5 + 1) = 4398046511104 := by decide
                                                                    rw [e]; omega, HT.out.symm, O1, e1, y1⟩
      case round =>
        obtain ⟨m, f, S2, g2, c2, rfl, rfl, m0, m1, mf, hT2, O2, e2, y2⟩ := hrel
        have HT2 : Hid (S2 ++ numS f m = T) := hT2
        clear hT2
        have hszS : S2.size ≤ T.size := by rw [← HT2.out, ByteArray.size_append]; omega
        have q := nquo m0 m1
        have r := nrem m0
        by_cases hm : 127 < m
        · obtain ⟨f, rfl⟩ : ∃ f', f = f' + 1 := by
            cases f with
            | zero => simp at mf; omega
            | succ f => exact ⟨f, rfl⟩
          have MF : Hid (m < 128 ^ (f + 1 + 1)) := mf
          clear mf
          have hc : (wr.alloc (.cells #[.int .u8 (m % 128 + 128)] 5)).cell? ⟨wr.heap.size, 0, none⟩ = some (.int .u8 (m % 128 + 128)) := by go_simp
          go_wp2_with (at_builtin; refine wpList_append_bytes rfl (.tmp 15) (.tmp 20) 30 30 5 rfl Tryz.underlying30 u8info rfl (O2.alloc _) (byteS (m % 128 + 128)) _ rfl (srcByte Tryz.underlying30 (by omega) (by omega) 1 hc) (by rw [byteS_size]; omega) (by have := y2.size; simp; omega) ?_; intro S3 g3 c3 w3 hS3 O3 e3 y3)
          go_roundw
          case rel =>
            have h128 : (128 : Int) ^ (f + 1 + 1) = 128 ^ (f + 1) * 128 := Int.pow_succ 128 (f + 1)
            have hmf := MF.out
            rw [h128] at hmf
            have y4 : Only g2 wr w3 := (Only.ofBelow (boxed (Below.refl _ _) _)).trans y3 (.inl rfl)
            refine ⟨m / 128, f, S3, g3, c3, rfl, rfl, by omega, by omega, by omega, ?_, O3, ?_, y2.trans y4 e2⟩
            · rw [hS3.out, ← HT2.out, numS_ge (by omega), ByteArray.append_assoc]
            · rcases e3 with rfl | rfl
              · exact e2
              · exact .inr (by have := y2.size; simp; omega)
          case measure => simp [intOf]; omega
        · have hc : (wr.alloc (.cells #[.int .u8 m] 5)).cell? ⟨wr.heap.size, 0, none⟩ = some (.int .u8 m) := by go_simp
          have MF : Hid (m < 128 ^ (f + 1)) := mf
          clear mf
          go_wp2_with (at_builtin; refine wpList_append_bytes rfl (.tmp 24) (.tmp 27) 30 30 5 rfl Tryz.underlying30 u8info rfl (O2.alloc _) (byteS m) _ rfl (srcByte Tryz.underlying30 (by omega) (by omega) 1 hc) (by rw [byteS_size]; omega) (by have := y2.size; simp; omega) ?_; intro S3 g3 c3 w3 hS3 O3 e3 y3)
          go_roundw
          case rel =>
            have y4 : Only g2 wr w3 := (Only.ofBelow (boxed (Below.refl _ _) _)).trans y3 (.inl rfl)
            refine ⟨k + 1, z + 1, S3, g3, c3, by omega, by have := HZ.out; omega, by go_num, rfl, ?_, O3, ?_, y2.trans y4 e2⟩
            · rw [hS3.out, HN2.out, ← HT2.out, numS_lt (by omega)]
            · rcases e3 with rfl | rfl
              · exact e2
              · exact .inr (by have := y2.size; simp; omega)
          case measure => simp [intOf]; omega
    · have e : k = ns.length := by omega
      go_wp2_with fail
      go_ret
      exact ⟨S1, g1, c1, rfl, by rw [HS1.out, e, List.take_length], O1, e1, y1⟩
end
section
theorem numsS_len (S : ByteArray) (ns : List Int) : (numsS S ns).size ≤ S.size + 6 * ns.length := by
  have := numsS_size S ns ns.length (Nat.le_refl _)
  rwa [List.take_length] at this
theorem flag_num (g : Bool) : numS 5 (if g then 1 else 0) = flagS g := by cases g <;> rfl
theorem step_eq (S : ByteArray) (key : Int) (data : ByteArray) (gone : Bool) : numsS S [key, if gone then 1 else 0, (data.size : Int)] ++ data = stepS S ⟨key, data, gone⟩ := by
  show S ++ numS 5 key ++ numS 5 (if gone then 1 else 0) ++ numS 5 (data.size : Int) ++ data = S ++ numS 5 key ++ flagS gone ++ (numS 5 (data.size : Int) ++ data)
  rw [flag_num, ByteArray.append_assoc (b := numS 5 (data.size : Int))]

set_option maxHeartbeats 4000000 in
theorem encTx_ok (site seq wall count d0 d1 d2 d3 : Int) (a : Option Addr) (cap : Nat) (l : List Wr) (w : World) (hW : WrIn w a cap l) (h : okTx site seq wall count d0 d1 d2 d3 l = true) :
    Calls Tryz.prog 246 #[.agg #[.int .i64 site, .int .i64 seq, .int .i64 wall, .int .i64 count, .int .i64 d0, .int .i64 d1, .int .i64 d2, .int .i64 d3, .slice a l.length cap]] w fun e w' =>
      ∃ S g cp, e = .returned (.tuple #[.slice (some ⟨g, 0, none⟩) S.size cp, .nilIface]) ∧ S = txS site seq wall count d0 d1 d2 d3 l ∧ Own w' w.heap.size g cp S ∧ Below w.heap.size w w' := by
  have kc := fun (w : World) (C : Array Value) (n c : Nat) => Lib.run_convert_bytes_const (P := Tryz.prog) w 30 5 C n c Tryz.underlying30 Tryz.underlying5
  have H : Hid (okTx site seq wall count d0 d1 d2 d3 l = true) := h
  have ht := h
  simp only [okTx, Bool.and_eq_true, inB_iff, timesB, timeB_iff] at ht
  obtain ⟨⟨⟨⟨⟨ts, tq⟩, tw, tc⟩, ⟨⟨t0, t1⟩, t2⟩, t3⟩, _⟩, hok⟩ := ht
  have TS : Hid ((0 ≤ site ∧ site ≤ 3) ∧ (1 ≤ seq ∧ seq ≤ 1099511627776) ∧ (0 ≤ wall ∧ wall ≤ 1099511627776) ∧ (0 ≤ count ∧ count ≤ 1099511627776)) := ⟨ts, tq, tw, tc⟩
  have TD : Hid ((0 ≤ d0 ∧ d0 ≤ 1099511627776) ∧ (0 ≤ d1 ∧ d1 ≤ 1099511627776) ∧ (0 ≤ d2 ∧ d2 ≤ 1099511627776) ∧ (0 ≤ d3 ∧ d3 ≤ 1099511627776)) := ⟨t0, t1, t2, t3⟩
  have HLEN : Hid (1 ≤ l.length ∧ l.length ≤ 5) := okWs_len hok
  have hall : Hid (∀ j, j < l.length → okAt l j = true) := okWs_each hok
  clear hok ts tq tw tc t0 t1 t2 t3 h
  have c0 : (w.alloc (.cells #[.int .i64 site, .int .i64 seq, .int .i64 wall, .int .i64 count, .int .i64 d0, .int .i64 d1, .int .i64 d2, .int .i64 d3, .slice a l.length cap] 102)).cell? ⟨w.heap.size, 0, none⟩ = some (.int .i64 site) := by go_simp
  have c1 : (w.alloc (.cells #[.int .i64 site, .int .i64 seq, .int .i64 wall, .int .i64 count, .int .i64 d0, .int .i64 d1, .int .i64 d2, .int .i64 d3, .slice a l.length cap] 102)).cell? ⟨w.heap.size, 1, none⟩ = some (.int .i64 seq) := by go_simp
  have c2 : (w.alloc (.cells #[.int .i64 site, .int .i64 seq, .int .i64 wall, .int .i64 count, .int .i64 d0, .int .i64 d1, .int .i64 d2, .int .i64 d3, .slice a l.length cap] 102)).cell? ⟨w.heap.size, 2, none⟩ = some (.int .i64 wall) := by go_simp
  have c3 : (w.alloc (.cells #[.int .i64 site, .int .i64 seq, .int .i64 wall, .int .i64 count, .int .i64 d0, .int .i64 d1, .int .i64 d2, .int .i64 d3, .slice a l.length cap] 102)).cell? ⟨w.heap.size, 3, none⟩ = some (.int .i64 count) := by go_simp
  have c4 : (w.alloc (.cells #[.int .i64 site, .int .i64 seq, .int .i64 wall, .int .i64 count, .int .i64 d0, .int .i64 d1, .int .i64 d2, .int .i64 d3, .slice a l.length cap] 102)).cell? ⟨w.heap.size, 4, none⟩ = some (.int .i64 d0) := by go_simp
  have c5 : (w.alloc (.cells #[.int .i64 site, .int .i64 seq, .int .i64 wall, .int .i64 count, .int .i64 d0, .int .i64 d1, .int .i64 d2, .int .i64 d3, .slice a l.length cap] 102)).cell? ⟨w.heap.size, 5, none⟩ = some (.int .i64 d1) := by go_simp
  have c6 : (w.alloc (.cells #[.int .i64 site, .int .i64 seq, .int .i64 wall, .int .i64 count, .int .i64 d0, .int .i64 d1, .int .i64 d2, .int .i64 d3, .slice a l.length cap] 102)).cell? ⟨w.heap.size, 6, none⟩ = some (.int .i64 d2) := by go_simp
  have c7 : (w.alloc (.cells #[.int .i64 site, .int .i64 seq, .int .i64 wall, .int .i64 count, .int .i64 d0, .int .i64 d1, .int .i64 d2, .int .i64 d3, .slice a l.length cap] 102)).cell? ⟨w.heap.size, 7, none⟩ = some (.int .i64 d3) := by go_simp
  have c8 : (w.alloc (.cells #[.int .i64 site, .int .i64 seq, .int .i64 wall, .int .i64 count, .int .i64 d0, .int .i64 d1, .int .i64 d2, .int .i64 d3, .slice a l.length cap] 102)).cell? ⟨w.heap.size, 8, none⟩ = some (.slice a l.length cap) := by go_simp
  go_enter Tryz.func246, Tryz.ntmps246
  go_wp2_with fail
  refine (rightTx_is (hW.later (boxed (Below.refl _ _) _)) H.out).mono ?_
  rintro e w1 ⟨rfl, hb1⟩
  replace c0 := cell_later hb1 c0
  replace c1 := cell_later hb1 c1
  replace c2 := cell_later hb1 c2
  replace c3 := cell_later hb1 c3
  replace c4 := cell_later hb1 c4
  replace c5 := cell_later hb1 c5
  replace c6 := cell_later hb1 c6
  replace c7 := cell_later hb1 c7
  replace c8 := cell_later hb1 c8
  have hbw := behind (boxed (Below.refl _ _) _) hb1
  replace hW := hW.later hbw
  clear hb1
  have hlt : w.heap.size < w1.heap.size := World.block_lt_of_cell? _ _ c0
  have HL : Hid (w.heap.size < w1.heap.size) := hlt
  go_wp2_with fail
  refine (numbers_any w1.heap.size w1.heap.size 1 (byteS 116) (w1.heap.size + 1) 0 4 [site, seq, wall, count] _ ((Own.one w1 w1.heap.size _ (by omega) (by omega) (Nat.le_refl _)).alloc _) (by simp; omega) (by omega) ?_ ?_ (by rw [byteS_size]; simp)).mono ?_
  · intro i hi
    have hi' : i = 0 ∨ i = 1 ∨ i = 2 ∨ i = 3 := by simp at hi; omega
    rcases hi' with rfl | rfl | rfl | rfl <;> go_simp
  · intro i hi
    have hi' : i = 0 ∨ i = 1 ∨ i = 2 ∨ i = 3 := by simp at hi; omega
    obtain ⟨q0, q1, q2, q3⟩ := TS.out
    rcases hi' with rfl | rfl | rfl | rfl
    · exact ⟨q0.1, Int.le_trans q0.2 (by decide)⟩
    · exact ⟨Int.le_trans (by decide) q1.1, q1.2⟩
    · exact q2
    · exact q3
  rintro e w2 ⟨S1, g1, cap1, rfl, hS1, O1, e1, y1⟩
  have HS1 : Hid (S1 = numsS (byteS 116) [site, seq, wall, count]) := hS1
  have hb2 : Below w1.heap.size w1 w2 := (boxed (boxed (Below.refl _ _) _) _).trans (y1.below (Nat.le_refl _) (by simp; omega))
  have HG : Hid (w1.heap.size ≤ g1) := O1.base
  have hz1 : S1.size ≤ 25 := by rw [HS1.out]; exact numsS_len (byteS 116) [site, seq, wall, count]
  clear hS1 y1 e1
  replace c4 := cell_later hb2 c4
  replace c5 := cell_later hb2 c5
  replace c6 := cell_later hb2 c6
  replace c7 := cell_later hb2 c7
  replace c8 := cell_later hb2 c8
  clear c0 c1 c2 c3
  go_wp2_with fail
  refine (numbers_any w1.heap.size g1 cap1 S1 w.heap.size 4 4 [d0, d1, d2, d3] w2 O1 hb2.size (by have := HG.out; have := HL.out; omega) ?_ ?_ ?_).mono ?_
  · intro i hi
    have hi' : i = 0 ∨ i = 1 ∨ i = 2 ∨ i = 3 := by simp at hi; omega
    rcases hi' with rfl | rfl | rfl | rfl
    · exact c4
    · exact c5
    · exact c6
    · exact c7
  · intro i hi
    have hi' : i = 0 ∨ i = 1 ∨ i = 2 ∨ i = 3 := by simp at hi; omega
    obtain ⟨q0, q1, q2, q3⟩ := TD.out
    rcases hi' with rfl | rfl | rfl | rfl
    · exact q0
    · exact q1
    · exact q2
    · exact q3
  · exact Nat.le_trans (Nat.add_le_add_right hz1 _) (by simp)
  rintro e w3 ⟨S2, g2, cap2, rfl, hS2, O2, e2, y2⟩
  have HS2 : Hid (S2 = numsS S1 [d0, d1, d2, d3]) := hS2
  have hb3 : Below w1.heap.size w1 w3 := hb2.trans (y2.below HG.out hb2.size)
  have hz2 : S2.size ≤ 49 := by rw [HS2.out]; exact Nat.le_trans (numsS_len S1 [d0, d1, d2, d3]) (Nat.add_le_add_right hz1 24)
  have HG2 : Hid (w1.heap.size ≤ g2) := O2.base
  replace c8 : w3.cell? ⟨w.heap.size, 8, none⟩ = some (.slice a l.length cap) := (y2.below (B := w1.heap.size) HG.out hb2.size).cell (p := ⟨w.heap.size, 8, none⟩) HL.out ▸ c8
  clear hS2 y2 e2 hb2 c4 c5 c6 c7
  go_wp2_with fail
  refine (numbers_any w1.heap.size g2 cap2 S2 w3.heap.size 0 1 [(l.length : Int)] _ (O2.alloc _) (by have := hb3.size; simp; omega) (by have := O2.lt; omega) ?_ ?_ ?_).mono ?_
  · intro i hi
    obtain rfl : i = 0 := by simpa using hi
    go_simp
  · intro i hi
    obtain rfl : i = 0 := by simpa using hi
    have := HLEN.out
    show 0 ≤ (l.length : Int) ∧ (l.length : Int) ≤ 1099511627776
    omega
  · exact Nat.le_trans (Nat.add_le_add_right hz2 _) (by simp)
  rintro e w4 ⟨S3, g3, cap3, rfl, hS3, O3, e3, y3⟩
  have HS3 : Hid (S3 = headS site seq wall count d0 d1 d2 d3 l.length) := by show S3 = _; rw [hS3, HS2.out, HS1.out]; rfl
  have hb34 : Below w1.heap.size w3 w4 := ((Below.refl _ _).alloc hb3.size _).trans (y3.below HG2.out (by have := hb3.size; simp; omega))
  have hb4 : Below w1.heap.size w1 w4 := hb3.trans hb34
  replace c8 : w4.cell? ⟨w.heap.size, 8, none⟩ = some (.slice a l.length cap) := hb34.cell (p := ⟨w.heap.size, 8, none⟩) HL.out ▸ c8
  obtain ⟨b, off, rfl, C⟩ : ∃ b off, a = some ⟨b, off, none⟩ ∧ WrCells w1 b off l := by
    rcases hW.held with h0 | h0
    · have := HLEN.out; rw [h0] at this; simp at this
    · exact h0
  have hcap := hW.cap
  have hlc := hW.len
  clear hW hS3 y3 e3 hb34 O2 hz2 HG2 HG O1 hz1 hb3
  go_wp2_with fail
  clear c8
  go_loopw [4, 39] (fun bv i wr => ∃ (k : Nat) (z : Int) (S' : ByteArray) (g' cap' : Nat), k ≤ l.length ∧ z = k ∧ i = .int .i64 z ∧ bv = .slice (some ⟨g', 0, none⟩) S'.size cap' ∧ S' = wrS (headS site seq wall count d0 d1 d2 d3 l.length) (l.take k) ∧ Own wr w1.heap.size g' cap' S' ∧ Below w1.heap.size w1 wr) (fun _ i _ => l.length - (intOf i).toNat)
  case atStart => exact ⟨0, 0, S3, g3, cap3, by omega, rfl, rfl, rfl, HS3.out, O3, hb4⟩
  case round =>
    clear O3 hb4
    obtain ⟨k, z, S5, g5, cap5, hk, hz, rfl, rfl, hS5, O5, hb5⟩ := hrel
    have HS5 : Hid (S5 = wrS (headS site seq wall count d0 d1 d2 d3 l.length) (l.take k)) := hS5
    clear hS5
    have hsz : S5.size ≤ 55 + 25 * k := by
      rw [HS5.out]
      exact Nat.le_trans (wrS_size hall.out k hk) (Nat.add_le_add_right (headS_size _ _ _ _ _ _ _ _ _) _)
    have hlen := HLEN.out
    by_cases hlt2 : k < l.length
    · obtain ⟨x0, x1, x2⟩ := (C.later hb5) k hlt2
      have h1 : z < (l.length : Int) := by omega
      have h2 : z.toNat = k := by omega
      have h3 : 0 ≤ z := by omega
      have HZ : Hid (z = k) := hz
      clear hz
      have hkey := okAt_key (hall.out k hlt2)
      have hsize := okAt_size (hall.out k hlt2)
      obtain ⟨⟨key, data, gone⟩, hx⟩ : ∃ x, wrAt l k = x := ⟨_, rfl⟩
      rw [hx] at x0 x1 x2 hkey hsize
      have HX : Hid (wrAt l k = ⟨key, data, gone⟩) := hx
      clear hx
      simp only at x0 x1 x2 hkey hsize
      obtain ⟨q0, q1⟩ := hkey
      have E : Hid (∀ S6, S6 = numsS S5 [key, if gone then 1 else 0, (data.size : Int)] → S6 ++ data = wrS (headS site seq wall count d0 d1 d2 d3 l.length) (l.take (k + 1))) := fun S6 h6 => by
        rw [h6, step_eq, wrS_snoc hlt2, HX.out, HS5.out]
      obtain ⟨gi, hgi⟩ : ∃ gi : Int, gi = if gone then 1 else 0 := ⟨_, rfl⟩
      rw [← hgi] at E
      have Hgi : Hid (0 ≤ gi ∧ gi ≤ 1) := by
        show 0 ≤ gi ∧ gi ≤ 1
        rw [hgi]
        cases gone <;> decide
      have y1 : (wr.alloc (.cells #[.int .i64 key, .string data, .bool gone] 100)).cell? ⟨wr.heap.size, 1, none⟩ = some (.string data) := by go_simp
      have y1' : ((wr.alloc (.cells #[.int .i64 key, .string data, .bool gone] 100)).alloc (.cells #[.int .i64 key, .int .i64 gi, .int .i64 (data.size : Int)] 3)).cell? ⟨wr.heap.size, 1, none⟩ = some (.string data) := by go_simp
      cases gone
      · obtain rfl : gi = 0 := hgi
        go_wp2_with fail
        refine (numbers_any w1.heap.size g5 cap5 S5 (wr.heap.size + 1) 0 3 [key, 0, (data.size : Int)] _ ((O5.alloc _).alloc _) (by have := hb5.size; simp; omega) (by have := O5.lt; omega) ?_ ?_ ?_).mono ?_
        · intro i hi
          have hi' : i = 0 ∨ i = 1 ∨ i = 2 := by simp at hi; omega
          rcases hi' with rfl | rfl | rfl <;> go_simp
        · intro i hi
          have hi' : i = 0 ∨ i = 1 ∨ i = 2 := by simp at hi; omega
          rcases hi' with rfl | rfl | rfl
          · show 0 ≤ key ∧ key ≤ 1099511627776
            omega
          · show (0 : Int) ≤ 0 ∧ (0 : Int) ≤ 1099511627776
            decide
          · show 0 ≤ (data.size : Int) ∧ (data.size : Int) ≤ 1099511627776
            omega
        · simp
          omega
        rintro e w6 ⟨S6, g6, cap6, rfl, hS6, O6, e6, y6⟩
        have HS6 : Hid (S6 = numsS S5 [key, 0, (data.size : Int)]) := hS6
        have hz6 : S6.size ≤ S5.size + 18 := by rw [HS6.out]; exact numsS_len S5 [key, 0, (data.size : Int)]
        have hb6 : Below w1.heap.size w1 w6 := (hb5.trans (((Below.refl _ _).alloc hb5.size _).alloc (by have := hb5.size; simp; omega) _)).trans (y6.below O5.base (by have := hb5.size; simp; omega))
        have y2 := y6.cell y1' (by have := O5.lt; show wr.heap.size ≠ g5; omega)
        clear hS6 y6 e6 y1 y1'
        go_wp2_with (at_builtin; refine wpList_append_bytes rfl (.tmp 54) (.tmp 56) 30 9 5 rfl Tryz.underlying30 u8info rfl O6 data _ rfl (Src.ofString _ Tryz.underlying9 data) (by omega) hb6.size ?_; intro S7 g7 cap7 w7 hS7 O7 e7 y7)
        go_roundw
        case rel => exact ⟨k + 1, z + 1, S7, g7, cap7, by omega, by have := HZ.out; omega, by go_num, rfl, by rw [hS7.out]; exact E.out S6 HS6.out, O7, hb6.trans (y7.below O6.base hb6.size)⟩
        case measure => simp [intOf]; omega
      · obtain rfl : gi = 1 := hgi
        go_wp2_with fail
        refine (numbers_any w1.heap.size g5 cap5 S5 (wr.heap.size + 1) 0 3 [key, 1, (data.size : Int)] _ ((O5.alloc _).alloc _) (by have := hb5.size; simp; omega) (by have := O5.lt; omega) ?_ ?_ ?_).mono ?_
        · intro i hi
          have hi' : i = 0 ∨ i = 1 ∨ i = 2 := by simp at hi; omega
          rcases hi' with rfl | rfl | rfl <;> go_simp
        · intro i hi
          have hi' : i = 0 ∨ i = 1 ∨ i = 2 := by simp at hi; omega
          rcases hi' with rfl | rfl | rfl
          · show 0 ≤ key ∧ key ≤ 1099511627776
            omega
          · show (0 : Int) ≤ 1 ∧ (1 : Int) ≤ 1099511627776
            decide
          · show 0 ≤ (data.size : Int) ∧ (data.size : Int) ≤ 1099511627776
            omega
        · simp
          omega
        rintro e w6 ⟨S6, g6, cap6, rfl, hS6, O6, e6, y6⟩
        have HS6 : Hid (S6 = numsS S5 [key, 1, (data.size : Int)]) := hS6
        have hz6 : S6.size ≤ S5.size + 18 := by rw [HS6.out]; exact numsS_len S5 [key, 1, (data.size : Int)]
        have hb6 : Below w1.heap.size w1 w6 := (hb5.trans (((Below.refl _ _).alloc hb5.size _).alloc (by have := hb5.size; simp; omega) _)).trans (y6.below O5.base (by have := hb5.size; simp; omega))
        have y2 := y6.cell y1' (by have := O5.lt; show wr.heap.size ≠ g5; omega)
        clear hS6 y6 e6 y1 y1'
        go_wp2_with (at_builtin; refine wpList_append_bytes rfl (.tmp 54) (.tmp 56) 30 9 5 rfl Tryz.underlying30 u8info rfl O6 data _ rfl (Src.ofString _ Tryz.underlying9 data) (by omega) hb6.size ?_; intro S7 g7 cap7 w7 hS7 O7 e7 y7)
        go_roundw
        case rel => exact ⟨k + 1, z + 1, S7, g7, cap7, by omega, by have := HZ.out; omega, by go_num, rfl, by rw [hS7.out]; exact E.out S6 HS6.out, O7, hb6.trans (y7.below O6.base hb6.size)⟩
        case measure => simp [intOf]; omega
    · have e : k = l.length := by omega
      go_wp2_with fail
      go_ret2
      exact ⟨S5, g5, cap5, rfl, by rw [HS5.out, e, List.take_length]; rfl, O5.mono (by have := HL.out; omega), hbw.trans (hb5.mono (by have := HL.out; omega))⟩
end
section
set_option maxHeartbeats 2000000 in
theorem encAsk_ok (site a0 a1 a2 a3 : Int) (w : World) (h : inB site 0 3 = true) (h2 : timesB a0 a1 a2 a3 = true) :
    Calls Tryz.prog 142 #[.int .i64 site, .agg #[.int .i64 a0, .int .i64 a1, .int .i64 a2, .int .i64 a3]] w fun e w' =>
      ∃ S g cap, e = .returned (.tuple #[.slice (some ⟨g, 0, none⟩) S.size cap, .nilIface]) ∧ S = askS site a0 a1 a2 a3 ∧ Own w' w.heap.size g cap S ∧ Below w.heap.size w w' := by
  have H : Hid (inB site 0 3 = true) := h
  have H2 : Hid (timesB a0 a1 a2 a3 = true) := h2
  have hs := inB_iff.1 h
  have ht := h2
  simp only [timesB, Bool.and_eq_true, timeB_iff] at ht
  have HT : Hid ((((0 ≤ a0 ∧ a0 ≤ 1099511627776) ∧ 0 ≤ a1 ∧ a1 ≤ 1099511627776) ∧ 0 ≤ a2 ∧ a2 ≤ 1099511627776) ∧ 0 ≤ a3 ∧ a3 ≤ 1099511627776) := ht
  have HS : Hid (0 ≤ site ∧ site ≤ 3) := hs
  clear h h2 ht hs
  have kc := fun (w : World) (C : Array Value) (n c : Nat) => Lib.run_convert_bytes_const (P := Tryz.prog) w 30 5 C n c Tryz.underlying30 Tryz.underlying5
  obtain ⟨c0, c1, c2, c3, _, _, _, _⟩ := Row4.new w 77 a0 a1 a2 a3
  go_enter Tryz.func142, Tryz.ntmps142
  go_wp2_with fail
  refine (isSite_is H.out _).mono ?_
  rintro e w1 ⟨rfl, hb1⟩
  replace c0 := cell_later hb1 c0
  replace c1 := cell_later hb1 c1
  replace c2 := cell_later hb1 c2
  replace c3 := cell_later hb1 c3
  go_wp2_with fail
  refine (rightv_is H2.out _).mono ?_
  rintro e w2 ⟨rfl, hb2⟩
  replace c0 := cell_later hb2 c0
  replace c1 := cell_later hb2 c1
  replace c2 := cell_later hb2 c2
  replace c3 := cell_later hb2 c3
  have hlt : w.heap.size < w2.heap.size := World.block_lt_of_cell? _ _ c0
  have hbw : Below w.heap.size w w2 := behind (behind (boxed (Below.refl _ _) _) hb1) hb2
  clear hb1 hb2
  have HL : Hid (w.heap.size < w2.heap.size) := hlt
  clear hlt
  go_wp2_with fail
  have i0 : ((w2.alloc (.cells #[.int .u8 97] 5 (1, 2))).alloc (.cells #[.int .i64 site] 3)).cell? ⟨w2.heap.size + 1, 0, none⟩ = some (.int .i64 site) := by go_simp
  refine (numbers_any w2.heap.size w2.heap.size 1 (byteS 97) (w2.heap.size + 1) 0 1 [site] _ ((Own.one w2 w2.heap.size _ (by omega) (by omega) (Nat.le_refl _)).alloc _) (by simp; omega) (by omega) ?_ ?_ (by rw [byteS_size]; simp)).mono ?_
  · intro i hi
    obtain rfl : i = 0 := by simpa using hi
    exact i0
  · intro i hi
    obtain rfl : i = 0 := by simpa using hi
    show 0 ≤ site ∧ site ≤ 1099511627776
    have := HS.out
    omega
  rintro e w3 ⟨S1, g1, cap1, rfl, hS1, O1, e1, y1⟩
  have HS1 : Hid (S1 = numsS (byteS 97) [site]) := hS1
  have hb3 : Below w2.heap.size w2 w3 := (boxed (boxed (Below.refl _ _) _) _).trans (y1.below (Nat.le_refl _) (by simp; omega))
  have HG : Hid (w2.heap.size ≤ g1) := O1.base
  clear hS1 i0 y1 e1
  replace c0 := cell_later hb3 c0
  replace c1 := cell_later hb3 c1
  replace c2 := cell_later hb3 c2
  replace c3 := cell_later hb3 c3
  replace hbw := behind hbw hb3
  go_wp2_with fail
  refine (numbers_any w2.heap.size g1 cap1 S1 w.heap.size 0 4 [a0, a1, a2, a3] w3 O1 hb3.size (by have := HG.out; have := HL.out; omega) ?_ ?_ ?_).mono ?_
  · intro i hi
    have hi' : i = 0 ∨ i = 1 ∨ i = 2 ∨ i = 3 := by simp at hi; omega
    rcases hi' with rfl | rfl | rfl | rfl
    · exact c0
    · exact c1
    · exact c2
    · exact c3
  · intro i hi
    have hi' : i = 0 ∨ i = 1 ∨ i = 2 ∨ i = 3 := by simp at hi; omega
    have := HT.out
    rcases hi' with rfl | rfl | rfl | rfl
    · exact this.1.1.1
    · exact this.1.1.2
    · exact this.1.2
    · exact this.2
  · have : S1.size ≤ 7 := by
      rw [HS1.out]
      have := numsS_size (byteS 97) [site] 1 (Nat.le_refl _)
      simpa [byteS_size] using this
    simp
    omega
  rintro e w4 ⟨S2, g2, cap2, rfl, hS2, O2, e2, y2⟩
  have HS2 : Hid (S2 = numsS S1 [a0, a1, a2, a3]) := hS2
  clear hS2
  go_wp2_with fail
  go_ret2
  refine ⟨S2, g2, cap2, rfl, ?_, O2.mono (by have := HL.out; omega), hbw.trans (y2.below (by have := HG.out; have := HL.out; omega) hbw.size)⟩
  rw [HS2.out, HS1.out]
  rfl
end
theorem byteCells_at (S : ByteArray) (j : Nat) (u : UInt8) (h : (toL S)[j]? = some u) : (byteCells S)[j]? = some (.int .u8 u.toNat) := by
  unfold byteCells
  rw [List.getElem?_map]
  show ((toL S)[j]?).map _ = _
  rw [h]
  rfl
theorem Own.bytes {w : World} {B g cap : Nat} {S : ByteArray} (h : Own w B g cap S) (r : Nat) : BytesAt w w.heap.size (some ⟨g, 0, none⟩) ((toL S).take r) := by
  refine .inr ⟨g, 0, rfl, h.lt, fun j u hu => ?_⟩
  rw [Nat.zero_add]
  refine h.have_ j _ (byteCells_at S j u ?_)
  rw [List.getElem?_take] at hu
  split at hu
  · exact hu
  · cases hu
theorem Own.all {w : World} {B g cap : Nat} {S : ByteArray} (h : Own w B g cap S) : BytesAt w w.heap.size (some ⟨g, 0, none⟩) (toL S) := by
  have := h.bytes (toL S).length
  rwa [List.take_length] at this

theorem decTx_good {x : TxV} {L : List UInt8} (hx : Good L x) (a : Option Addr) (len c : Nat) (hlen : L.length = len) (w : World) (hB : BytesAt w w.heap.size a L) (hc : len ≤ c) (hl : len ≤ 1000000) :
    Calls Tryz.prog 209 #[.slice a len c] w fun e w' => ∃ a2 cap2, e = .returned (.tuple #[.agg #[.int .i64 x.site, .int .i64 x.seq, .int .i64 x.wall, .int .i64 x.count, .int .i64 x.d0, .int .i64 x.d1, .int .i64 x.d2, .int .i64 x.d3, .slice a2 x.l.length cap2], .nilIface]) ∧ WrIn w' a2 cap2 x.l ∧ Below w.heap.size w w' := by
  subst hlen
  refine (decTx_any a L c w hB hc hl).mono fun e w' ho => ?_
  rcases ho with ⟨⟨y, aN, capN, hy, hW, he⟩ | ⟨hno, _⟩, hb⟩
  · obtain rfl := good_one hx hy
    exact ⟨aN, capN, he, hW, hb⟩
  · exact absurd hx (hno x)
theorem decTx_bad {L : List UInt8} (hx : ∀ x, ¬ Good L x) (a : Option Addr) (len c : Nat) (hlen : L.length = len) (w : World) (hB : BytesAt w w.heap.size a L) (hc : len ≤ c) (hl : len ≤ 1000000) :
    Calls Tryz.prog 209 #[.slice a len c] w fun e w' => e = .returned (.tuple #[.agg #[.int .i64 0, .int .i64 0, .int .i64 0, .int .i64 0, .int .i64 0, .int .i64 0, .int .i64 0, .int .i64 0, .slice none 0 0], .iface 26 (.int .i64 3)]) ∧ Below w.heap.size w w' := by
  subst hlen
  refine (decTx_any a L c w hB hc hl).mono fun e w' ho => ?_
  rcases ho with ⟨⟨y, aN, capN, hy, hW, he⟩ | ⟨hno, he⟩, hb⟩
  · exact absurd hy (hx y)
  · exact ⟨he, hb⟩
theorem decAsk_good {x : AskV} {L : List UInt8} (hx : GoodAsk L x) (a : Option Addr) (len c : Nat) (hlen : L.length = len) (w : World) (hB : BytesAt w w.heap.size a L) (hc : len ≤ c) (hl : len ≤ 1000000) :
    Calls Tryz.prog 211 #[.slice a len c] w fun e w' => e = .returned (.tuple #[.int .i64 x.site, .agg #[.int .i64 x.a0, .int .i64 x.a1, .int .i64 x.a2, .int .i64 x.a3], .nilIface]) ∧ Below w.heap.size w w' := by
  subst hlen
  refine (decAsk_any a L c w hB hc hl).mono fun e w' ho => ?_
  rcases ho with ⟨⟨y, hy, he⟩ | ⟨hno, _⟩, hb⟩
  · obtain rfl := goodAsk_one hx hy
    exact ⟨he, hb⟩
  · exact absurd hx (hno x)
theorem encAsk_good {site a0 a1 a2 a3 : Int} (h : AskV.ok ⟨site, a0, a1, a2, a3⟩ = true) (w : World) :
    Calls Tryz.prog 142 #[.int .i64 site, .agg #[.int .i64 a0, .int .i64 a1, .int .i64 a2, .int .i64 a3]] w fun e w' => ∃ S g cp, e = .returned (.tuple #[.slice (some ⟨g, 0, none⟩) S.size cp, .nilIface]) ∧ (GoodAsk (toL S) ⟨site, a0, a1, a2, a3⟩ ∧ 0 < S.size) ∧ S.size ≤ 1000000 ∧ Own w' w.heap.size g cp S ∧ Below w.heap.size w w' := by
  have h' : inB site 0 3 = true ∧ timesB a0 a1 a2 a3 = true := by simpa [AskV.ok] using h
  refine (encAsk_ok site a0 a1 a2 a3 w h'.1 h'.2).mono fun e w' ⟨S, g, cp, he, hS, O, hb⟩ => ⟨S, g, cp, he, ⟨⟨h, by rw [hS]; rfl⟩, ?_⟩, ?_, O, hb⟩
  · rw [hS, ← toL_length, askS_toL]
    simp [askL]
  · rw [hS]
    have q0 := numS_size 5 site
    have q1 := numS_size 5 a0
    have q2 := numS_size 5 a1
    have q3 := numS_size 5 a2
    have q4 := numS_size 5 a3
    have z : (⟨#[97]⟩ : ByteArray).size = 1 := rfl
    simp only [askS, ByteArray.size_append]
    omega
theorem encTx_good {site seq wall count d0 d1 d2 d3 : Int} {a : Option Addr} {cap : Nat} {l : List Wr} {w : World} (hW : WrIn w a cap l) (h : okTx site seq wall count d0 d1 d2 d3 l = true) :
    Calls Tryz.prog 246 #[.agg #[.int .i64 site, .int .i64 seq, .int .i64 wall, .int .i64 count, .int .i64 d0, .int .i64 d1, .int .i64 d2, .int .i64 d3, .slice a l.length cap]] w fun e w' => ∃ S g cp, e = .returned (.tuple #[.slice (some ⟨g, 0, none⟩) S.size cp, .nilIface]) ∧ (Good (toL S) ⟨site, seq, wall, count, d0, d1, d2, d3, l⟩ ∧ 0 < S.size) ∧ S.size ≤ 1000000 ∧ Own w' w.heap.size g cp S ∧ Below w.heap.size w w' := by
  refine (encTx_ok site seq wall count d0 d1 d2 d3 a cap l w hW h).mono fun e w' ⟨S, g, cp, he, hS, O, hb⟩ => ⟨S, g, cp, he, ⟨⟨h, by rw [hS]; rfl⟩, ?_⟩, ?_, O, hb⟩
  · rw [hS, ← toL_length, txS_toL]
    simp [headL]
  · have hok := (ok_parts (x := ⟨site, seq, wall, count, d0, d1, d2, d3, l⟩) h).2.2.2.2.2.2.2.2
    have hlen := okWs_len hok
    simp only at hlen
    have q1 := wrS_size (s := headS site seq wall count d0 d1 d2 d3 l.length) (okWs_each hok) l.length (Nat.le_refl _)
    have q2 := headS_size site seq wall count d0 d1 d2 d3 l.length
    rw [List.take_length] at q1
    rw [hS]
    unfold txS
    omega
/-- four numbers -/
structure V4 where
  v0 : Int
  v1 : Int
  v2 : Int
  v3 : Int
/-- the least of what it knows of the first sites -/
def stabS (S : SiteS) : Nat → V4
  | 0 => ⟨S.a0, S.a1, S.a2, S.a3⟩
  | k + 1 => if (k : Int) = S.id then stabS S k else ⟨minZ (stabS S k).v0 (S.oth (k * 4)), minZ (stabS S k).v1 (S.oth (k * 4 + 1)), minZ (stabS S k).v2 (S.oth (k * 4 + 2)), minZ (stabS S k).v3 (S.oth (k * 4 + 3))⟩
theorem vec_far {w W : World} {b : Nat} (h : Below w.heap.size w W) (hB : w.heap.size ≤ b) (x0 x1 x2 x3 : Int) : Below w.heap.size w ((((W.setCell ⟨b, 0, none⟩ (.int .i64 x0)).setCell ⟨b, 1, none⟩ (.int .i64 x1)).setCell ⟨b, 2, none⟩ (.int .i64 x2)).setCell ⟨b, 3, none⟩ (.int .i64 x3)) :=
  (((h.setCell hB _).setCell hB _).setCell hB _).setCell hB _
/-- at the loop's head -/
structure StM (w : World) (S : SiteS) (k : Nat) (wr : World) : Prop where
  r : Row4 wr w.heap.size 0 0 0 0
  v : Row4 wr (w.heap.size + 1) (stabS S k).v0 (stabS S k).v1 (stabS S k).v2 (stabS S k).v3
  b : Below w.heap.size w wr
/-- cut to what may be -/
def cutN (n : Int) : Nat := min 4 n.toNat
/-- which Go function an operation calls -/
def calleeOf (o : Oper) : Option Nat := match o.op with
  | .call c => match c.callee with
    | .value (.func n) => some n
    | _ => none
  | _ => none
theorem step_callF {P : Program} {ops : Array Oper} {o : Oper} {a : Act} {w : World} {K : Act → World → Prop} {Q : Exit → Act → World → Prop} {E : Prop} (hg : o.guard = none) (f : FuncId) (_hf : calleeOf o = some f) (args : Array Value)
    (he : (execOp a.eval o).run P w = .ok (.enter f args) w) {R : Ending → World → Prop} (h : Calls P f args w R) (hK : ∀ e w', R e w' → ∃ v, e = .returned v ∧ K (a.put o.dst v) w') :
    if Region.wanted o (yielded ops a.tmps) = true then Oper.wp P o a w K Q else E := step_call hg f args he h hK
end Go.Proofs.YtoanjdndmlffdaaGreatDoor
