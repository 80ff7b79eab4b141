import Derived.Test.YtoanjdndmlffdaaGreatDoorPTake
import Derived.Test.YtoanjdndmlffdaaGreatDoorPCommit
namespace Go.Proofs.YtoanjdndmlffdaaGreatDoor
open Go.RowKit Go.Maps
theorem intKeyW {k : Int} (h : (Lit.int .i64 k).wf = true) : keyOf Tryz.prog 3 (.int .i64 k) = some (.int .i64 k) := by
  unfold keyOf
  rw [Tryz.underlying3]
  simp [mapKey, h, Tryz.underlying3]
theorem wpList_lookW {ops : Array Oper} {rest : List Oper} {o : Oper} {a : Act} {Q : Exit → Act → World → Prop} (w : World) (hg : o.guard = none) (mo xo : Operand) (hop : o.op = Op.lookup 221 mo xo true) {bm n : Nat} {D : DataW Value} {k : Int} {u : Value} {v : Bool}
    (hm : a.eval mo = .map (some bm)) (hown : w.ownsMap Tryz.prog 3 heldR bm n D) (hx : a.eval xo = .int .i64 k) (hkey : keyOf Tryz.prog 3 (.int .i64 k) = some (.int .i64 k)) (h1 : Maps.has D (.int .i64 k) = v) (h2 : D.atKey (.int .i64 k) (.held wrV0) = .held u)
    (hK : wpList Tryz.prog ops Q rest (a.put o.dst (.tuple #[u, .bool v])) w) : wpList Tryz.prog ops Q (o :: rest) a w := by
  refine wpList_lookup_own_ok w hg mo xo 221 hop 3 100 intLaw Tryz.underlying221 heldR (wr_zero w) (.held wrV0) [] rfl bm n D hm hown (.int .i64 k) (.int .i64 k) hx hkey ?_
  intro u' ps hu
  have e := heldR_inv hu
  rw [h2] at e
  injection e with e
  rw [← e, h1]
  exact hK
theorem WMap.look {w : World} {bm : Nat} {l : List Wr} (h : WMap w bm l) (k : Int) : ∃ D, w.ownsMap Tryz.prog 3 heldR bm (allW l).length D ∧ Maps.has D (.int .i64 k) = (ownW l k).isSome ∧ D.atKey (.int .i64 k) (.held wrV0) = .held (wrV (ownOr l k)) := by
  obtain ⟨_, D, h1, h2⟩ := h
  refine ⟨D, h1, ?_⟩
  cases ho : ownW l k with
  | none =>
    have e : ownOr l k = ⟨0, ⟨#[]⟩, false⟩ := by unfold ownOr; rw [ho]; rfl
    rw [e]
    exact ⟨(h2.no k ho).1, (h2.no k ho).2 _⟩
  | some x =>
    have e : ownOr l k = x := by unfold ownOr; rw [ho]; rfl
    rw [e]
    exact ⟨(h2.has k x ho).1, (h2.has k x ho).2 _⟩
theorem WMap.len {w : World} {bm : Nat} {l : List Wr} (h : WMap w bm l) (ty : TypeId) : (Builtin.len_ #[221] ty #[.map (some bm)]).run Tryz.prog w = .ok (.int .i64 (allW l).length) w := by
  obtain ⟨_, D, h1, h2⟩ := h
  have := h1.len Tryz.underlying221 ty
  rw [h2.size] at this
  exact this
theorem WMap.later {w w' : World} {bm : Nat} {l : List Wr} (h : WMap w bm l) (hb : Below w.heap.size w w') : WMap w' bm l := h.kept (hb.block bm h.lt)

/-- what a write's value is -/
def valE (x : Wr) : Int := if x.gone = true then 8 else 0
def valD (x : Wr) : ByteArray := if x.gone = true then ⟨#[]⟩ else x.data
set_option maxRecDepth 100000 in
set_option maxHeartbeats 4000000 in
theorem valueOf_any (x : Wr) (w : World) :
    Calls Tryz.prog 215 #[wrV x] w fun e w' => e = .returned (.tuple #[.string (valD x), errV (valE x)]) ∧ Below w.heap.size w w' := by
  obtain ⟨xk, xd, xg⟩ := x
  show Calls Tryz.prog 215 #[.agg #[.int .i64 xk, .string xd, .bool xg]] w _
  have hb := boxed (Below.refl _ w) (.cells #[.int .i64 xk, .string xd, .bool xg] 100)
  cases xg
  · go_enter Tryz.func215, Tryz.ntmps215
    go_wp2_with fail
    go_ret2
    exact ⟨rfl, boxed (Below.refl _ w) _⟩
  · go_enter Tryz.func215, Tryz.ntmps215
    go_wp2_with fail
    go_ret2
    exact ⟨rfl, boxed (Below.refl _ w) _⟩

set_option maxRecDepth 100000 in
set_option maxHeartbeats 4000000 in
theorem psread_any {b bx : Nat} {G Gx : Nat → Prop} {s : SesS} {S : SiteS} (key : Int) (hk : (Lit.int .i64 key).wf = true) (w : World) (h : PSe w b G s) (hS : PS w bx Gx S) (hI : InvS S) :
    Calls Tryz.prog 158 #[.pointer (some ⟨b, 0, none⟩), .pointer (some ⟨bx, 0, none⟩), .int .i64 key] w fun e w' => e = .returned (.tuple #[.string (sreadV S s key).1, errV (sreadV S s key).2]) ∧ Below w.heap.size w w' := by
  have KEY : Hid (keyOf Tryz.prog 3 (.int .i64 key) = some (.int .i64 key)) := intKeyW hk
  have HR : Hid (PS w bx Gx S ∧ InvS S) := ⟨hS, hI⟩
  obtain ⟨mv, B, hm⟩ := h
  have HB : Hid (RowL w b (psesC s mv)) := B
  have k4 := B.cell 4 _ rfl
  rcases hm with ⟨ho, rfl, _, _⟩ | ⟨ho, bm, rfl, _, hM, _⟩
  · rw [ho] at k4
    have HE : Hid (sreadV S s key = (⟨#[]⟩, 6)) := by show _ = _; unfold sreadV; rw [ho]; rfl
    clear hS hI ho B hk
    rw [HE.out]
    go_enter Tryz.func158, Tryz.ntmps158
    go_wp2_with fail
    go_ret2
    exact ⟨rfl, Below.refl _ _⟩
  · rw [ho] at k4
    have k9 := B.cell 9 _ rfl
    obtain ⟨D, own0, q1, q2⟩ := hM.look key
    cases hw : ownW s.ws key with
    | none =>
      have e0 : ownOr s.ws key = ⟨0, ⟨#[]⟩, false⟩ := by unfold ownOr; rw [hw]; rfl
      rw [hw] at q1
      rw [e0] at q2
      clear e0
      have H1 : Hid (Maps.has D (.int .i64 key) = false) := q1
      have H2 : Hid (D.atKey (.int .i64 key) (.held wrV0) = .held (.agg #[.int .i64 0, .string ⟨#[]⟩, .bool false])) := q2
      obtain ⟨⟨⟨rw_, rc, rs, rq, rd, rg⟩, re⟩, hrd⟩ : ∃ x, readS S key s.s0 s.s1 s.s2 s.s3 = x := ⟨_, rfl⟩
      have HE : Hid (sreadV S s key = (rd, re)) := by show _ = _; unfold sreadV; rw [ho, hw, hrd]; rfl
      have hb2 := boxed (Below.refl _ w) (.cells #[.int .i64 0, .string ⟨#[]⟩, .bool false] 100)
      have R2 := pread_site key s.s0 s.s1 s.s2 s.s3 _ (HR.out.1.later hb2) HR.out.2
      rw [hrd] at R2
      have B2 := HB.out.later hb2
      have y5 := B2.cell 5 _ rfl
      have y6 := B2.cell 6 _ rfl
      have y7 := B2.cell 7 _ rfl
      have y8 := B2.cell 8 _ rfl
      clear hS hI ho B hk hM q1 q2 hw hrd
      rw [HE.out]
      go_enter Tryz.func158, Tryz.ntmps158
      go_wp2_with (at_lookup; refine wpList_lookW _ rfl _ _ rfl (u := .agg #[.int .i64 0, .string ⟨#[]⟩, .bool false]) rfl own0 rfl KEY.out H1.out H2.out ?_)
      refine R2.mono ?_
      rintro e w3 ⟨rfl, hb3⟩
      rw [show verL ((⟨rw_, rc, rs, rq, rd, rg⟩, re) : Ver × Int).1 = [.int .i64 rw_, .int .i64 rc, .int .i64 rs, .int .i64 rq, .string rd, .bool rg] from rfl]
      have hb4 := boxed (behind hb2 hb3) (.cells #[.int .i64 rw_, .int .i64 rc, .int .i64 rs, .int .i64 rq, .string rd, .bool rg] 130)
      clear y5 y6 y7 y8 R2 k4 k9 own0
      go_wp2_with fail
      go_ret2
      exact ⟨rfl, hb4⟩
    | some x =>
      obtain ⟨xk, xd, xg⟩ := x
      have e0 : ownOr s.ws key = ⟨xk, xd, xg⟩ := by unfold ownOr; rw [hw]; rfl
      rw [hw] at q1
      rw [e0] at q2
      clear e0
      have H1 : Hid (Maps.has D (.int .i64 key) = true) := q1
      have H2 : Hid (D.atKey (.int .i64 key) (.held wrV0) = .held (.agg #[.int .i64 xk, .string xd, .bool xg])) := q2
      have HE : Hid (sreadV S s key = (valD ⟨xk, xd, xg⟩, valE ⟨xk, xd, xg⟩)) := by show _ = _; unfold sreadV valD valE; rw [ho, hw]; cases xg <;> rfl
      have VO := valueOf_any ⟨xk, xd, xg⟩ (w.alloc (.cells #[.int .i64 xk, .string xd, .bool xg] 100))
      have hb2 := boxed (Below.refl _ w) (.cells #[.int .i64 xk, .string xd, .bool xg] 100)
      obtain ⟨vd, hvd⟩ : ∃ vd, valD ⟨xk, xd, xg⟩ = vd := ⟨_, rfl⟩
      obtain ⟨ve, hve⟩ : ∃ ve, valE ⟨xk, xd, xg⟩ = ve := ⟨_, rfl⟩
      rw [hvd, hve] at VO HE
      rw [show wrV ⟨xk, xd, xg⟩ = .agg #[.int .i64 xk, .string xd, .bool xg] from rfl] at VO
      clear hS hI ho B hk hM q1 q2 hw hvd hve
      rw [HE.out]
      go_enter Tryz.func158, Tryz.ntmps158
      go_wp2_with (at_lookup; refine wpList_lookW _ rfl _ _ rfl (u := .agg #[.int .i64 xk, .string xd, .bool xg]) rfl own0 rfl KEY.out H1.out H2.out ?_)
      refine VO.mono ?_
      rintro e w3 ⟨rfl, hb3⟩
      clear k4 k9 own0 VO
      go_wp2_with fail
      go_ret2
      exact ⟨rfl, behind hb2 hb3⟩

set_option maxRecDepth 100000 in
set_option maxHeartbeats 4000000 in
theorem hasRoom_any {b bm : Nat} {s : SesS} (key : Int) (hk : (Lit.int .i64 key).wf = true) (w : World) (B : RowL w b (psesC s (.map (some bm)))) (hM : WMap w bm s.ws) {v : Bool} (hv : decide (ownW s.ws key = none ∧ 5 ≤ (allW s.ws).length) = !v) :
    Calls Tryz.prog 213 #[.pointer (some ⟨b, 0, none⟩), .int .i64 key] w fun e w' => e = .returned (.bool v) ∧ Below w.heap.size w w' := by
  have KEY : Hid (keyOf Tryz.prog 3 (.int .i64 key) = some (.int .i64 key)) := intKeyW hk
  have k9 := B.cell 9 _ rfl
  obtain ⟨D, own0, q1, q2⟩ := hM.look key
  cases hw : ownW s.ws key with
  | none =>
    have e0 : ownOr s.ws key = ⟨0, ⟨#[]⟩, false⟩ := by unfold ownOr; rw [hw]; rfl
    rw [hw] at q1
    rw [e0] at q2
    clear e0
    have H1 : Hid (Maps.has D (.int .i64 key) = false) := q1
    have H2 : Hid (D.atKey (.int .i64 key) (.held wrV0) = .held (.agg #[.int .i64 0, .string ⟨#[]⟩, .bool false])) := q2
    have hb2 := boxed (Below.refl _ w) (.cells #[.int .i64 0, .string ⟨#[]⟩, .bool false] 100)
    have LEN := (hM.later hb2).len
    have c9 := (B.later hb2).cell 9 _ rfl
    have e : decide (((allW s.ws).length : Int) < 5) = v := by
      cases v
      · have := of_decide_eq_true hv
        exact decide_eq_false (by omega)
      · have := of_decide_eq_false hv
        refine decide_eq_true ?_
        have h5 : ¬ 5 ≤ (allW s.ws).length := fun h => this ⟨hw, h⟩
        omega
    clear B hM q1 q2 hv hk hw
    go_enter Tryz.func213, Tryz.ntmps213
    go_wp2_with (at_lookup; refine wpList_lookW _ rfl _ _ rfl (u := .agg #[.int .i64 0, .string ⟨#[]⟩, .bool false]) rfl own0 rfl KEY.out H1.out H2.out ?_)
    go_ret
    refine ⟨?_, hb2⟩
    first | rfl | (simp [e]) | (rw [e])
  | some x =>
    obtain ⟨xk, xd, xg⟩ := x
    have e0 : ownOr s.ws key = ⟨xk, xd, xg⟩ := by unfold ownOr; rw [hw]; rfl
    rw [hw] at q1
    rw [e0] at q2
    clear e0
    have H1 : Hid (Maps.has D (.int .i64 key) = true) := q1
    have H2 : Hid (D.atKey (.int .i64 key) (.held wrV0) = .held (.agg #[.int .i64 xk, .string xd, .bool xg])) := q2
    have hb2 := boxed (Below.refl _ w) (.cells #[.int .i64 xk, .string xd, .bool xg] 100)
    have hv' : v = true := by cases v <;> simp_all
    subst hv'
    clear B hM q1 q2 hv hk hw
    go_enter Tryz.func213, Tryz.ntmps213
    go_wp2_with (at_lookup; refine wpList_lookW _ rfl _ _ rfl (u := .agg #[.int .i64 xk, .string xd, .bool xg]) rfl own0 rfl KEY.out H1.out H2.out ?_)
    go_ret
    exact ⟨rfl, hb2⟩

set_option maxRecDepth 100000 in
set_option maxHeartbeats 4000000 in
theorem rising_any {b bm : Nat} {s : SesS} (w : World) (B : RowL w b (psesC s (.map (some bm)))) (hM : WMap w bm s.ws) :
    Calls Tryz.prog 207 #[.pointer (some ⟨b, 0, none⟩)] w fun e w' => ∃ v, e = .returned v ∧ w'.ownsRow w.heap.size 100 3 v (allW s.ws).length (wrsC (allW s.ws)) ∧ Below w.heap.size w w' := by
  have HS : Hid (RowL w b (psesC s (.map (some bm))) ∧ WMap w bm s.ws) := ⟨B, hM⟩
  clear B hM
  obtain ⟨i0, hi, hz0, hz1, hz2⟩ := info_parts wrInfo
  go_enter Tryz.func207, Tryz.ntmps207
  go_wp2_with fail
  go_loopw [3, 7] (fun ov iv wr => ∃ (k : Nat) (z : Int), k ≤ 8 ∧ z = k ∧ iv = .int .i64 z ∧ wr.ownsRow w.heap.size 100 3 ov (allTo s.ws k).length (wrsC (allTo s.ws k)) ∧ Below w.heap.size w wr) (fun _ i _ => 8 - (intOf i).toNat)
  case atStart => exact ⟨0, 0, by omega, rfl, rfl, World.ownsRow_nil _ _ _ _, Below.refl _ _⟩
  case round =>
    obtain ⟨k, z, hk, hz, rfl, own, hb⟩ := hrel
    have HZ : Hid (z = k) := hz
    have hal := allTo_len s.ws k
    have k9 := (HS.out.1.later hb).cell 9 _ rfl
    by_cases hlt : k < 8
    · have h1 : z < 8 := by omega
      have h0 : 0 ≤ z := by omega
      have KEY : Hid (keyOf Tryz.prog 3 (.int .i64 z) = some (.int .i64 z)) := intKey ⟨by omega, by omega⟩
      obtain ⟨D, own0, q1, q2⟩ := (HS.out.2.later hb).look z
      have HNX : Hid (allTo s.ws (k + 1) = allTo s.ws k ++ (match ownW s.ws (k : Int) with | some x => [x] | none => [])) := allTo_next s.ws k
      rw [hz] at q1 q2
      cases ho : ownW s.ws (k : Int) with
      | none =>
        have e1 : ownOr s.ws (k : Int) = ⟨0, ⟨#[]⟩, false⟩ := by unfold ownOr; rw [ho]; rfl
        have HN : Hid (allTo s.ws (k + 1) = allTo s.ws k) := by show _ = _; rw [HNX.out, ho]; simp
        rw [ho] at q1
        rw [e1] at q2
        rw [← hz] at q1 q2
        have H1 : Hid (Maps.has D (.int .i64 z) = false) := q1
        have H2 : Hid (D.atKey (.int .i64 z) (.held wrV0) = .held (.agg #[.int .i64 0, .string ⟨#[]⟩, .bool false])) := q2
        have ownX := own.alloc (.cells #[.int .i64 0, .string ⟨#[]⟩, .bool false] 100)
        have hbX := boxed hb (.cells #[.int .i64 0, .string ⟨#[]⟩, .bool false] 100)
        clear hz ho e1 HNX q1 q2 own hb
        go_wp2_with (at_lookup; refine wpList_lookW _ rfl _ _ rfl (u := .agg #[.int .i64 0, .string ⟨#[]⟩, .bool false]) rfl own0 rfl KEY.out H1.out H2.out ?_)
        go_roundw
        case rel => exact ⟨k + 1, z + 1, by omega, by have := HZ.out; omega, by go_num, by rw [HN.out]; exact ownX, hbX⟩
        case measure => simp [intOf]; have := HZ.out; omega
      | some x =>
        obtain ⟨xk, xd, xg⟩ := x
        have e1 : ownOr s.ws (k : Int) = ⟨xk, xd, xg⟩ := by unfold ownOr; rw [ho]; rfl
        have HN : Hid (allTo s.ws (k + 1) = allTo s.ws k ++ [⟨xk, xd, xg⟩]) := by show _ = _; rw [HNX.out, ho]
        rw [ho] at q1
        rw [e1] at q2
        rw [← hz] at q1 q2
        have H1 : Hid (Maps.has D (.int .i64 z) = true) := q1
        have H2 : Hid (D.atKey (.int .i64 z) (.held wrV0) = .held (.agg #[.int .i64 xk, .string xd, .bool xg])) := q2
        have own1 := own.alloc (.cells #[.int .i64 xk, .string xd, .bool xg] 100)
        have RY := RowL.new (w := wr) (T := 100) [.int .i64 xk, .string xd, .bool xg] rfl
        change RowL (wr.alloc (.cells #[.int .i64 xk, .string xd, .bool xg] 100)) wr.heap.size [.int .i64 xk, .string xd, .bool xg] at RY
        have hb2 := boxed hb (.cells #[.int .i64 xk, .string xd, .bool xg] 100)
        obtain ⟨W1, hW1⟩ : ∃ W1, wr.alloc (.cells #[.int .i64 xk, .string xd, .bool xg] 100) = W1 := ⟨_, rfl⟩
        rw [hW1] at own1 RY hb2
        have y0 := RY.cell 0 _ rfl
        have y1 := RY.cell 1 _ rfl
        have y2 := RY.cell 2 _ rfl
        clear own hb hz ho e1 HNX q1 q2
        obtain ⟨va, vc, rfl, hWv⟩ := wrIn_own own1
        have hcl := hWv.len
        have hcc := hWv.cap
        clear hWv
        go_wp2_with (first | (at_lookup; refine wpList_lookW _ rfl _ _ rfl (u := .agg #[.int .i64 xk, .string xd, .bool xg]) rfl own0 rfl KEY.out H1.out H2.out ?_) | (rw [hW1]) | (at_builtin; refine wpList_append_lies _ rfl (.tmp 20) (.tmp 22) 88 rfl w.heap.size 100 i0 (.agg #[.int .i64 0, .string ⟨#[]⟩, .bool false]) 3 32 Tryz.underlying88 hi hz0 hz1 hz2 rfl (by decide) (.slice va (allTo s.ws k).length vc) (allTo s.ws k).length (wrsC (allTo s.ws k)) rfl (own1.alloc _) ⟨W1.heap.size, 0, none⟩ 1 1 (wrC ⟨xk, xd, xg⟩) rfl rfl (World.news_of_block (heap_alloc_new W1 (.cells #[.int .i64 xk, .string xd, .bool xg] 100))) (by intro u hu; simp [wrC] at hu; rcases hu with rfl | rfl | rfl <;> rfl) (by decide) (by simp only [maxLen]; omega) (by omega) (by have := hb2.size; simp; omega) _ rfl ?_; intro g9 cap9 wE ownE grE egE ltE))
        have hbE : Below w.heap.size w wE := (boxed hb2 (.cells #[.int .i64 xk, .string xd, .bool xg] 100)).grown grE (by have := hb2.size; simp; omega) (fun j hj => by have := (own1.lt _ hj).1; omega)
        go_roundw
        case rel => exact ⟨k + 1, z + 1, by omega, by have := HZ.out; omega, by go_num, by rw [HN.out, wrsC_snoc, List.length_append]; exact ownE, hbE⟩
        case measure => simp [intOf]; have := HZ.out; omega
    · have h1 : ¬ z < 8 := by omega
      have hkk : k = 8 := by omega
      subst hkk
      go_wp2_with fail
      go_ret
      exact ⟨_, rfl, own, hb⟩
end Go.Proofs.YtoanjdndmlffdaaGreatDoor
