/-
  A Commit in a round of 'copsekeep.told', as the model runs it, whatever the rest of the frame is.
-/
import Derived.Test.YtknejedgddlabaaDoorSiteJ
import Derived.Test.YtknejedgddlabaaDoorSiteA
import Derived.Test.YtknejedgddlabaaDoorSiteI
namespace Go.Proofs.YtknejedgddlabaaDoor
open Go.RowKit

/-- which Go function an operation calls -/
def calleeOf (o : Oper) : Option Nat := match o.op with
  | .call c => match c.callee with
    | .value (.func n) => some n
    | _ => none
  | _ => none
theorem step_callF {P : Program} {ops : Array Oper} {o : Oper} {a : Act} {w : World} {K : Act → World → Prop} {Q : Exit → Act → World → Prop} {E : Prop} (hg : o.guard = none) (f : FuncId) (_hf : calleeOf o = some f) (args : Array Value)
    (he : (execOp a.eval o).run P w = .ok (.enter f args) w) {R : Ending → World → Prop} (h : Calls P f args w R) (hK : ∀ e w', R e w' → ∃ v, e = .returned v ∧ K (a.put o.dst v) w') :
    if Region.wanted o (yielded ops a.tmps) = true then Oper.wp P o a w K Q else E := step_call hg f args he h hK
noncomputable def toldR18 : Code := ((Tryd.f46.body.bind (findRegion 18)).getD .skip)
set_option maxRecDepth 1000000 in
set_option maxHeartbeats 16000000 in
theorem toldR18_any {w0 : World} {n : Nat} {bp : Nat → Nat} {xv av : Value} {S : Nat → SiteS} {all : List TxM} {r i lb lo ln lc : Nat} {z no : Int} {ws : List Wr} {wa : Option Addr} {wk : Nat} {y1 y2 y3 y4 y5 y6 y7 y8 y9 y10 y13 y14 y15 y16 y17 y18 y19 y20 y21 y22 y23 y24 y25 y26 y27 y28 y29 y30 y31 y32 y33 y34 y35 y36 y37 y38 y39 y40 y41 y42 y43 y44 y45 y46 y47 y48 y49 y50 y51 y52 y53 y54 y55 y56 y57 y58 y59 y60 y61 y62 y63 y64 y65 y66 y67 y68 y69 y70 y71 y72 y73 y74 y75 y76 y77 y78 y79 y80 y81 y82 y83 y84 y85 y86 y87 y88 y89 y90 y91 y92 y93 y94 y95 : Value} (w2 : World) (T : TSt w0 n bp xv av S all w2) (hr : r < n) (HI : Hid (InvS (S r))) (h1 : z < (ln : Int)) (h2 : z.toNat = i) (h3 : 0 ≤ z) (c1 : w2.cell? ⟨lb, lo + i * 4 + 1, none⟩ = some (.int .i64 no)) (c3 : w2.cell? ⟨lb, lo + i * 4 + 3, none⟩ = some (.slice wa ws.length wk)) (HW : Hid (WrIn w2 wa wk ws)) (HA : Hid (∀ k off, ws ≠ [] → wa = some ⟨k, off, none⟩ → k < w0.heap.size)) (R : Act → World → Prop)
    (hR : ∀ (u71 u72 u73 u74 u75 u76 u77 u78 u79 u80 u81 u82 u83 u84 u85 u86 u87 u88 : Value) (m0 m1 m2 m3 m4 m5 m6 m7 : Int) (mws : List Wr) (ma : Option Addr) (mc : Nat) (ce : Int) (mb : Nat) (wc : World), Told18 w0 n bp xv av S all r ws ce ⟨⟨m0, m1, m2, m3, m4, m5, m6, m7, mws⟩, ma, mc⟩ mb wc → R ⟨List.toArray ((.slice (some ⟨lb, lo, none⟩) ln lc) :: y1 :: y2 :: y3 :: y4 :: y5 :: y6 :: y7 :: y8 :: y9 :: y10 :: (.int .i64 z) :: (.pointer (some ⟨bp r, 0, none⟩)) :: y13 :: (.pointer (some ⟨mb, 0, none⟩)) :: (errV ce) :: y16 :: y17 :: y18 :: y19 :: y20 :: y21 :: y22 :: y23 :: y24 :: y25 :: y26 :: y27 :: y28 :: y29 :: y30 :: y31 :: y32 :: y33 :: y34 :: y35 :: y36 :: y37 :: y38 :: y39 :: y40 :: y41 :: y42 :: y43 :: y44 :: y45 :: y46 :: y47 :: y48 :: y49 :: y50 :: y51 :: y52 :: y53 :: y54 :: y55 :: y56 :: y57 :: y58 :: y59 :: y60 :: y61 :: y62 :: y63 :: y64 :: y65 :: y66 :: y67 :: y68 :: y69 :: y70 :: u71 :: u72 :: u73 :: u74 :: u75 :: u76 :: u77 :: u78 :: u79 :: u80 :: u81 :: u82 :: u83 :: u84 :: u85 :: u86 :: u87 :: u88 :: y89 :: y90 :: y91 :: y92 :: y93 :: y94 :: y95 :: []), []⟩ wc) :
    Code.wp Tryd.prog toldR18 (Exit.then R (fun _ _ _ => False)) ⟨List.toArray ((.slice (some ⟨lb, lo, none⟩) ln lc) :: y1 :: y2 :: y3 :: y4 :: y5 :: y6 :: y7 :: y8 :: y9 :: y10 :: (.int .i64 z) :: (.pointer (some ⟨bp r, 0, none⟩)) :: y13 :: y14 :: y15 :: y16 :: y17 :: y18 :: y19 :: y20 :: y21 :: y22 :: y23 :: y24 :: y25 :: y26 :: y27 :: y28 :: y29 :: y30 :: y31 :: y32 :: y33 :: y34 :: y35 :: y36 :: y37 :: y38 :: y39 :: y40 :: y41 :: y42 :: y43 :: y44 :: y45 :: y46 :: y47 :: y48 :: y49 :: y50 :: y51 :: y52 :: y53 :: y54 :: y55 :: y56 :: y57 :: y58 :: y59 :: y60 :: y61 :: y62 :: y63 :: y64 :: y65 :: y66 :: y67 :: y68 :: y69 :: y70 :: y71 :: y72 :: y73 :: y74 :: y75 :: y76 :: y77 :: y78 :: y79 :: y80 :: y81 :: y82 :: y83 :: y84 :: y85 :: y86 :: y87 :: y88 :: y89 :: y90 :: y91 :: y92 :: y93 :: y94 :: y95 :: []), []⟩ w2 := by
  have HR : Hid _ := hR
  clear hR
  have TD := T.later ((Below.refl _ w2).drew)
  have hlb : lb < w2.heap.size := World.block_lt_of_cell? _ _ c1
  have AP : Hid (∀ w' : World, Below w2.drew.heap.size w2.drew w' → Calls Tryd.prog 49 #[.pointer (some ⟨bp r, 0, none⟩)] w' fun e w'' => e = .returned (.agg #[.int .i64 (S r).a0, .int .i64 (S r).a1, .int .i64 (S r).a2, .int .i64 (S r).a3]) ∧ Below w'.heap.size w' w'') := fun w' h => by
    obtain ⟨Gs, f⟩ := (TD.later h).fam
    exact applied_any w' (f.is r hr)
  have hbD := (Below.refl w2.heap.size w2).drew
  conv => arg 2; whnf
  go_region_law (first
    | (refine step_callF rfl 42 rfl #[.int .i64 no, .int .i64 1000] (by go_simp) (pick_any no 1000 (by omega) (by omega) _) ?_
       rintro e w5 ⟨pr, rfl, hpr, hw5⟩
       have hw6 := hw5.symm
       clear hw5
       subst hw6
       refine ⟨_, rfl, ?_⟩)
    | (refine step_callF rfl 49 rfl #[.pointer (some ⟨bp r, 0, none⟩)] (by go_simp) (AP.out w2.drew (Below.refl _ _)) ?_
       rintro e w3 ⟨rfl, hb3⟩
       refine ⟨_, rfl, ?_⟩
       have hb30 := behind hbD hb3
       have d1 := cell_later hb30 c1
       have d3 := cell_later hb30 c3
       have hl3 : lb < w3.heap.size := World.block_lt_of_cell? _ _ d1
       have hs3 := hb30.size)
    | (refine step_callF rfl 49 rfl #[.pointer (some ⟨bp r, 0, none⟩)] (by go_simp) (AP.out (w2.drew.alloc (.cells #[.int .i64 0, .int .i64 0, .int .i64 0, .int .i64 0, .int .i64 0, .int .i64 0, .int .i64 0, .int .i64 0, .slice none 0 0] 40)) (boxed (Below.refl _ _) _)) ?_
       rintro e w3 ⟨rfl, hb3⟩
       refine ⟨_, rfl, ?_⟩
       have hb30 := behind (boxed hbD (.cells #[.int .i64 0, .int .i64 0, .int .i64 0, .int .i64 0, .int .i64 0, .int .i64 0, .int .i64 0, .int .i64 0, .slice none 0 0] 40)) hb3
       have RX := (RowL.new (w := w2.drew) (T := 40) (n := w2.heap.size) [.int .i64 0, .int .i64 0, .int .i64 0, .int .i64 0, .int .i64 0, .int .i64 0, .int .i64 0, .int .i64 0, .slice none 0 0] rfl).later hb3
       have d1 := cell_later hb30 c1
       have d3 := cell_later hb30 c3
       have hl3 : lb < w3.heap.size := World.block_lt_of_cell? _ _ d1
       have hs3 := hb30.size
       have hx3 := RX.lt)
    | (refine step_callF rfl 83 rfl #[.pointer (some ⟨bp r, 0, none⟩), .int .i64 pr, .agg #[.int .i64 (S r).a0, .int .i64 (S r).a1, .int .i64 (S r).a2, .int .i64 (S r).a3], .slice wa ws.length wk] (by go_simp) (aside_commit (X := (fun k => ToldX w0.heap.size xv av all k ∨ k = w2.heap.size)) (told18_pre T hb30 (b1 := w2.heap.size) (Nat.le_refl _) RX.lt) hr HI.out pr (S r).a0 (S r).a1 (S r).a2 (S r).a3 (HW.out.later hb30) (fun k off e1 e2 => .inl (.inl (HA.out k off e1 e2)))) ?_
       rintro e w4 ⟨m0, m1, m2, m3, m4, m5, m6, m7, mws, ma, mc, ce, rfl, HC⟩
       refine ⟨_, rfl, ?_⟩
       have hbW := hb30
       have RW := RX
       have hbx : w2.heap.size ≤ w2.heap.size := Nat.le_refl _
       have RX4 := RX.keeps HC.out.2.2.2.2.1 (.inr rfl)
       have v0 := RX4.cell 0 _ rfl
       have v1 := RX4.cell 1 _ rfl
       have v2 := RX4.cell 2 _ rfl
       have v3 := RX4.cell 3 _ rfl
       have v4 := RX4.cell 4 _ rfl
       have v5 := RX4.cell 5 _ rfl
       have v6 := RX4.cell 6 _ rfl
       have v7 := RX4.cell 7 _ rfl
       have v8 := RX4.cell 8 _ rfl
       have f0 := RX4.free 0 (by simp)
       have f1 := RX4.free 1 (by simp)
       have f2 := RX4.free 2 (by simp)
       have f3 := RX4.free 3 (by simp)
       have f4 := RX4.free 4 (by simp)
       have f5 := RX4.free 5 (by simp)
       have f6 := RX4.free 6 (by simp)
       have f7 := RX4.free 7 (by simp)
       have f8 := RX4.free 8 (by simp))
    | (refine step_callF rfl 83 rfl #[.pointer (some ⟨bp r, 0, none⟩), .int .i64 pr, .agg #[.int .i64 (S r).a0, .int .i64 (S r).a1, .int .i64 (S r).a2, .int .i64 (S r).a3], .slice wa ws.length wk] (by go_simp) (aside_commit (X := (ToldX w0.heap.size xv av all)) (T.later hb30).fam hr HI.out pr (S r).a0 (S r).a1 (S r).a2 (S r).a3 (HW.out.later hb30) (fun k off e1 e2 => .inl (HA.out k off e1 e2))) ?_
       rintro e w4 ⟨m0, m1, m2, m3, m4, m5, m6, m7, mws, ma, mc, ce, rfl, HC⟩
       refine ⟨_, rfl, ?_⟩
       have hbW := hb30)
    | (refine step_callF rfl 83 rfl #[.pointer (some ⟨bp r, 0, none⟩), .int .i64 pr, .agg #[.int .i64 (S r).a0, .int .i64 (S r).a1, .int .i64 (S r).a2, .int .i64 (S r).a3], .slice wa ws.length wk] (by go_simp) (aside_commit (X := (fun k => ToldX w0.heap.size xv av all k ∨ k = w3.heap.size)) (told18_pre T (boxed hb30 (.cells #[.int .i64 0, .int .i64 0, .int .i64 0, .int .i64 0, .int .i64 0, .int .i64 0, .int .i64 0, .int .i64 0, .slice none 0 0] 40)) (b1 := w3.heap.size) hs3 (by simp)) hr HI.out pr (S r).a0 (S r).a1 (S r).a2 (S r).a3 (HW.out.later (boxed hb30 (.cells #[.int .i64 0, .int .i64 0, .int .i64 0, .int .i64 0, .int .i64 0, .int .i64 0, .int .i64 0, .int .i64 0, .slice none 0 0] 40))) (fun k off e1 e2 => .inl (.inl (HA.out k off e1 e2)))) ?_
       rintro e w4 ⟨m0, m1, m2, m3, m4, m5, m6, m7, mws, ma, mc, ce, rfl, HC⟩
       refine ⟨_, rfl, ?_⟩
       have hbW := boxed hb30 (.cells #[.int .i64 0, .int .i64 0, .int .i64 0, .int .i64 0, .int .i64 0, .int .i64 0, .int .i64 0, .int .i64 0, .slice none 0 0] 40)
       have RW := RowL.new (w := w3) (T := 40) (n := w3.heap.size) [.int .i64 0, .int .i64 0, .int .i64 0, .int .i64 0, .int .i64 0, .int .i64 0, .int .i64 0, .int .i64 0, .slice none 0 0] rfl
       have hbx := hs3
       have RX4 := RW.keeps HC.out.2.2.2.2.1 (.inr rfl)
       have v0 := RX4.cell 0 _ rfl
       have v1 := RX4.cell 1 _ rfl
       have v2 := RX4.cell 2 _ rfl
       have v3 := RX4.cell 3 _ rfl
       have v4 := RX4.cell 4 _ rfl
       have v5 := RX4.cell 5 _ rfl
       have v6 := RX4.cell 6 _ rfl
       have v7 := RX4.cell 7 _ rfl
       have v8 := RX4.cell 8 _ rfl
       have f0 := RX4.free 0 (by simp)
       have f1 := RX4.free 1 (by simp)
       have f2 := RX4.free 2 (by simp)
       have f3 := RX4.free 3 (by simp)
       have f4 := RX4.free 4 (by simp)
       have f5 := RX4.free 5 (by simp)
       have f6 := RX4.free 6 (by simp)
       have f7 := RX4.free 7 (by simp)
       have f8 := RX4.free 8 (by simp)))
  all_goals
    first
      | (have hck := RX4.lt
         go_simp
         refine HR.out _ _ _ _ _ _ _ _ _ _ _ _ _ _ _ _ _ _ m0 m1 m2 m3 m4 m5 m6 m7 mws ma mc ce _ _ ?_
         exact told18_a T hbW RW rfl hbx HC)
      | (go_simp
         refine HR.out _ _ _ _ _ _ _ _ _ _ _ _ _ _ _ _ _ _ m0 m1 m2 m3 m4 m5 m6 m7 mws ma mc ce _ _ ?_
         exact told18_b T hbW HC _)

end Go.Proofs.YtknejedgddlabaaDoor
