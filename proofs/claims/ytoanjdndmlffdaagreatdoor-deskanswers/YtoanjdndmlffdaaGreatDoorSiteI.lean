import Derived.Test.YtoanjdndmlffdaaGreatDoorSiteH
import Derived.Shelf.SlIter.Nil
import Derived.Shelf.SortM.Plain
import Derived.Shelf.SortM.SortNone
import Derived.Shelf.Strings.BuilderK
set_option maxHeartbeats 24000000
set_option maxRecDepth 1000000
namespace Go.Proofs.YtoanjdndmlffdaaGreatDoor
section
open Tryz Go.RowKit
section
variable {cb mb b j cap:Nat} {Gw G:Nat->Prop} {W:WoS} {a:Option Addr} {l:List ByteArray}
theorem q72 (w:World) (h:qdm w cb mb b Gw G W j a cap l):Calls prog 46 #[.pointer (some ⟨cb,0,none⟩),.slice a l.length cap] w (qa3 0 W l w cb mb G):=by
 have d:Hid _:=h;have k:=λw' hb=>qfx h.sm w' (h.gl.later (w':=w') hb) (h.st.later hb);replace k:=k w.drew (Below.refl _ w).drew;have c0:=h.ck.cell0;clear h;go_enter func46,ntmps46
 go_wp2
 refine wp_region_any (by kernel_rfl) ?_;change wpAny _ _ _ _ _ _ _ (World.drew _);refine wpAny_take (i:=0) (v:=?_) rfl (by kernel_rfl) (by kernel_rfl) (by kernel_rfl) (λ_ _ _ h=>h) (Or.inl ⟨by rfl,?_⟩) ?_
 rotate_left
 ·intro w0;first|(go_simp;done)|(go_simp;with_reducible rfl)
 go_simp
 refine wpAny_take (i:=1) (v:=?_) rfl (by kernel_rfl) (by kernel_rfl) (by kernel_rfl) (λ_ _ _ h=>h) (Or.inl ⟨by rfl,?_⟩) ?_
 rotate_left
 ·intro w0;first|(go_simp;done)|(go_simp;with_reducible rfl)
 go_simp
 refine wpAny_take (i:=2) (v:=?_) rfl (by kernel_rfl) (by kernel_rfl) (by kernel_rfl) (λ_ _ _ h=>h) (Or.inl ⟨by rfl,?_⟩) ?_
 rotate_left
 ·intro w0;first|(go_simp;done)|(go_simp;with_reducible rfl)
 go_simp
 refine wpAny_take (i:=4) (v:=?_) rfl (by kernel_rfl) (by kernel_rfl) (by kernel_rfl) (λ_ _ _ h=>h) (Or.inl ⟨by rfl,?_⟩) ?_
 rotate_left
 ·intro w0;first|(go_simp;done)|(go_simp;with_reducible rfl)
 go_simp
 refine wpAny_ready (rs:=[3,5]) (by kernel_rfl) (by simp) ?_;refine AllReady.cons rfl (λK c=>?_) (AllReady.cons rfl (λK c=>?_) AllReady.nil)
 dsimp only[List.getElem_toArray,List.getElem_cons_succ,List.getElem_cons_zero]
 go_simp
 refine c _ _ ?_;clear c K;refine wpAny_ready (rs:=[5]) (by kernel_rfl) (by simp) ?_;refine AllReady.cons rfl (λK c=>?_) AllReady.nil
 dsimp only[List.getElem_toArray,List.getElem_cons_succ,List.getElem_cons_zero]
 rw[if_pos (by rfl)];refine qan 95 #[.slice a l.length cap] (by go_simp) k ?_;rintro e t ⟨m,(⟨v,g,rfl⟩|⟨g,rfl⟩)⟩
 rotate_left
 ·exact .inr ⟨_,rfl,rfl,d.out.no (by decide) g.out (qab (Below.refl _ w).drew m)⟩
 dsimp only[List.getElem_toArray,List.getElem_cons_succ,List.getElem_cons_zero]
 rw[if_pos (by rfl)];refine qan 95 #[.slice a l.length cap] (by go_simp) k ?_;rintro e t ⟨m,(⟨v,g,rfl⟩|⟨g,rfl⟩)⟩
 rotate_left
 ·exact .inr ⟨_,rfl,rfl,d.out.no (by decide) g.out (qab (Below.refl _ w).drew m)⟩
 all_goals
  have n:=qab (Below.refl _ w).drew m;have c1:=(d.out.ck.later n).cell0;have u:=q6w v t (d.out.ck.later n).pw;refine .inl ⟨_,rfl,?_⟩
  go_simp
  refine c _ _ ?_;clear c K
 rotate_left
 refine wpAny_ready (rs:=[3]) (by kernel_rfl) (by simp) ?_;refine AllReady.cons rfl (λK c=>?_) AllReady.nil
 dsimp only[List.getElem_toArray,List.getElem_cons_succ,List.getElem_cons_zero]
 go_simp
 refine c _ _ ?_;clear c K
 all_goals
  refine wpAny_ready (rs:=[6]) (by kernel_rfl) (by simp) ?_;refine AllReady.cons rfl (λK c=>?_) AllReady.nil
  dsimp only[List.getElem_toArray,List.getElem_cons_succ,List.getElem_cons_zero]
  rw[if_pos (by rfl)];refine qan 94 #[.pointer (some ⟨b,0,none⟩),.int .i64 v] (by go_simp) u ?_;rintro e w2 ⟨W',er,x,rfl,r⟩;have y:=qcp er w2 (d.out.gl2 n r);have s:Hid (∀e o,Below w2.heap.size w2 o->qkf er (qaj 0) e->qa3 0 W l w cb mb G e o):=λe o p z=>d.out.yes (by decide) g.out n (x.data (by decide)) r p z;clear x r c1 c0 u;refine .inl ⟨_,rfl,?_⟩
  go_simp
  refine c _ _ ?_;clear c K;refine wpAny_ready (rs:=[7]) (by kernel_rfl) (by simp) ?_;refine AllReady.cons rfl (λK c=>?_) AllReady.nil
  dsimp only[List.getElem_toArray,List.getElem_cons_succ,List.getElem_cons_zero]
  rw[if_pos (by rfl)];refine qan 66 #[qbq er] (by go_simp) y ?_;rintro e o ⟨p,(⟨q,rfl⟩|⟨q,rfl⟩)⟩
  rotate_left
  ·exact .inr ⟨_,rfl,rfl,s.out _ _ p (.inr ⟨q,rfl⟩)⟩
  have B:=s.out _ _ p (.inl ⟨q,rfl⟩);clear q s y;refine .inl ⟨_,rfl,?_⟩
  go_simp
  refine c _ _ ?_;clear c K;refine wpAny_done (by kernel_rfl) ?_ _
  go_wp2
  go_ret;exact B
theorem q68 (w:World) (h:qdm w cb mb b Gw G W j a cap l):Calls prog 48 #[.pointer (some ⟨cb,0,none⟩),.slice a l.length cap] w (qa3 2 W l w cb mb G):=by
 have d:Hid _:=h;have k:=λw' hb=>qfx h.sm w' (h.gl.later (w':=w') hb) (h.st.later hb);replace k:=k w.drew (Below.refl _ w).drew;have c0:=h.ck.cell0;clear h;go_enter func48,ntmps48
 go_wp2
 refine wp_region_any (by kernel_rfl) ?_;change wpAny _ _ _ _ _ _ _ (World.drew _);refine wpAny_take (i:=0) (v:=?_) rfl (by kernel_rfl) (by kernel_rfl) (by kernel_rfl) (λ_ _ _ h=>h) (Or.inl ⟨by rfl,?_⟩) ?_
 rotate_left
 ·intro w0;first|(go_simp;done)|(go_simp;with_reducible rfl)
 go_simp
 refine wpAny_take (i:=1) (v:=?_) rfl (by kernel_rfl) (by kernel_rfl) (by kernel_rfl) (λ_ _ _ h=>h) (Or.inl ⟨by rfl,?_⟩) ?_
 rotate_left
 ·intro w0;first|(go_simp;done)|(go_simp;with_reducible rfl)
 go_simp
 refine wpAny_take (i:=2) (v:=?_) rfl (by kernel_rfl) (by kernel_rfl) (by kernel_rfl) (λ_ _ _ h=>h) (Or.inl ⟨by rfl,?_⟩) ?_
 rotate_left
 ·intro w0;first|(go_simp;done)|(go_simp;with_reducible rfl)
 go_simp
 refine wpAny_take (i:=4) (v:=?_) rfl (by kernel_rfl) (by kernel_rfl) (by kernel_rfl) (λ_ _ _ h=>h) (Or.inl ⟨by rfl,?_⟩) ?_
 rotate_left
 ·intro w0;first|(go_simp;done)|(go_simp;with_reducible rfl)
 go_simp
 refine wpAny_ready (rs:=[3,5]) (by kernel_rfl) (by simp) ?_;refine AllReady.cons rfl (λK c=>?_) (AllReady.cons rfl (λK c=>?_) AllReady.nil)
 dsimp only[List.getElem_toArray,List.getElem_cons_succ,List.getElem_cons_zero]
 go_simp
 refine c _ _ ?_;clear c K;refine wpAny_ready (rs:=[5]) (by kernel_rfl) (by simp) ?_;refine AllReady.cons rfl (λK c=>?_) AllReady.nil
 dsimp only[List.getElem_toArray,List.getElem_cons_succ,List.getElem_cons_zero]
 rw[if_pos (by rfl)];refine qan 95 #[.slice a l.length cap] (by go_simp) k ?_;rintro e t ⟨m,(⟨v,g,rfl⟩|⟨g,rfl⟩)⟩
 rotate_left
 ·exact .inr ⟨_,rfl,rfl,d.out.no (by decide) g.out (qab (Below.refl _ w).drew m)⟩
 dsimp only[List.getElem_toArray,List.getElem_cons_succ,List.getElem_cons_zero]
 rw[if_pos (by rfl)];refine qan 95 #[.slice a l.length cap] (by go_simp) k ?_;rintro e t ⟨m,(⟨v,g,rfl⟩|⟨g,rfl⟩)⟩
 rotate_left
 ·exact .inr ⟨_,rfl,rfl,d.out.no (by decide) g.out (qab (Below.refl _ w).drew m)⟩
 all_goals
  have n:=qab (Below.refl _ w).drew m;have c1:=(d.out.ck.later n).cell0;have u:=q8t v t (d.out.ck.later n).pw d.out.wi;refine .inl ⟨_,rfl,?_⟩
  go_simp
  refine c _ _ ?_;clear c K
 rotate_left
 refine wpAny_ready (rs:=[3]) (by kernel_rfl) (by simp) ?_;refine AllReady.cons rfl (λK c=>?_) AllReady.nil
 dsimp only[List.getElem_toArray,List.getElem_cons_succ,List.getElem_cons_zero]
 go_simp
 refine c _ _ ?_;clear c K
 all_goals
  refine wpAny_ready (rs:=[6]) (by kernel_rfl) (by simp) ?_;refine AllReady.cons rfl (λK c=>?_) AllReady.nil
  dsimp only[List.getElem_toArray,List.getElem_cons_succ,List.getElem_cons_zero]
  rw[if_pos (by rfl)];refine qan 98 #[.pointer (some ⟨b,0,none⟩),.int .i64 v] (by go_simp) u ?_;rintro e w2 ⟨W',er,x,rfl,r⟩;have y:=qcp er w2 (d.out.gl2 n r);have s:Hid (∀e o,Below w2.heap.size w2 o->qkf er (qaj 2) e->qa3 2 W l w cb mb G e o):=λe o p z=>d.out.yes (by decide) g.out n (x.data (by decide)) r p z;clear x r c1 c0 u;refine .inl ⟨_,rfl,?_⟩
  go_simp
  refine c _ _ ?_;clear c K;refine wpAny_ready (rs:=[7]) (by kernel_rfl) (by simp) ?_;refine AllReady.cons rfl (λK c=>?_) AllReady.nil
  dsimp only[List.getElem_toArray,List.getElem_cons_succ,List.getElem_cons_zero]
  rw[if_pos (by rfl)];refine qan 66 #[qbq er] (by go_simp) y ?_;rintro e o ⟨p,(⟨q,rfl⟩|⟨q,rfl⟩)⟩
  rotate_left
  ·exact .inr ⟨_,rfl,rfl,s.out _ _ p (.inr ⟨q,rfl⟩)⟩
  have B:=s.out _ _ p (.inl ⟨q,rfl⟩);clear q s y;refine .inl ⟨_,rfl,?_⟩
  go_simp
  refine c _ _ ?_;clear c K;refine wpAny_done (by kernel_rfl) ?_ _
  go_wp2
  go_ret;exact B
theorem q0u (w:World) (h:qdm w cb mb b Gw G W j a cap l):Calls prog 52 #[.pointer (some ⟨cb,0,none⟩),.slice a l.length cap] w (qa3 6 W l w cb mb G):=by
 have d:Hid _:=h;have k:=λw' hb=>qfx h.sm w' (h.gl.later (w':=w') hb) (h.st.later hb);replace k:=k w.drew (Below.refl _ w).drew;have c0:=h.ck.cell0;clear h;go_enter func52,ntmps52
 go_wp2
 refine wp_region_any (by kernel_rfl) ?_;change wpAny _ _ _ _ _ _ _ (World.drew _);refine wpAny_take (i:=0) (v:=?_) rfl (by kernel_rfl) (by kernel_rfl) (by kernel_rfl) (λ_ _ _ h=>h) (Or.inl ⟨by rfl,?_⟩) ?_
 rotate_left
 ·intro w0;first|(go_simp;done)|(go_simp;with_reducible rfl)
 go_simp
 refine wpAny_take (i:=1) (v:=?_) rfl (by kernel_rfl) (by kernel_rfl) (by kernel_rfl) (λ_ _ _ h=>h) (Or.inl ⟨by rfl,?_⟩) ?_
 rotate_left
 ·intro w0;first|(go_simp;done)|(go_simp;with_reducible rfl)
 go_simp
 refine wpAny_take (i:=2) (v:=?_) rfl (by kernel_rfl) (by kernel_rfl) (by kernel_rfl) (λ_ _ _ h=>h) (Or.inl ⟨by rfl,?_⟩) ?_
 rotate_left
 ·intro w0;first|(go_simp;done)|(go_simp;with_reducible rfl)
 go_simp
 refine wpAny_take (i:=4) (v:=?_) rfl (by kernel_rfl) (by kernel_rfl) (by kernel_rfl) (λ_ _ _ h=>h) (Or.inl ⟨by rfl,?_⟩) ?_
 rotate_left
 ·intro w0;first|(go_simp;done)|(go_simp;with_reducible rfl)
 go_simp
 refine wpAny_ready (rs:=[3,5]) (by kernel_rfl) (by simp) ?_;refine AllReady.cons rfl (λK c=>?_) (AllReady.cons rfl (λK c=>?_) AllReady.nil)
 dsimp only[List.getElem_toArray,List.getElem_cons_succ,List.getElem_cons_zero]
 go_simp
 refine c _ _ ?_;clear c K;refine wpAny_ready (rs:=[5]) (by kernel_rfl) (by simp) ?_;refine AllReady.cons rfl (λK c=>?_) AllReady.nil
 dsimp only[List.getElem_toArray,List.getElem_cons_succ,List.getElem_cons_zero]
 rw[if_pos (by rfl)];refine qan 95 #[.slice a l.length cap] (by go_simp) k ?_;rintro e t ⟨m,(⟨v,g,rfl⟩|⟨g,rfl⟩)⟩
 rotate_left
 ·exact .inr ⟨_,rfl,rfl,d.out.no (by decide) g.out (qab (Below.refl _ w).drew m)⟩
 dsimp only[List.getElem_toArray,List.getElem_cons_succ,List.getElem_cons_zero]
 rw[if_pos (by rfl)];refine qan 95 #[.slice a l.length cap] (by go_simp) k ?_;rintro e t ⟨m,(⟨v,g,rfl⟩|⟨g,rfl⟩)⟩
 rotate_left
 ·exact .inr ⟨_,rfl,rfl,d.out.no (by decide) g.out (qab (Below.refl _ w).drew m)⟩
 all_goals
  have n:=qab (Below.refl _ w).drew m;have c1:=(d.out.ck.later n).cell0;have u:=q05 v t (d.out.ck.later n).pw d.out.wi;refine .inl ⟨_,rfl,?_⟩
  go_simp
  refine c _ _ ?_;clear c K
 rotate_left
 refine wpAny_ready (rs:=[3]) (by kernel_rfl) (by simp) ?_;refine AllReady.cons rfl (λK c=>?_) AllReady.nil
 dsimp only[List.getElem_toArray,List.getElem_cons_succ,List.getElem_cons_zero]
 go_simp
 refine c _ _ ?_;clear c K
 all_goals
  refine wpAny_ready (rs:=[6]) (by kernel_rfl) (by simp) ?_;refine AllReady.cons rfl (λK c=>?_) AllReady.nil
  dsimp only[List.getElem_toArray,List.getElem_cons_succ,List.getElem_cons_zero]
  rw[if_pos (by rfl)];refine qan 104 #[.pointer (some ⟨b,0,none⟩),.int .i64 v] (by go_simp) u ?_;rintro e w2 ⟨W',er,x,rfl,r⟩;have y:=qcp er w2 (d.out.gl2 n r);have s:Hid (∀e o,Below w2.heap.size w2 o->qkf er (qaj 6) e->qa3 6 W l w cb mb G e o):=λe o p z=>d.out.yes (by decide) g.out n (x.data (by decide)) r p z;clear x r c1 c0 u;refine .inl ⟨_,rfl,?_⟩
  go_simp
  refine c _ _ ?_;clear c K;refine wpAny_ready (rs:=[7]) (by kernel_rfl) (by simp) ?_;refine AllReady.cons rfl (λK c=>?_) AllReady.nil
  dsimp only[List.getElem_toArray,List.getElem_cons_succ,List.getElem_cons_zero]
  rw[if_pos (by rfl)];refine qan 66 #[qbq er] (by go_simp) y ?_;rintro e o ⟨p,(⟨q,rfl⟩|⟨q,rfl⟩)⟩
  rotate_left
  ·exact .inr ⟨_,rfl,rfl,s.out _ _ p (.inr ⟨q,rfl⟩)⟩
  have B:=s.out _ _ p (.inl ⟨q,rfl⟩);clear q s y;refine .inl ⟨_,rfl,?_⟩
  go_simp
  refine c _ _ ?_;clear c K;refine wpAny_done (by kernel_rfl) ?_ _
  go_wp2
  go_ret;exact B
theorem jcl (w:World) (h:qdm w cb mb b Gw G W j a cap l):Calls prog 56 #[.pointer (some ⟨cb,0,none⟩),.slice a l.length cap] w (qa3 10 W l w cb mb G):=by
 have d:Hid _:=h;have k:=λw' hb=>qfx h.sm w' (h.gl.later (w':=w') hb) (h.st.later hb);replace k:=k w.drew (Below.refl _ w).drew;have c0:=h.ck.cell0;clear h;go_enter func56,ntmps56
 go_wp2
 refine wp_region_any (by kernel_rfl) ?_;change wpAny _ _ _ _ _ _ _ (World.drew _);refine wpAny_take (i:=0) (v:=?_) rfl (by kernel_rfl) (by kernel_rfl) (by kernel_rfl) (λ_ _ _ h=>h) (Or.inl ⟨by rfl,?_⟩) ?_
 rotate_left
 ·intro w0;first|(go_simp;done)|(go_simp;with_reducible rfl)
 go_simp
 refine wpAny_take (i:=1) (v:=?_) rfl (by kernel_rfl) (by kernel_rfl) (by kernel_rfl) (λ_ _ _ h=>h) (Or.inl ⟨by rfl,?_⟩) ?_
 rotate_left
 ·intro w0;first|(go_simp;done)|(go_simp;with_reducible rfl)
 go_simp
 refine wpAny_take (i:=2) (v:=?_) rfl (by kernel_rfl) (by kernel_rfl) (by kernel_rfl) (λ_ _ _ h=>h) (Or.inl ⟨by rfl,?_⟩) ?_
 rotate_left
 ·intro w0;first|(go_simp;done)|(go_simp;with_reducible rfl)
 go_simp
 refine wpAny_take (i:=4) (v:=?_) rfl (by kernel_rfl) (by kernel_rfl) (by kernel_rfl) (λ_ _ _ h=>h) (Or.inl ⟨by rfl,?_⟩) ?_
 rotate_left
 ·intro w0;first|(go_simp;done)|(go_simp;with_reducible rfl)
 go_simp
 refine wpAny_ready (rs:=[3,5]) (by kernel_rfl) (by simp) ?_;refine AllReady.cons rfl (λK c=>?_) (AllReady.cons rfl (λK c=>?_) AllReady.nil)
 dsimp only[List.getElem_toArray,List.getElem_cons_succ,List.getElem_cons_zero]
 go_simp
 refine c _ _ ?_;clear c K;refine wpAny_ready (rs:=[5]) (by kernel_rfl) (by simp) ?_;refine AllReady.cons rfl (λK c=>?_) AllReady.nil
 dsimp only[List.getElem_toArray,List.getElem_cons_succ,List.getElem_cons_zero]
 rw[if_pos (by rfl)];refine qan 95 #[.slice a l.length cap] (by go_simp) k ?_;rintro e t ⟨m,(⟨v,g,rfl⟩|⟨g,rfl⟩)⟩
 rotate_left
 ·exact .inr ⟨_,rfl,rfl,d.out.no (by decide) g.out (qab (Below.refl _ w).drew m)⟩
 dsimp only[List.getElem_toArray,List.getElem_cons_succ,List.getElem_cons_zero]
 rw[if_pos (by rfl)];refine qan 95 #[.slice a l.length cap] (by go_simp) k ?_;rintro e t ⟨m,(⟨v,g,rfl⟩|⟨g,rfl⟩)⟩
 rotate_left
 ·exact .inr ⟨_,rfl,rfl,d.out.no (by decide) g.out (qab (Below.refl _ w).drew m)⟩
 all_goals
  have n:=qab (Below.refl _ w).drew m;have c1:=(d.out.ck.later n).cell0;have u:=jab v t (d.out.ck.later n).pw d.out.wi;refine .inl ⟨_,rfl,?_⟩
  go_simp
  refine c _ _ ?_;clear c K
 rotate_left
 refine wpAny_ready (rs:=[3]) (by kernel_rfl) (by simp) ?_;refine AllReady.cons rfl (λK c=>?_) AllReady.nil
 dsimp only[List.getElem_toArray,List.getElem_cons_succ,List.getElem_cons_zero]
 go_simp
 refine c _ _ ?_;clear c K
 all_goals
  refine wpAny_ready (rs:=[6]) (by kernel_rfl) (by simp) ?_;refine AllReady.cons rfl (λK c=>?_) AllReady.nil
  dsimp only[List.getElem_toArray,List.getElem_cons_succ,List.getElem_cons_zero]
  rw[if_pos (by rfl)];refine qan 109 #[.pointer (some ⟨b,0,none⟩),.int .i64 v] (by go_simp) u ?_;rintro e w2 ⟨W',er,x,rfl,r⟩;have y:=qcp er w2 (d.out.gl2 n r);have s:Hid (∀e o,Below w2.heap.size w2 o->qkf er (qaj 10) e->qa3 10 W l w cb mb G e o):=λe o p z=>d.out.yes (by decide) g.out n (x.data (by decide)) r p z;clear x r c1 c0 u;refine .inl ⟨_,rfl,?_⟩
  go_simp
  refine c _ _ ?_;clear c K;refine wpAny_ready (rs:=[7]) (by kernel_rfl) (by simp) ?_;refine AllReady.cons rfl (λK c=>?_) AllReady.nil
  dsimp only[List.getElem_toArray,List.getElem_cons_succ,List.getElem_cons_zero]
  rw[if_pos (by rfl)];refine qan 66 #[qbq er] (by go_simp) y ?_;rintro e o ⟨p,(⟨q,rfl⟩|⟨q,rfl⟩)⟩
  rotate_left
  ·exact .inr ⟨_,rfl,rfl,s.out _ _ p (.inr ⟨q,rfl⟩)⟩
  have B:=s.out _ _ p (.inl ⟨q,rfl⟩);clear q s y;refine .inl ⟨_,rfl,?_⟩
  go_simp
  refine c _ _ ?_;clear c K;refine wpAny_done (by kernel_rfl) ?_ _
  go_wp2
  go_ret;exact B
theorem q60 (w:World) (h:qdm w cb mb b Gw G W j a cap l):Calls prog 62 #[.pointer (some ⟨cb,0,none⟩),.slice a l.length cap] w (qa3 16 W l w cb mb G):=by
 have d:Hid _:=h;have k:=λw' hb=>qfx h.sm w' (h.gl.later (w':=w') hb) (h.st.later hb);replace k:=k w.drew (Below.refl _ w).drew;have c0:=h.ck.cell0;clear h;go_enter func62,ntmps62
 go_wp2
 refine wp_region_any (by kernel_rfl) ?_;change wpAny _ _ _ _ _ _ _ (World.drew _);refine wpAny_take (i:=0) (v:=?_) rfl (by kernel_rfl) (by kernel_rfl) (by kernel_rfl) (λ_ _ _ h=>h) (Or.inl ⟨by rfl,?_⟩) ?_
 rotate_left
 ·intro w0;first|(go_simp;done)|(go_simp;with_reducible rfl)
 go_simp
 refine wpAny_take (i:=1) (v:=?_) rfl (by kernel_rfl) (by kernel_rfl) (by kernel_rfl) (λ_ _ _ h=>h) (Or.inl ⟨by rfl,?_⟩) ?_
 rotate_left
 ·intro w0;first|(go_simp;done)|(go_simp;with_reducible rfl)
 go_simp
 refine wpAny_take (i:=2) (v:=?_) rfl (by kernel_rfl) (by kernel_rfl) (by kernel_rfl) (λ_ _ _ h=>h) (Or.inl ⟨by rfl,?_⟩) ?_
 rotate_left
 ·intro w0;first|(go_simp;done)|(go_simp;with_reducible rfl)
 go_simp
 refine wpAny_take (i:=4) (v:=?_) rfl (by kernel_rfl) (by kernel_rfl) (by kernel_rfl) (λ_ _ _ h=>h) (Or.inl ⟨by rfl,?_⟩) ?_
 rotate_left
 ·intro w0;first|(go_simp;done)|(go_simp;with_reducible rfl)
 go_simp
 refine wpAny_ready (rs:=[3,5]) (by kernel_rfl) (by simp) ?_;refine AllReady.cons rfl (λK c=>?_) (AllReady.cons rfl (λK c=>?_) AllReady.nil)
 dsimp only[List.getElem_toArray,List.getElem_cons_succ,List.getElem_cons_zero]
 go_simp
 refine c _ _ ?_;clear c K;refine wpAny_ready (rs:=[5]) (by kernel_rfl) (by simp) ?_;refine AllReady.cons rfl (λK c=>?_) AllReady.nil
 dsimp only[List.getElem_toArray,List.getElem_cons_succ,List.getElem_cons_zero]
 rw[if_pos (by rfl)];refine qan 95 #[.slice a l.length cap] (by go_simp) k ?_;rintro e t ⟨m,(⟨v,g,rfl⟩|⟨g,rfl⟩)⟩
 rotate_left
 ·exact .inr ⟨_,rfl,rfl,d.out.no (by decide) g.out (qab (Below.refl _ w).drew m)⟩
 dsimp only[List.getElem_toArray,List.getElem_cons_succ,List.getElem_cons_zero]
 rw[if_pos (by rfl)];refine qan 95 #[.slice a l.length cap] (by go_simp) k ?_;rintro e t ⟨m,(⟨v,g,rfl⟩|⟨g,rfl⟩)⟩
 rotate_left
 ·exact .inr ⟨_,rfl,rfl,d.out.no (by decide) g.out (qab (Below.refl _ w).drew m)⟩
 all_goals
  have n:=qab (Below.refl _ w).drew m;have c1:=(d.out.ck.later n).cell0;have u:=q8j v t (d.out.ck.later n).pw;refine .inl ⟨_,rfl,?_⟩
  go_simp
  refine c _ _ ?_;clear c K
 rotate_left
 refine wpAny_ready (rs:=[3]) (by kernel_rfl) (by simp) ?_;refine AllReady.cons rfl (λK c=>?_) AllReady.nil
 dsimp only[List.getElem_toArray,List.getElem_cons_succ,List.getElem_cons_zero]
 go_simp
 refine c _ _ ?_;clear c K
 all_goals
  refine wpAny_ready (rs:=[6]) (by kernel_rfl) (by simp) ?_;refine AllReady.cons rfl (λK c=>?_) AllReady.nil
  dsimp only[List.getElem_toArray,List.getElem_cons_succ,List.getElem_cons_zero]
  rw[if_pos (by rfl)];refine qan 116 #[.pointer (some ⟨b,0,none⟩),.int .i64 v] (by go_simp) u ?_;rintro e w2 ⟨W',er,x,rfl,r⟩;have y:=qcp er w2 (d.out.gl2 n r);have s:Hid (∀e o,Below w2.heap.size w2 o->qkf er (qaj 16) e->qa3 16 W l w cb mb G e o):=λe o p z=>d.out.yes (by decide) g.out n (x.data (by decide)) r p z;clear x r c1 c0 u;refine .inl ⟨_,rfl,?_⟩
  go_simp
  refine c _ _ ?_;clear c K;refine wpAny_ready (rs:=[7]) (by kernel_rfl) (by simp) ?_;refine AllReady.cons rfl (λK c=>?_) AllReady.nil
  dsimp only[List.getElem_toArray,List.getElem_cons_succ,List.getElem_cons_zero]
  rw[if_pos (by rfl)];refine qan 66 #[qbq er] (by go_simp) y ?_;rintro e o ⟨p,(⟨q,rfl⟩|⟨q,rfl⟩)⟩
  rotate_left
  ·exact .inr ⟨_,rfl,rfl,s.out _ _ p (.inr ⟨q,rfl⟩)⟩
  have B:=s.out _ _ p (.inl ⟨q,rfl⟩);clear q s y;refine .inl ⟨_,rfl,?_⟩
  go_simp
  refine c _ _ ?_;clear c K;refine wpAny_done (by kernel_rfl) ?_ _
  go_wp2
  go_ret;exact B
theorem q76 (w:World) (h:qdm w cb mb b Gw G W j a cap l):Calls prog 61 #[.pointer (some ⟨cb,0,none⟩),.slice a l.length cap] w (qa3 15 W l w cb mb G):=by
 have d:Hid _:=h;have k:=λw' hb=>qfx h.sm w' (h.gl.later (w':=w') hb) (h.st.later hb);replace k:=k w.drew (Below.refl _ w).drew;have c0:=h.ck.cell0;clear h;go_enter func61,ntmps61
 go_wp2
 refine wp_region_any (by kernel_rfl) ?_;change wpAny _ _ _ _ _ _ _ (World.drew _);refine wpAny_take (i:=0) (v:=?_) rfl (by kernel_rfl) (by kernel_rfl) (by kernel_rfl) (λ_ _ _ h=>h) (Or.inl ⟨by rfl,?_⟩) ?_
 rotate_left
 ·intro w0;first|(go_simp;done)|(go_simp;with_reducible rfl)
 go_simp
 refine wpAny_take (i:=1) (v:=?_) rfl (by kernel_rfl) (by kernel_rfl) (by kernel_rfl) (λ_ _ _ h=>h) (Or.inl ⟨by rfl,?_⟩) ?_
 rotate_left
 ·intro w0;first|(go_simp;done)|(go_simp;with_reducible rfl)
 go_simp
 refine wpAny_take (i:=2) (v:=?_) rfl (by kernel_rfl) (by kernel_rfl) (by kernel_rfl) (λ_ _ _ h=>h) (Or.inl ⟨by rfl,?_⟩) ?_
 rotate_left
 ·intro w0;first|(go_simp;done)|(go_simp;with_reducible rfl)
 go_simp
 refine wpAny_take (i:=4) (v:=?_) rfl (by kernel_rfl) (by kernel_rfl) (by kernel_rfl) (λ_ _ _ h=>h) (Or.inl ⟨by rfl,?_⟩) ?_
 rotate_left
 ·intro w0;first|(go_simp;done)|(go_simp;with_reducible rfl)
 go_simp
 refine wpAny_ready (rs:=[3,5]) (by kernel_rfl) (by simp) ?_;refine AllReady.cons rfl (λK c=>?_) (AllReady.cons rfl (λK c=>?_) AllReady.nil)
 dsimp only[List.getElem_toArray,List.getElem_cons_succ,List.getElem_cons_zero]
 go_simp
 refine c _ _ ?_;clear c K;refine wpAny_ready (rs:=[5]) (by kernel_rfl) (by simp) ?_;refine AllReady.cons rfl (λK c=>?_) AllReady.nil
 dsimp only[List.getElem_toArray,List.getElem_cons_succ,List.getElem_cons_zero]
 rw[if_pos (by rfl)];refine qan 95 #[.slice a l.length cap] (by go_simp) k ?_;rintro e t ⟨m,(⟨v,g,rfl⟩|⟨g,rfl⟩)⟩
 rotate_left
 ·exact .inr ⟨_,rfl,rfl,d.out.no (by decide) g.out (qab (Below.refl _ w).drew m)⟩
 dsimp only[List.getElem_toArray,List.getElem_cons_succ,List.getElem_cons_zero]
 rw[if_pos (by rfl)];refine qan 95 #[.slice a l.length cap] (by go_simp) k ?_;rintro e t ⟨m,(⟨v,g,rfl⟩|⟨g,rfl⟩)⟩
 rotate_left
 ·exact .inr ⟨_,rfl,rfl,d.out.no (by decide) g.out (qab (Below.refl _ w).drew m)⟩
 all_goals
  have n:=qab (Below.refl _ w).drew m;have c1:=(d.out.ck.later n).cell0;have u:=q8m v t (d.out.ck.later n).pw d.out.wi;refine .inl ⟨_,rfl,?_⟩
  go_simp
  refine c _ _ ?_;clear c K
 rotate_left
 refine wpAny_ready (rs:=[3]) (by kernel_rfl) (by simp) ?_;refine AllReady.cons rfl (λK c=>?_) AllReady.nil
 dsimp only[List.getElem_toArray,List.getElem_cons_succ,List.getElem_cons_zero]
 go_simp
 refine c _ _ ?_;clear c K
 all_goals
  refine wpAny_ready (rs:=[6]) (by kernel_rfl) (by simp) ?_;refine AllReady.cons rfl (λK c=>?_) AllReady.nil
  dsimp only[List.getElem_toArray,List.getElem_cons_succ,List.getElem_cons_zero]
  rw[if_pos (by rfl)];refine qan 115 #[.pointer (some ⟨b,0,none⟩),.int .i64 v] (by go_simp) u ?_;rintro e w2 ⟨W',er,x,rfl,r⟩;have y:=qcp er w2 (d.out.gl2 n r);have s:Hid (∀e o,Below w2.heap.size w2 o->qkf er (qaj 15) e->qa3 15 W l w cb mb G e o):=λe o p z=>d.out.yes (by decide) g.out n (x.data (by decide)) r p z;clear x r c1 c0 u;refine .inl ⟨_,rfl,?_⟩
  go_simp
  refine c _ _ ?_;clear c K;refine wpAny_ready (rs:=[7]) (by kernel_rfl) (by simp) ?_;refine AllReady.cons rfl (λK c=>?_) AllReady.nil
  dsimp only[List.getElem_toArray,List.getElem_cons_succ,List.getElem_cons_zero]
  rw[if_pos (by rfl)];refine qan 66 #[qbq er] (by go_simp) y ?_;rintro e o ⟨p,(⟨q,rfl⟩|⟨q,rfl⟩)⟩
  rotate_left
  ·exact .inr ⟨_,rfl,rfl,s.out _ _ p (.inr ⟨q,rfl⟩)⟩
  have B:=s.out _ _ p (.inl ⟨q,rfl⟩);clear q s y;refine .inl ⟨_,rfl,?_⟩
  go_simp
  refine c _ _ ?_;clear c K;refine wpAny_done (by kernel_rfl) ?_ _
  go_wp2
  go_ret;exact B
theorem jct (w:World) (h:qdm w cb mb b Gw G W j a cap l):Calls prog 47 #[.pointer (some ⟨cb,0,none⟩),.slice a l.length cap] w (qa3 1 W l w cb mb G):=by
 have d:Hid _:=h;have k:=λw' hb=>qle h.sm w' (h.gl.later (w':=w') hb) (h.st.later hb);replace k:=k w.drew (Below.refl _ w).drew;have c0:=h.ck.cell0;clear h;go_enter func47,ntmps47
 go_wp2
 refine wp_region_any (by kernel_rfl) ?_;change wpAny _ _ _ _ _ _ _ (World.drew _);refine wpAny_take (i:=0) (v:=?_) rfl (by kernel_rfl) (by kernel_rfl) (by kernel_rfl) (λ_ _ _ h=>h) (Or.inl ⟨by rfl,?_⟩) ?_
 rotate_left
 ·intro w0;first|(go_simp;done)|(go_simp;with_reducible rfl)
 go_simp
 refine wpAny_take (i:=1) (v:=?_) rfl (by kernel_rfl) (by kernel_rfl) (by kernel_rfl) (λ_ _ _ h=>h) (Or.inl ⟨by rfl,?_⟩) ?_
 rotate_left
 ·intro w0;first|(go_simp;done)|(go_simp;with_reducible rfl)
 go_simp
 refine wpAny_take (i:=2) (v:=?_) rfl (by kernel_rfl) (by kernel_rfl) (by kernel_rfl) (λ_ _ _ h=>h) (Or.inl ⟨by rfl,?_⟩) ?_
 rotate_left
 ·intro w0;first|(go_simp;done)|(go_simp;with_reducible rfl)
 go_simp
 refine wpAny_take (i:=4) (v:=?_) rfl (by kernel_rfl) (by kernel_rfl) (by kernel_rfl) (λ_ _ _ h=>h) (Or.inl ⟨by rfl,?_⟩) ?_
 rotate_left
 ·intro w0;first|(go_simp;done)|(go_simp;with_reducible rfl)
 go_simp
 refine wpAny_ready (rs:=[3,5]) (by kernel_rfl) (by simp) ?_;refine AllReady.cons rfl (λK c=>?_) (AllReady.cons rfl (λK c=>?_) AllReady.nil)
 dsimp only[List.getElem_toArray,List.getElem_cons_succ,List.getElem_cons_zero]
 go_simp
 refine c _ _ ?_;clear c K;refine wpAny_ready (rs:=[5]) (by kernel_rfl) (by simp) ?_;refine AllReady.cons rfl (λK c=>?_) AllReady.nil
 dsimp only[List.getElem_toArray,List.getElem_cons_succ,List.getElem_cons_zero]
 rw[if_pos (by rfl)];refine qan 97 #[.slice a l.length cap] (by go_simp) k ?_;rintro e t ⟨m,(⟨u,v,g,rfl⟩|⟨g,rfl⟩)⟩
 rotate_left
 ·exact .inr ⟨_,rfl,rfl,d.out.no (by decide) g.out (qab (Below.refl _ w).drew m)⟩
 dsimp only[List.getElem_toArray,List.getElem_cons_succ,List.getElem_cons_zero]
 rw[if_pos (by rfl)];refine qan 97 #[.slice a l.length cap] (by go_simp) k ?_;rintro e t ⟨m,(⟨u,v,g,rfl⟩|⟨g,rfl⟩)⟩
 rotate_left
 ·exact .inr ⟨_,rfl,rfl,d.out.no (by decide) g.out (qab (Below.refl _ w).drew m)⟩
 all_goals
  have n:=qab (Below.refl _ w).drew m;have c1:=(d.out.ck.later n).cell0;have x:=jdb u v t (d.out.ck.later n).pw d.out.wi;refine .inl ⟨_,rfl,?_⟩
  go_simp
  refine c _ _ ?_;clear c K;refine wpAny_take (i:=6) (v:=?_) rfl (by kernel_rfl) (by kernel_rfl) (by kernel_rfl) (λ_ _ _ h=>h) (Or.inl ⟨by rfl,?_⟩) ?_
  rotate_left
  ·intro w0;first|(go_simp;done)|(go_simp;with_reducible rfl)
  go_simp
  refine wpAny_take (i:=7) (v:=?_) rfl (by kernel_rfl) (by kernel_rfl) (by kernel_rfl) (λ_ _ _ h=>h) (Or.inl ⟨by rfl,?_⟩) ?_
  rotate_left
  ·intro w0;first|(go_simp;done)|(go_simp;with_reducible rfl)
  go_simp
 rotate_left
 refine wpAny_ready (rs:=[3]) (by kernel_rfl) (by simp) ?_;refine AllReady.cons rfl (λK c=>?_) AllReady.nil
 dsimp only[List.getElem_toArray,List.getElem_cons_succ,List.getElem_cons_zero]
 go_simp
 refine c _ _ ?_;clear c K
 all_goals
  refine wpAny_ready (rs:=[8]) (by kernel_rfl) (by simp) ?_;refine AllReady.cons rfl (λK c=>?_) AllReady.nil
  dsimp only[List.getElem_toArray,List.getElem_cons_succ,List.getElem_cons_zero]
  rw[if_pos (by rfl)];refine qan 96 #[.pointer (some ⟨b,0,none⟩),.int .i64 u,.int .i64 v] (by go_simp) x ?_;rintro e w2 ⟨W',er,y,rfl,r⟩;have z:=qcp er w2 (d.out.gl2 n r);have s:Hid (∀e o,Below w2.heap.size w2 o->qkf er (qaj 1) e->qa3 1 W l w cb mb G e o):=λe o p B=>d.out.yes (by decide) g.out n (y.data (by decide)) r p B;clear y r c1 c0 x;refine .inl ⟨_,rfl,?_⟩
  go_simp
  refine c _ _ ?_;clear c K;refine wpAny_ready (rs:=[9]) (by kernel_rfl) (by simp) ?_;refine AllReady.cons rfl (λK c=>?_) AllReady.nil
  dsimp only[List.getElem_toArray,List.getElem_cons_succ,List.getElem_cons_zero]
  rw[if_pos (by rfl)];refine qan 66 #[qbq er] (by go_simp) z ?_;rintro e o ⟨p,(⟨q,rfl⟩|⟨q,rfl⟩)⟩
  rotate_left
  ·exact .inr ⟨_,rfl,rfl,s.out _ _ p (.inr ⟨q,rfl⟩)⟩
  have C:=s.out _ _ p (.inl ⟨q,rfl⟩);clear q s z;refine .inl ⟨_,rfl,?_⟩
  go_simp
  refine c _ _ ?_;clear c K;refine wpAny_done (by kernel_rfl) ?_ _
  go_wp2
  go_ret;exact C
theorem jbf (w:World) (h:qdm w cb mb b Gw G W j a cap l):Calls prog 54 #[.pointer (some ⟨cb,0,none⟩),.slice a l.length cap] w (qa3 8 W l w cb mb G):=by
 have d:Hid _:=h;have k:=λw' hb=>qle h.sm w' (h.gl.later (w':=w') hb) (h.st.later hb);replace k:=k w.drew (Below.refl _ w).drew;have c0:=h.ck.cell0;clear h;go_enter func54,ntmps54
 go_wp2
 refine wp_region_any (by kernel_rfl) ?_;change wpAny _ _ _ _ _ _ _ (World.drew _);refine wpAny_take (i:=0) (v:=?_) rfl (by kernel_rfl) (by kernel_rfl) (by kernel_rfl) (λ_ _ _ h=>h) (Or.inl ⟨by rfl,?_⟩) ?_
 rotate_left
 ·intro w0;first|(go_simp;done)|(go_simp;with_reducible rfl)
 go_simp
 refine wpAny_take (i:=1) (v:=?_) rfl (by kernel_rfl) (by kernel_rfl) (by kernel_rfl) (λ_ _ _ h=>h) (Or.inl ⟨by rfl,?_⟩) ?_
 rotate_left
 ·intro w0;first|(go_simp;done)|(go_simp;with_reducible rfl)
 go_simp
 refine wpAny_take (i:=2) (v:=?_) rfl (by kernel_rfl) (by kernel_rfl) (by kernel_rfl) (λ_ _ _ h=>h) (Or.inl ⟨by rfl,?_⟩) ?_
 rotate_left
 ·intro w0;first|(go_simp;done)|(go_simp;with_reducible rfl)
 go_simp
 refine wpAny_take (i:=4) (v:=?_) rfl (by kernel_rfl) (by kernel_rfl) (by kernel_rfl) (λ_ _ _ h=>h) (Or.inl ⟨by rfl,?_⟩) ?_
 rotate_left
 ·intro w0;first|(go_simp;done)|(go_simp;with_reducible rfl)
 go_simp
 refine wpAny_ready (rs:=[3,5]) (by kernel_rfl) (by simp) ?_;refine AllReady.cons rfl (λK c=>?_) (AllReady.cons rfl (λK c=>?_) AllReady.nil)
 dsimp only[List.getElem_toArray,List.getElem_cons_succ,List.getElem_cons_zero]
 go_simp
 refine c _ _ ?_;clear c K;refine wpAny_ready (rs:=[5]) (by kernel_rfl) (by simp) ?_;refine AllReady.cons rfl (λK c=>?_) AllReady.nil
 dsimp only[List.getElem_toArray,List.getElem_cons_succ,List.getElem_cons_zero]
 rw[if_pos (by rfl)];refine qan 97 #[.slice a l.length cap] (by go_simp) k ?_;rintro e t ⟨m,(⟨u,v,g,rfl⟩|⟨g,rfl⟩)⟩
 rotate_left
 ·exact .inr ⟨_,rfl,rfl,d.out.no (by decide) g.out (qab (Below.refl _ w).drew m)⟩
 dsimp only[List.getElem_toArray,List.getElem_cons_succ,List.getElem_cons_zero]
 rw[if_pos (by rfl)];refine qan 97 #[.slice a l.length cap] (by go_simp) k ?_;rintro e t ⟨m,(⟨u,v,g,rfl⟩|⟨g,rfl⟩)⟩
 rotate_left
 ·exact .inr ⟨_,rfl,rfl,d.out.no (by decide) g.out (qab (Below.refl _ w).drew m)⟩
 all_goals
  have n:=qab (Below.refl _ w).drew m;have c1:=(d.out.ck.later n).cell0;have x:=jar u v t (d.out.ck.later n).pw d.out.wi;refine .inl ⟨_,rfl,?_⟩
  go_simp
  refine c _ _ ?_;clear c K;refine wpAny_take (i:=6) (v:=?_) rfl (by kernel_rfl) (by kernel_rfl) (by kernel_rfl) (λ_ _ _ h=>h) (Or.inl ⟨by rfl,?_⟩) ?_
  rotate_left
  ·intro w0;first|(go_simp;done)|(go_simp;with_reducible rfl)
  go_simp
  refine wpAny_take (i:=7) (v:=?_) rfl (by kernel_rfl) (by kernel_rfl) (by kernel_rfl) (λ_ _ _ h=>h) (Or.inl ⟨by rfl,?_⟩) ?_
  rotate_left
  ·intro w0;first|(go_simp;done)|(go_simp;with_reducible rfl)
  go_simp
 rotate_left
 refine wpAny_ready (rs:=[3]) (by kernel_rfl) (by simp) ?_;refine AllReady.cons rfl (λK c=>?_) AllReady.nil
 dsimp only[List.getElem_toArray,List.getElem_cons_succ,List.getElem_cons_zero]
 go_simp
 refine c _ _ ?_;clear c K
 all_goals
  refine wpAny_ready (rs:=[8]) (by kernel_rfl) (by simp) ?_;refine AllReady.cons rfl (λK c=>?_) AllReady.nil
  dsimp only[List.getElem_toArray,List.getElem_cons_succ,List.getElem_cons_zero]
  rw[if_pos (by rfl)];refine qan 106 #[.pointer (some ⟨b,0,none⟩),.int .i64 u,.int .i64 v] (by go_simp) x ?_;rintro e w2 ⟨W',er,y,rfl,r⟩;have z:=qcp er w2 (d.out.gl2 n r);have s:Hid (∀e o,Below w2.heap.size w2 o->qkf er (qaj 8) e->qa3 8 W l w cb mb G e o):=λe o p B=>d.out.yes (by decide) g.out n (y.data (by decide)) r p B;clear y r c1 c0 x;refine .inl ⟨_,rfl,?_⟩
  go_simp
  refine c _ _ ?_;clear c K;refine wpAny_ready (rs:=[9]) (by kernel_rfl) (by simp) ?_;refine AllReady.cons rfl (λK c=>?_) AllReady.nil
  dsimp only[List.getElem_toArray,List.getElem_cons_succ,List.getElem_cons_zero]
  rw[if_pos (by rfl)];refine qan 66 #[qbq er] (by go_simp) z ?_;rintro e o ⟨p,(⟨q,rfl⟩|⟨q,rfl⟩)⟩
  rotate_left
  ·exact .inr ⟨_,rfl,rfl,s.out _ _ p (.inr ⟨q,rfl⟩)⟩
  have C:=s.out _ _ p (.inl ⟨q,rfl⟩);clear q s z;refine .inl ⟨_,rfl,?_⟩
  go_simp
  refine c _ _ ?_;clear c K;refine wpAny_done (by kernel_rfl) ?_ _
  go_wp2
  go_ret;exact C
theorem jbi (w:World) (h:qdm w cb mb b Gw G W j a cap l):Calls prog 58 #[.pointer (some ⟨cb,0,none⟩),.slice a l.length cap] w (qa3 12 W l w cb mb G):=by
 have d:Hid _:=h;have k:=λw' hb=>qle h.sm w' (h.gl.later (w':=w') hb) (h.st.later hb);replace k:=k w.drew (Below.refl _ w).drew;have c0:=h.ck.cell0;clear h;go_enter func58,ntmps58
 go_wp2
 refine wp_region_any (by kernel_rfl) ?_;change wpAny _ _ _ _ _ _ _ (World.drew _);refine wpAny_take (i:=0) (v:=?_) rfl (by kernel_rfl) (by kernel_rfl) (by kernel_rfl) (λ_ _ _ h=>h) (Or.inl ⟨by rfl,?_⟩) ?_
 rotate_left
 ·intro w0;first|(go_simp;done)|(go_simp;with_reducible rfl)
 go_simp
 refine wpAny_take (i:=1) (v:=?_) rfl (by kernel_rfl) (by kernel_rfl) (by kernel_rfl) (λ_ _ _ h=>h) (Or.inl ⟨by rfl,?_⟩) ?_
 rotate_left
 ·intro w0;first|(go_simp;done)|(go_simp;with_reducible rfl)
 go_simp
 refine wpAny_take (i:=2) (v:=?_) rfl (by kernel_rfl) (by kernel_rfl) (by kernel_rfl) (λ_ _ _ h=>h) (Or.inl ⟨by rfl,?_⟩) ?_
 rotate_left
 ·intro w0;first|(go_simp;done)|(go_simp;with_reducible rfl)
 go_simp
 refine wpAny_take (i:=4) (v:=?_) rfl (by kernel_rfl) (by kernel_rfl) (by kernel_rfl) (λ_ _ _ h=>h) (Or.inl ⟨by rfl,?_⟩) ?_
 rotate_left
 ·intro w0;first|(go_simp;done)|(go_simp;with_reducible rfl)
 go_simp
 refine wpAny_ready (rs:=[3,5]) (by kernel_rfl) (by simp) ?_;refine AllReady.cons rfl (λK c=>?_) (AllReady.cons rfl (λK c=>?_) AllReady.nil)
 dsimp only[List.getElem_toArray,List.getElem_cons_succ,List.getElem_cons_zero]
 go_simp
 refine c _ _ ?_;clear c K;refine wpAny_ready (rs:=[5]) (by kernel_rfl) (by simp) ?_;refine AllReady.cons rfl (λK c=>?_) AllReady.nil
 dsimp only[List.getElem_toArray,List.getElem_cons_succ,List.getElem_cons_zero]
 rw[if_pos (by rfl)];refine qan 97 #[.slice a l.length cap] (by go_simp) k ?_;rintro e t ⟨m,(⟨u,v,g,rfl⟩|⟨g,rfl⟩)⟩
 rotate_left
 ·exact .inr ⟨_,rfl,rfl,d.out.no (by decide) g.out (qab (Below.refl _ w).drew m)⟩
 dsimp only[List.getElem_toArray,List.getElem_cons_succ,List.getElem_cons_zero]
 rw[if_pos (by rfl)];refine qan 97 #[.slice a l.length cap] (by go_simp) k ?_;rintro e t ⟨m,(⟨u,v,g,rfl⟩|⟨g,rfl⟩)⟩
 rotate_left
 ·exact .inr ⟨_,rfl,rfl,d.out.no (by decide) g.out (qab (Below.refl _ w).drew m)⟩
 all_goals
  have n:=qab (Below.refl _ w).drew m;have c1:=(d.out.ck.later n).cell0;have x:=jai u v t (d.out.ck.later n).pw;refine .inl ⟨_,rfl,?_⟩
  go_simp
  refine c _ _ ?_;clear c K;refine wpAny_take (i:=6) (v:=?_) rfl (by kernel_rfl) (by kernel_rfl) (by kernel_rfl) (λ_ _ _ h=>h) (Or.inl ⟨by rfl,?_⟩) ?_
  rotate_left
  ·intro w0;first|(go_simp;done)|(go_simp;with_reducible rfl)
  go_simp
  refine wpAny_take (i:=7) (v:=?_) rfl (by kernel_rfl) (by kernel_rfl) (by kernel_rfl) (λ_ _ _ h=>h) (Or.inl ⟨by rfl,?_⟩) ?_
  rotate_left
  ·intro w0;first|(go_simp;done)|(go_simp;with_reducible rfl)
  go_simp
 rotate_left
 refine wpAny_ready (rs:=[3]) (by kernel_rfl) (by simp) ?_;refine AllReady.cons rfl (λK c=>?_) AllReady.nil
 dsimp only[List.getElem_toArray,List.getElem_cons_succ,List.getElem_cons_zero]
 go_simp
 refine c _ _ ?_;clear c K
 all_goals
  refine wpAny_ready (rs:=[8]) (by kernel_rfl) (by simp) ?_;refine AllReady.cons rfl (λK c=>?_) AllReady.nil
  dsimp only[List.getElem_toArray,List.getElem_cons_succ,List.getElem_cons_zero]
  rw[if_pos (by rfl)];refine qan 112 #[.pointer (some ⟨b,0,none⟩),.int .i64 u,.int .i64 v] (by go_simp) x ?_;rintro e w2 ⟨W',er,y,rfl,r⟩;have z:=qcp er w2 (d.out.gl2 n r);have s:Hid (∀e o,Below w2.heap.size w2 o->qkf er (qaj 12) e->qa3 12 W l w cb mb G e o):=λe o p B=>d.out.yes (by decide) g.out n (y.data (by decide)) r p B;clear y r c1 c0 x;refine .inl ⟨_,rfl,?_⟩
  go_simp
  refine c _ _ ?_;clear c K;refine wpAny_ready (rs:=[9]) (by kernel_rfl) (by simp) ?_;refine AllReady.cons rfl (λK c=>?_) AllReady.nil
  dsimp only[List.getElem_toArray,List.getElem_cons_succ,List.getElem_cons_zero]
  rw[if_pos (by rfl)];refine qan 66 #[qbq er] (by go_simp) z ?_;rintro e o ⟨p,(⟨q,rfl⟩|⟨q,rfl⟩)⟩
  rotate_left
  ·exact .inr ⟨_,rfl,rfl,s.out _ _ p (.inr ⟨q,rfl⟩)⟩
  have C:=s.out _ _ p (.inl ⟨q,rfl⟩);clear q s z;refine .inl ⟨_,rfl,?_⟩
  go_simp
  refine c _ _ ?_;clear c K;refine wpAny_done (by kernel_rfl) ?_ _
  go_wp2
  go_ret;exact C
end
end
section
open Tryz Go.RowKit
section
variable {cb mb b j cap:Nat} {Gw G:Nat->Prop} {W:WoS} {a:Option Addr} {l:List ByteArray}
theorem qzs (w:World) (h:qdm w cb mb b Gw G W j a cap l) {r:List Int} (g:qb5 1 l=some r):Calls prog 50 #[.pointer (some ⟨cb,0,none⟩),.slice a l.length cap] w (qa3 4 W l w cb mb G):=by
 have m:Hid _:=h
 obtain⟨v,rfl⟩:∃v,r=[v]:=by
  unfold qb5 at g;split at g
  ·rename_i q;exact List.length_eq_one_iff.1 ((qdi g).trans q)
  ·cases g
 have V:Hid (∀w',Below w.heap.size w w'->Calls prog 95 #[.slice a l.length cap] w' λe w2=>e=.returned (.int .i64 v)/\Below w'.heap.size w' w2):=λw' hb=>(qfx h.sm w' (h.gl.later hb) (h.st.later hb)).mono λe w2 ⟨D,i⟩=>by
  rcases i with ⟨u,J,he⟩|⟨J,_⟩
  ·have:=J.out;rw[g]at this;injection this with this;injection this with this;rw[this];exact⟨he,D⟩
  ·have:=J.out;rw[g]at this;cases this
 obtain⟨at_,p0,p1,p2,p3,s0,s1,s2,s3,E,er,X,Y⟩:=qu1 (b:=b) (G:=Gw) v h.di;have Z:Hid (∀w',Below w.heap.size w w'->Calls prog 101 #[.pointer (some ⟨b,0,none⟩),.int .i64 v] w' λe w2=>e=.returned (.tuple #[.int .i64 at_,.agg #[.int .i64 p0,.int .i64 p1,.int .i64 p2,.int .i64 p3],.agg #[.int .i64 s0,.int .i64 s1,.int .i64 s2,.int .i64 s3],.bool E,qbq er])/\Below w'.heap.size w' w2):=λw' hb=>Y w' (h.ck.later hb).pw;have n:Hid (jdq W v at_ p0 p1 p2 p3 s0 s1 s2 s3 E er/\qb5 1 l=some [v]):=⟨X,g⟩;have c0:=h.ck.cell0;have X0:=λ(w':World) (h:Below w.heap.size w w')=>cell_later h c0;clear h g Y X c0;go_enter func50,ntmps50
 go_wp2
 go_cut [5,6,7,8,9] (λt5 t6 t7 t8 t9 K=>∃p s:Nat,t5=.int .i64 at_/\t6=.pointer (some ⟨p,0,none⟩)/\t7=.pointer (some ⟨s,0,none⟩)/\t8=.bool E/\t9=qbq er/\Below w.heap.size w K/\qa9 K p p0 p1 p2 p3/\qa9 K s s0 s1 s2 s3)
 case first=>
  go_region_held3 (λw'=>Below w.heap.size w w') ((repeat (first|(with_reducible assumption)|(with_reducible refine boxed ?_ _)|(with_reducible refine Below.drew ?_)|(with_reducible refine Below.setCell ?_ (by first|(simp;done)|(simp;omega)) _)|(with_reducible exact Below.refl _ _))))
   (first|(go_at_call 95;refine(V.out _ (by with_reducible assumption)).mono ?_;rintro e wa ⟨rfl,y⟩;have hS:Below w.heap.size w wa:=qab (by with_reducible assumption) y;have hla:=hS.size;obtain⟨hc1,hf1⟩:=qhg y;have hz1:=blt y;have n1:=bne y;have m1:=jej y)|(go_at_call 101;refine(Z.out _ (by with_reducible assumption)).mono ?_;rintro e wb ⟨rfl,z⟩;have hSb:Below w.heap.size w wb:=qab (by with_reducible assumption) z;have hlb:=hSb.size;have hab:Below wa.heap.size wa wb:=(by first|exact z|exact qab (boxed (Below.refl _ _) _) z|exact qab (boxed (boxed (Below.refl _ _) _) _) z);have h12:=qab y hab;obtain⟨hc2,hf2⟩:=qhg z;obtain⟨hc3,hf3⟩:=qhg h12;have hz2:=blt z;have hz3:=blt h12))
  all_goals
   go_wp2
   go_meet
   case rel=>
        refine⟨_,_,rfl,rfl,rfl,rfl,rfl,by assumption,?_,?_⟩
        ·(repeat (first|(with_reducible refine qa9.newest ?_;(first|rfl|(simp;done)))|(with_reducible refine qa9.boxed ?_ _)|(with_reducible refine qa9.set (a0:=0) (a1:=0) (a2:=0) (a3:=0) ?_)|(with_reducible refine qa9.far4 ?_ ?_;rotate_left;(first|(simp;done)|(simp;omega)|omega))));all_goals (constructor<;>go_simp)
        ·(repeat (first|(with_reducible refine qa9.newest ?_;(first|rfl|(simp;done)))|(with_reducible refine qa9.boxed ?_ _)|(with_reducible refine qa9.set (a0:=0) (a1:=0) (a2:=0) (a3:=0) ?_)|(with_reducible refine qa9.far4 ?_ ?_;rotate_left;(first|(simp;done)|(simp;omega)|omega))));all_goals (constructor<;>go_simp)
 case rest=>
  obtain⟨p,s,rfl,rfl,rfl,rfl,rfl,L,R6,R7⟩:=hcut;have B:Hid (Below w.heap.size w wc/\qa9 wc p p0 p1 p2 p3/\qa9 wc s s0 s1 s2 s3):=⟨L,R6,R7⟩;have MU:=qcp er wc (m.out.gl.later L);clear L R6 R7 X0 V Z
  go_wp2_with fail
  refine MU.mono ?_;rintro e d ⟨C,(⟨F,rfl⟩|⟨F,rfl⟩)⟩
  rotate_left
  ·exact⟨rfl,m.out.told (by decide) n.out.2 n.out.1.cmd (qab B.out.1 C) (.inr ⟨F,rfl⟩)⟩
  have M:=qab B.out.1 C;have wf:=n.out.1.wf;have N:Below w.heap.size w ((d.alloc (.cells #[.int .i64 at_] 3)).drew):=(boxed M _).drew;have O:=qdz (b:=d.heap.size) (o:=0) (cap:=1) (l:=[at_]) (by simp) (by simp) (λx c=>wf x (by simp at c;simp[c])) ((d.alloc (.cells #[.int .i64 at_] 3)).drew) (m.out.gl.later N) (by simp) (qf2 (w:=d) (T:=3) [at_])
  dsimp only[List.length_cons,List.length_nil,Nat.reduceAdd]at O
  have Q:Hid (∀w',Below w.heap.size w w'->Below d.heap.size d w'->Calls prog 102 #[.slice (some ⟨p,0,none⟩) 4 4] w' λe w2=>e=.returned (.string (bya (qbc [p0,p1,p2,p3])))/\Below w'.heap.size w' w2):=λw' D i=>qdz (b:=p) (o:=0) (cap:=4) (l:=[p0,p1,p2,p3]) (by simp) (by simp) (λx c=>wf x (by simp at c ⊢;rcases c with e|e|e|e<;>simp[e])) w' (m.out.gl.later D) (Nat.lt_of_lt_of_le (B.out.2.1.later C).lt i.size) (qpd ((B.out.2.1.later C).later i));have R:Hid (∀w',Below w.heap.size w w'->Below d.heap.size d w'->Calls prog 102 #[.slice (some ⟨s,0,none⟩) 4 4] w' λe w2=>e=.returned (.string (bya (qbc [s0,s1,s2,s3])))/\Below w'.heap.size w' w2):=λw' D i=>qdz (b:=s) (o:=0) (cap:=4) (l:=[s0,s1,s2,s3]) (by simp) (by simp) (λx c=>wf x (by simp at c ⊢;rcases c with e|e|e|e<;>simp[e])) w' (m.out.gl.later D) (Nat.lt_of_lt_of_le (B.out.2.2.later C).lt i.size) (qpd ((B.out.2.2.later C).later i))
  have l1:(qbc [at_]).length<=22:=by have:=qb7 (l:=[at_]) (λx c=>wf x (by simp at c;simp[c]));simpa using this
  have l2:(qbc [p0,p1,p2,p3]).length<=88:=by have:=qb7 (l:=[p0,p1,p2,p3]) (λx c=>wf x (by simp at c ⊢;rcases c with e|e|e|e<;>simp[e]));simpa using this
  have l3:(qbc [s0,s1,s2,s3]).length<=88:=by have:=qb7 (l:=[s0,s1,s2,s3]) (λx c=>wf x (by simp at c ⊢;rcases c with e|e|e|e<;>simp[e]));simpa using this
  have A1:=λw=>qnh (P:=prog) (bya (qbc [at_])) ⟨#[44,32]⟩ (by simp[qcc];omega) w;have A2:=λw=>qnh (P:=prog) (bya (qbc [at_])++⟨#[44,32]⟩) (bya (qbc [p0,p1,p2,p3])) (by simp[qcc];omega) w;have A3:=λw=>qnh (P:=prog) ⟨#[44,32]⟩ (bya (qbc [s0,s1,s2,s3])) (by simp[qcc];omega) w;have A4:=λw=>qnh (P:=prog) (bya (qbc [at_])++⟨#[44,32]⟩++bya (qbc [p0,p1,p2,p3])) (⟨#[44,32]⟩++bya (qbc [s0,s1,s2,s3])) (by simp[qcc];omega) w;clear l1 l2 l3;have H:Hid (∀w',Below w.heap.size w w'->qa3 4 W l w cb mb G (.returned (.string (bya (qbc [at_]++[44,32]++qbc [p0,p1,p2,p3]++if E=true then [44,32]++qbc [s0,s1,s2,s3]else [])))) w'):=λw' hb=>m.out.told (by decide) n.out.2 n.out.1.cmd hb (.inl ⟨F,by rw[if_pos F]⟩);have HX3:Hid _:=M;clear F M wf MU n;have hw3:Below d.heap.size d ((d.alloc (.cells #[.int .i64 at_] 3)).drew):=(boxed (Below.refl _ d) _).drew
  go_wp2
  go_region_with (first|(go_at_call 102;(with_reducible refine O.mono ?_);rintro e S ⟨rfl,hb4⟩;have hb4w:Below w.heap.size w S:=qab N hb4;have hb43:Below d.heap.size d S:=qab hw3 hb4;have BL2:=Q.out S hb4w hb43)|(go_at_call 102;(with_reducible refine BL2.mono ?_);rintro e I ⟨rfl,hb5⟩;have U:Below w.heap.size w I:=qab hb4w hb5;have hb53:Below d.heap.size d I:=qab hb43 hb5))
  all_goals
   clear O BL2 N hw3;cases E
   ·have k:=H.out I U;rw[if_neg (by simp)]at k
    rw[show bya (qbc [at_]++[44,32]++qbc [p0,p1,p2,p3]++[])=bya (qbc [at_])++⟨#[44,32]⟩++bya (qbc [p0,p1,p2,p3]) by
     rw[show (⟨#[44,32]⟩:ByteArray)=bya [44,32]from rfl,qbo,qbo];simp]at k
    clear Q R H A1 A2 A3 A4
    go_wp2
    go_ret;exact k
   ·have BL3:=R.out I U hb53
    go_wp2_with fail
    refine BL3.mono ?_;rintro e w6 ⟨rfl,hb6⟩;have k:=H.out w6 (qab U hb6);rw[if_pos (by trivial)]at k
    rw[show bya (qbc [at_]++[44,32]++qbc [p0,p1,p2,p3]++([44,32]++qbc [s0,s1,s2,s3]))=bya (qbc [at_])++⟨#[44,32]⟩++bya (qbc [p0,p1,p2,p3])++(⟨#[44,32]⟩++bya (qbc [s0,s1,s2,s3])) by
     rw[show (⟨#[44,32]⟩:ByteArray)=bya [44,32]from rfl,qbo,qbo,qbo,qbo]]at k
    clear Q R H BL3
    go_wp2
    go_ret;exact k
theorem q4a (w:World) (h:qdm w cb mb b Gw G W j a cap l):Calls prog 50 #[.pointer (some ⟨cb,0,none⟩),.slice a l.length cap] w (qa3 4 W l w cb mb G):=by
 cases hn:qb5 1 l with
 |none=>exact q4q w h hn
 |some r=>exact qzs w h hn
end
end
section
open Go.RowKit
structure qq5 (w:World) (b:Nat) (vs:List Value):Prop where
 cell:∀j v,vs[j]?=some v->w.cell? ⟨b,j,none⟩=some v
 lt:b<w.heap.size
variable {w w':World} {b:Nat} {vs:List Value}
theorem qq5.kept (h:qq5 w b vs) (e:w'.heap[b]?=w.heap[b]?) (hs:w.heap.size<=w'.heap.size):qq5 w' b vs:=
 ⟨λj v c=>by rw[World.cell?_of_block (w:=w) e];exact h.cell j v c,Nat.lt_of_lt_of_le h.lt hs⟩
theorem qq5.later (h:qq5 w b vs) (hb:Below w.heap.size w w'):qq5 w' b vs:=h.kept (hb.block b h.lt) hb.size
theorem qq5.far (h:qq5 w b vs) (p:Addr) (u:Value) (c:p.block≠b):qq5 (w.setCell p u) b vs:=h.kept (Below.heap_setCell _ _ _ _ (Ne.symm c)) (by simp[World.setCell])
theorem qq5.boxed (h:qq5 w b vs) (o:Obj):qq5 (w.alloc o) b vs:=h.kept (Below.heap_alloc _ _ _ h.lt) (by simp)
theorem qq5.drew (h:qq5 w b vs):qq5 w.drew b vs:=h.kept rfl (Nat.le_refl _)
structure jem (W:WoS) (k a0 a1 a2 a3 wn vn er:Int) (tx:List ByteArray):Prop where
 cmd:qd3 14 W [k] ⟨#[]⟩ W er (if er=0 then qbc [a0,a1,a2,a3]++[44,32]++qbc [wn,vn]++[44,32]++Lib.join (tx.map (·.data.toList)) [32]else [])
 wf:∀x∈[a0,a1,a2,a3,wn,vn],wfI x
 tl:tx.length=8
 ts:∀x∈tx,x.size<=13
def jcy (w w':World) (tx:List ByteArray) (v:Value):Prop:=∃tb tc,v=.slice (some ⟨tb,0,none⟩) 8 tc/\8<=tc/\qq5 w' tb (tx.map Value.string)/\w.heap.size<=tb
theorem qpj {a0 a1 a2 a3:Int} {l:List Hd} {key:Int} (h:∀x∈l,qd2 x.v=true):(qhh a0 a1 a2 a3 l key).size<=13:=by
 unfold qhh;split
 ·have:=qo9 (key:=key) (a0:=a0) (a1:=a1) (a2:=a2) (a3:=a3) h;rw[ByteArray.size_append];show 1+_<=13;omega
 ·exact Nat.zero_le _
theorem q1y {G:Nat->Prop} {W:WoS} (k:Int) (B:DkI W):∃a0 a1 a2 a3 wn r er s,jem W k a0 a1 a2 a3 wn r er s/\∀w,PW w b G W->Calls Tryz.prog 114 #[.pointer (some ⟨b,0,none⟩),.int .i64 k] w λe w'=>∃v,e=.returned (.tuple #[.agg #[.int .i64 a0,.int .i64 a1,.int .i64 a2,.int .i64 a3],.int .i64 wn,v,.int .i64 r,qbq er])/\Hid (er=0->jcy w w' s v)/\Below w.heap.size w w':=by
 obtain⟨j,o⟩:=B.pl;by_cases m:qbt k W.n
 ·obtain⟨i,rfl,hi,e⟩:=qca m;have hs:=o.wf.inv i hi;have L:=o.wf.wt i hi;have M:=hs.len;have N:=hs.log;refine⟨_,_,_,_,_,_,0,(List.range 8).map (λ(q:Nat)=>qhh (W.S i).a0 (W.S i).a1 (W.S i).a2 (W.S i).a3 (W.S i).l q),⟨⟨rfl,by rw[if_pos m,if_pos rfl];exact⟨by unfold qn2 qej;rw[List.map_map];rfl,rfl⟩⟩,λx c=>?_,by simp,λx c=>?_⟩,λw h=>(jax w h o.wf hi).mono λe w' ⟨v,p,d,C⟩=>⟨v,p,λ_=>?_,C⟩⟩
  ·simp only[List.mem_cons,List.not_mem_nil,or_false]at c;rcases c with rfl|rfl|rfl|rfl|rfl|rfl
   ·exact qbm hs.a0
   ·exact qbm hs.a1
   ·exact qbm hs.a2
   ·exact qbm hs.a3
   ·exact⟨by omega,by omega⟩
   ·exact⟨by omega,by omega⟩
  ·obtain⟨q,_,rfl⟩:=List.mem_map.1 c;exact qpj hs.ok
  ·obtain⟨t,u,rfl,D,E⟩:=d.form (by decide);have F:=d.cells (g:=t) rfl
   have H:8<=u:=by
        rcases d.2 with ⟨h,_⟩|⟨g',O,cur,I,_,_,J,_⟩
        ·cases h
        ·cases I;exact J
   refine⟨t,u,rfl,H,⟨λq y z=>?_,E⟩,D⟩;rw[List.map_map]at z;have:=F q y z;rcases Nat.eq_zero_or_pos q with rfl|K
   ·simpa[Addr.add]using this
   ·simpa[Addr.add,Nat.ne_of_gt K]using this
 ·refine⟨0,0,0,0,0,0,2,List.replicate 8 ⟨#[]⟩,⟨⟨rfl,by rw[if_neg m];exact⟨rfl,rfl⟩⟩,λx c=>?_,rfl,λx c=>?_⟩,λw h=>(qy3 k w h m).mono λe w' ⟨p,d⟩=>⟨_,p,λe=>(by cases e),d⟩⟩
  ·simp at c;subst c;exact⟨by decide,by decide⟩
  ·rw[(List.mem_replicate.1 c).2];decide
section
variable {cb mb b j cap:Nat} {Gw G:Nat->Prop} {W:WoS} {a:Option Addr} {l:List ByteArray}
theorem jav (w:World) (h:qdm w cb mb b Gw G W j a cap l) (c:qb5 1 l=none):Calls Tryz.prog 60 #[.pointer (some ⟨cb,0,none⟩),.slice a l.length cap] w (qa3 14 W l w cb mb G):=by
 have d:Hid _:=h
 have g:Hid (∀w',Below w.heap.size w w'->Calls Tryz.prog 95 #[.slice a l.length cap] w' λe w2=>e=qf0 3/\Below w'.heap.size w' w2):=λw' hb=>(qfx h.sm w' (h.gl.later hb) (h.st.later hb)).mono λe w2 ⟨i,k⟩=>by
  rcases k with ⟨v,m,_⟩|⟨_,n⟩
  ·rw[m.out]at c;cases c
  ·exact⟨n,i⟩
 have c0:=h.ck.cell0;have p:Hid _:=c;have r:∀o,(w.alloc o).cell? ⟨cb,0,none⟩=some (.pointer (some ⟨b,0,none⟩)):=λo=>cell_later (boxed (Below.refl _ w) o) c0;clear h c;go_enter Tryz.func60,Tryz.ntmps60
 go_wp2
 go_region_dies
 all_goals
  refine(g.out _ (by repeat (first|(with_reducible exact Below.refl _ _)|(with_reducible refine boxed ?_ _)|(with_reducible refine Below.drew ?_)))).mono ?_;rintro e wa ⟨rfl,q⟩;exact⟨rfl,d.out.no (by decide) p.out (qab (by repeat (first|(with_reducible exact Below.refl _ _)|(with_reducible refine boxed ?_ _)|(with_reducible refine Below.drew ?_))) q)⟩
end
end
section
open Tryz Go.RowKit
section
variable {cb mb b j cap:Nat} {Gw G:Nat->Prop} {W:WoS} {a:Option Addr} {l:List ByteArray}
theorem q7j (w:World) (h:qdm w cb mb b Gw G W j a cap l) {r:List Int} (k:qb5 1 l=some r):Calls prog 60 #[.pointer (some ⟨cb,0,none⟩),.slice a l.length cap] w (qa3 14 W l w cb mb G):=by
 have B:Hid _:=h
 obtain⟨v,rfl⟩:∃v,r=[v]:=by
  unfold qb5 at k;split at k
  ·rename_i q;exact List.length_eq_one_iff.1 ((qdi k).trans q)
  ·cases k
 have Q:Hid (∀w',Below w.heap.size w w'->Calls prog 95 #[.slice a l.length cap] w' λe w2=>e=.returned (.int .i64 v)/\Below w'.heap.size w' w2):=λw' hb=>(qfx h.sm w' (h.gl.later hb) (h.st.later hb)).mono λe w2 ⟨h1,C⟩=>by
  rcases C with ⟨u,L,he⟩|⟨L,_⟩
  ·have:=L.out;rw[k]at this;injection this with this;injection this with this;rw[this];exact⟨he,h1⟩
  ·have:=L.out;rw[k]at this;cases this
 obtain⟨a0,a1,a2,a3,wn,c,er,i,R,S⟩:=q1y (b:=b) (G:=Gw) v h.di;have U:Hid (∀w',Below w.heap.size w w'->Calls prog 114 #[.pointer (some ⟨b,0,none⟩),.int .i64 v] w' λe w2=>∃v,e=.returned (.tuple #[.agg #[.int .i64 a0,.int .i64 a1,.int .i64 a2,.int .i64 a3],.int .i64 wn,v,.int .i64 c,qbq er])/\Hid (er=0->jcy w' w2 i v)/\Below w'.heap.size w' w2):=λw' hb=>S w' (h.ck.later hb).pw;have g:Hid (jem W v a0 a1 a2 a3 wn c er i/\qb5 1 l=some [v]):=⟨R,k⟩;have c0:=h.ck.cell0;have X0:=λ(w':World) (h:Below w.heap.size w w')=>cell_later h c0;clear h k S R c0;go_enter func60,ntmps60
 go_wp2
 go_cut [5,6,7,8,9] (λt5 t6 t7 t8 t9 M=>∃D:Nat,t5=.pointer (some ⟨D,0,none⟩)/\t6=.int .i64 wn/\t8=.int .i64 c/\t9=qbq er/\Below w.heap.size w M/\qa9 M D a0 a1 a2 a3/\Hid (er=0->∃n p,t7=.slice (some ⟨n,0,none⟩) 8 p/\8<=p/\qq5 M n (i.map Value.string)))
 case first=>
  go_region_held3 (λw'=>Below w.heap.size w w') ((repeat (first|(with_reducible assumption)|(with_reducible refine boxed ?_ _)|(with_reducible refine Below.drew ?_)|(with_reducible refine Below.setCell ?_ (by first|(simp;done)|(simp;omega)) _)|(with_reducible exact Below.refl _ _))))
   (first|(go_at_call 95;refine(Q.out _ (by with_reducible assumption)).mono ?_;rintro e wa ⟨rfl,s⟩;have hS:Below w.heap.size w wa:=qab (by with_reducible assumption) s;have hla:=hS.size;obtain⟨hc1,hf1⟩:=qhg s;have hz1:=blt s;have n1:=bne s;have m1:=jej s)|(go_at_call 114;refine(U.out _ (by with_reducible assumption)).mono ?_;rintro e V ⟨v7,rfl,hT,E⟩;have hSb:Below w.heap.size w V:=qab (by with_reducible assumption) E;have hlb:=hSb.size;have hab:Below wa.heap.size wa V:=(by first|exact E|exact qab (boxed (Below.refl _ _) _) E);have X:=qab s hab;obtain⟨hc2,hf2⟩:=qhg E;obtain⟨hc3,hf3⟩:=qhg X;have hz2:=blt E;have hz3:=blt X))
  all_goals
   go_wp2
   go_meet
   case rel=>
        refine⟨_,rfl,rfl,rfl,rfl,by assumption,?_,?_⟩
        ·(repeat (first|(with_reducible refine qa9.newest ?_;(first|rfl|(simp;done)))|(with_reducible refine qa9.boxed ?_ _)|(with_reducible refine qa9.set (a0:=0) (a1:=0) (a2:=0) (a3:=0) ?_)|(with_reducible refine qa9.far4 ?_ ?_;rotate_left;(first|(simp;done)|(simp;omega)|omega))));all_goals (constructor<;>go_simp)
        ·intro m;obtain⟨n,p,e1,e2,Y,e4⟩:=hT.out m;have e5:=Y.lt;have q1:=s.size
         try simp at e4
         try simp at q1
         refine⟨n,p,e1,e2,?_⟩
         repeat (first|(with_reducible exact Y)|(with_reducible refine qq5.boxed ?_ _)|(with_reducible refine qq5.drew ?_)|(with_reducible refine qq5.far ?_ _ _ ?_;rotate_left;(first|(simp;done)|(simp;omega)|omega)))
 case rest=>
  obtain⟨D,rfl,rfl,rfl,rfl,N,Z,HT⟩:=hcut;have I:Hid (Below w.heap.size w wc/\qa9 wc D a0 a1 a2 a3):=⟨N,Z⟩;have MU:=qcp er wc (B.out.gl.later N);clear N Z X0 Q U
  go_wp2_with fail
  refine MU.mono ?_;rintro e z ⟨F,(⟨m,rfl⟩|⟨m,rfl⟩)⟩
  rotate_left
  ·exact⟨rfl,B.out.told (by decide) g.out.2 g.out.1.cmd (qab I.out.1 F) (.inr ⟨m,rfl⟩)⟩
  obtain⟨n,p,rfl,h8,hR⟩:=HT.out m;have K:=qab I.out.1 F;have wf:=g.out.1.wf;have O:=qdz (b:=D) (o:=0) (cap:=4) (l:=[a0,a1,a2,a3]) (by simp) (by simp) (λx d=>wf x (by simp at d ⊢;rcases d with e|e|e|e<;>simp[e])) z (B.out.gl.later K) (I.out.2.later F).lt (qpd (I.out.2.later F));have BLB:Hid (∀w',Below z.heap.size z w'->Calls prog 102 #[.slice (some ⟨w'.heap.size,0,none⟩) 2 2] (w'.alloc (.cells #[.int .i64 wn,.int .i64 c] 3)) λe w2=>e=.returned (.string (bya (qbc [wn,c])))/\Below (w'.alloc (.cells #[.int .i64 wn,.int .i64 c] 3)).heap.size (w'.alloc (.cells #[.int .i64 wn,.int .i64 c] 3)) w2):=λw' C=>qdz (b:=w'.heap.size) (o:=0) (cap:=2) (l:=[wn,c]) (by simp) (by simp) (λx d=>wf x (by simp at d ⊢;rcases d with e|e<;>simp[e])) _ (B.out.gl.later (boxed (qab K C) _)) (by simp) (qf2 (w:=w') (T:=3) [wn,c])
  have JN:Hid (∀w',Below z.heap.size z w'->Calls prog 42 #[.slice (some ⟨n,0,none⟩) 8 p,.string ⟨#[32]⟩] w' λe w2=>e=.returned (.string (bya (Lib.join (i.map (·.data.toList)) [32])))/\Below w'.heap.size w' w2):=λw' C=>by
   have hr:=(hR.later F).later C
   have J:=Tryz.strings_Join n 0 p i ⟨#[32]⟩ w' (λq y H=>by rw[Nat.zero_add];exact hr.cell q _ (by rw[List.getElem?_map,H];rfl)) hr.lt (by rw[g.out.1.tl];decide) (by rw[g.out.1.tl];exact h8) (by
        have:=qim 13 (i.map (·.data.toList)) (λy H=>by obtain⟨x,d,rfl⟩:=List.mem_map.1 H;exact g.out.1.ts x d);rw[List.length_map,g.out.1.tl]at this
        exact Nat.le_trans this (by decide))
   rw[g.out.1.tl]at J;exact J
  have l1:(qbc [a0,a1,a2,a3]).length<=88:=by have:=qb7 (l:=[a0,a1,a2,a3]) (λx d=>wf x (by simp at d ⊢;rcases d with e|e|e|e<;>simp[e]));simpa using this
  have l2:(qbc [wn,c]).length<=44:=by have:=qb7 (l:=[wn,c]) (λx d=>wf x (by simp at d ⊢;rcases d with e|e<;>simp[e]));simpa using this
  have l3:(Lib.join (i.map (·.data.toList)) [32]).length<=112:=by
   have:=qim 13 (i.map (·.data.toList)) (λy H=>by obtain⟨x,d,rfl⟩:=List.mem_map.1 H;exact g.out.1.ts x d);rw[List.length_map,g.out.1.tl]at this;exact this
  have A1:=λw=>qnh (P:=prog) (bya (qbc [a0,a1,a2,a3])) ⟨#[44,32]⟩ (by simp[qcc];omega) w;have A2:=λw=>qnh (P:=prog) (bya (qbc [a0,a1,a2,a3])++⟨#[44,32]⟩) (bya (qbc [wn,c])) (by simp[qcc];omega) w;have A3:=λw=>qnh (P:=prog) (bya (qbc [a0,a1,a2,a3])++⟨#[44,32]⟩++bya (qbc [wn,c])) ⟨#[44,32]⟩ (by simp[qcc];omega) w;have A4:=λw=>qnh (P:=prog) (bya (qbc [a0,a1,a2,a3])++⟨#[44,32]⟩++bya (qbc [wn,c])++⟨#[44,32]⟩) (bya (Lib.join (i.map (·.data.toList)) [32])) (by simp[qcc];omega) w;have HF:Hid (∀w',Below w.heap.size w w'->qa3 14 W l w cb mb G (.returned (.string (bya (qbc [a0,a1,a2,a3]++[44,32]++qbc [wn,c]++[44,32]++Lib.join (i.map (·.data.toList)) [32])))) w'):=λw' hb=>B.out.told (by decide) g.out.2 g.out.1.cmd hb (.inl ⟨m,by rw[if_pos m]⟩);have HX3:Hid _:=K
  dsimp only[List.length_cons,List.length_nil,Nat.reduceAdd]at O
  clear l1 l2 l3 m K wf MU g HT hR
  go_wp2_with fail
  refine O.mono ?_;rintro e w4 ⟨rfl,hb4⟩;have BL2:=BLB.out w4 hb4
  go_wp2_with fail
  refine BL2.mono ?_;rintro e w5 ⟨rfl,hb5⟩;have hb53:Below z.heap.size z w5:=qab (boxed hb4 _) hb5;have JJ:=JN.out w5 hb53
  go_wp2_with fail
  refine JJ.mono ?_;rintro e w6 ⟨rfl,hb6⟩;have HF0:=HF.out w6 (qab (qab HX3.out hb53) hb6)
  rw[show bya (qbc [a0,a1,a2,a3]++[44,32]++qbc [wn,c]++[44,32]++Lib.join (i.map (·.data.toList)) [32])=bya (qbc [a0,a1,a2,a3])++⟨#[44,32]⟩++bya (qbc [wn,c])++⟨#[44,32]⟩++bya (Lib.join (i.map (·.data.toList)) [32]) by
   rw[show (⟨#[44,32]⟩:ByteArray)=bya [44,32]from rfl,qbo,qbo,qbo,qbo]]at HF0
  clear BLB JN HF O BL2 JJ
  go_wp2
  go_ret;exact HF0
theorem jch (w:World) (h:qdm w cb mb b Gw G W j a cap l):Calls prog 60 #[.pointer (some ⟨cb,0,none⟩),.slice a l.length cap] w (qa3 14 W l w cb mb G):=by
 cases hn:qb5 1 l with
 |none=>exact jav w h hn
 |some r=>exact q7j w h hn
end
end
section
open Go.RowKit
structure jen (W:WoS) (k site seq wall count d0 d1 d2 d3 er:Int) (W':WoS) (told:List UInt8):Prop where
 cmd:qd3 5 W [k] ⟨#[]⟩ W' er told
 yes:er=0->told=if seq=0 then [110,111,116,104,105,110,103]else qbc [site,seq,wall,count]++[58,32]++qbc [d0,d1,d2,d3]
 wf:∀x∈[site,seq,wall,count,d0,d1,d2,d3],wfI x
theorem jc9 {t:TxP} (h:okT t=true):∀x∈[t.site,t.seq,t.wall,t.count,t.d0,t.d1,t.d2,t.d3],wfI x:=by
 simp only[okT,qdf,qay,qal,Bool.and_eq_true,qa5,decide_eq_true_eq]at h;intro x c;simp only[List.mem_cons,List.not_mem_nil,or_false]at c
 rcases c with rfl|rfl|rfl|rfl|rfl|rfl|rfl|rfl<;>exact⟨by omega,by omega⟩
variable {W:WoS}
theorem q9p {k:Nat} (i:DkI W) (g:k<W.c):∀x∈[(wcT W k).site,(wcT W k).seq,(wcT W k).wall,(wcT W k).count,(wcT W k).d0,(wcT W k).d1,(wcT W k).d2,(wcT W k).d3],wfI x:=by
 obtain⟨j,d⟩:=i.pl;by_cases q:0<(wcT W k).seq
 ·exact jc9 (d.told g q).1
 ·have z:wcT W k=⟨0,0,0,0,0,0,0,0,[]⟩:=by
   unfold wcT qe7 at q ⊢;split at q
   ·rename_i e;rw[if_pos e]
   ·rename_i e;rw[if_neg e];unfold qo6 at q ⊢;split at q
    ·rename_i f
     exfalso
     apply q
     have:=qjy (ws:=qb6 (W.ses k).ws) (d.wf.inv _ (d.wf.at_ k g)) f;simp only[okT,qdf,Bool.and_eq_true,qa5]at this;have:=this.1.1.1.1.2.1;omega
    ·rename_i f;rw[if_neg f]
  rw[z];intro x h;simp at h;subst h;exact⟨by decide,by decide⟩
theorem qur {b:Nat} {G:Nat->Prop} (k:Int) (p:DkI W):∃site seq wall count d0 d1 d2 d3 er W' told,jen W k site seq wall count d0 d1 d2 d3 er W' told/\∀w,PW w b G W->Calls Tryz.prog 103 #[.pointer (some ⟨b,0,none⟩),.int .i64 k] w λe w'=>∃wa n wc,e=.returned (.tuple #[.agg #[.int .i64 site,.int .i64 seq,.int .i64 wall,.int .i64 count,.int .i64 d0,.int .i64 d1,.int .i64 d2,.int .i64 d3,.slice wa n wc],qbq er])/\qd8 w b G W' w':=by
 obtain⟨j,r⟩:=p.pl;by_cases d:qbt k W.c
 ·obtain⟨i,rfl,hi,e⟩:=qca d
  refine⟨_,_,_,_,_,_,_,_,_,_,_,⟨by
   show qd3 5 W [(i:Int)] ⟨#[]⟩ (wcW W i) (wcE W i) (qji W i);unfold qd3;simp only;rw[if_pos d]
   exact⟨rfl,rfl,rfl⟩,λ_=>rfl,q9p p hi⟩,λw h=>(q4k w h r.wf hi (λq=>(r.told hi q).1)).mono λe w' ⟨m,g,o,u⟩=>?_⟩
  obtain⟨_,v,p1,p2,p3,_⟩:=u.out;refine⟨m.wa,m.t.ws.length,m.wc,?_,v,p1,p2,p3⟩;rw[g];unfold txV;rw[o]
 ·refine⟨0,0,0,0,0,0,0,0,2,W,[],⟨by
   show if qbt k W.c then _ else _
   rw[if_neg d]
   exact⟨rfl,rfl,rfl⟩,λe=>(by cases e),λx s=>?_⟩,λw h=>(quq k w h d).mono λe w' ⟨g,o⟩=>⟨none,0,0,g,qd8.same h o⟩⟩
  simp at s;subst s;exact⟨by decide,by decide⟩
section
variable {cb mb b j cap:Nat} {Gw G:Nat->Prop} {W:WoS} {a:Option Addr} {l:List ByteArray}
theorem qdm.opAt {w m r o:World} {W':WoS} {f:Nat} (h:qdm w cb mb b Gw G W j a cap l) (hb:Below w.heap.size w m) (s:qd8 m b Gw W' r) (y:w.heap.size<=f) (z:f<m.heap.size) (c:qae (λk=>k=f) r o):qg0 (ckP cb mb W') w G o/\Gl o:=by
 obtain⟨p,p1,p2,d⟩:=s;have n:=h.ck.later hb;have lc:cb<m.heap.size:=n.ltc;have lm:mb<m.heap.size:=n.map.lt;have A:=h.ck.ltc;have B:=h.ck.map.lt
 have t:¬p f:=λe=>by
  rcases p2 f e with q|q
  ·have:=h.ck.pw.lt f q;omega
  ·omega
 have ls:=d.size;refine⟨⟨λk=>k=cb\/k=mb\/p k,⟨b,p,⟨(c.block cb (by omega) (by omega)).trans ((d.block cb lc h.ck.n2).trans n.box),(n.map.kept (d.block mb lm h.ck.n3)).kept (c.block mb (by omega) (by omega)),p1.kept (λk e=>c.block k (p1.lt k e) (λu=>t (u▸e))) c.size,h.ck.n1,λe=>?_,λe=>?_⟩,λ_=>Iff.rfl⟩,λk i=>?_,?_⟩,?_⟩
 ·rcases p2 cb e with q|q
  ·exact h.ck.n2 q
  ·omega
 ·rcases p2 mb e with q|q
  ·exact h.ck.n3 q
  ·omega
 ·rcases i with rfl|rfl|e
  ·exact .inl ((h.g k).2 (.inl rfl))
  ·exact .inl ((h.g k).2 (.inr (.inl rfl)))
  ·rcases p2 k e with q|q
   ·exact .inl ((h.g k).2 (.inr (.inr q)))
   ·exact .inr (Nat.le_trans hb.size q)
 ·refine⟨c.os.trans (d.os.trans hb.os),c.tape.trans (d.tape.trans hb.tape),c.output.trans (d.output.trans hb.output),Nat.le_trans hb.size (Nat.le_trans d.size c.size),λk i v=>?_⟩;have x:=Nat.lt_of_lt_of_le i hb.size;rw[c.block k (by omega) (by omega),d.block k x (λe=>v ((h.g k).2 (.inr (.inr e)))),hb.block k i]
 ·have g1:=h.gl.later hb;have sz:=h.gl.sz;refine g1.kept (λk i=>?_) (Nat.le_trans d.size c.size);rw[c.block k (by omega) (by omega),d.block k (by omega) (λe=>h.gn k i ((h.g k).2 (.inr (.inr e))))]
theorem q5u (w:World) (h:qdm w cb mb b Gw G W j a cap l) (c:qb5 1 l=none):Calls Tryz.prog 51 #[.pointer (some ⟨cb,0,none⟩),.slice a l.length cap] w (qa3 5 W l w cb mb G):=by
 have d:Hid _:=h
 have g:Hid (∀w',Below w.heap.size w w'->Calls Tryz.prog 95 #[.slice a l.length cap] w' λe w2=>e=qf0 3/\Below w'.heap.size w' w2):=λw' hb=>(qfx h.sm w' (h.gl.later hb) (h.st.later hb)).mono λe w2 ⟨i,k⟩=>by
  rcases k with ⟨v,m,_⟩|⟨_,n⟩
  ·rw[m.out]at c;cases c
  ·exact⟨n,i⟩
 have c0:=h.ck.cell0;have p:Hid _:=c;have r:∀o,(w.alloc o).cell? ⟨cb,0,none⟩=some (.pointer (some ⟨b,0,none⟩)):=λo=>cell_later (boxed (Below.refl _ w) o) c0;clear h c;go_enter Tryz.func51,Tryz.ntmps51
 go_wp2
 go_region_dies
 all_goals
  refine(g.out _ (by repeat (first|(with_reducible exact Below.refl _ _)|(with_reducible refine boxed ?_ _)|(with_reducible refine Below.drew ?_)))).mono ?_;rintro e wa ⟨rfl,q⟩;exact⟨rfl,d.out.no (by decide) p.out (qab (by repeat (first|(with_reducible exact Below.refl _ _)|(with_reducible refine boxed ?_ _)|(with_reducible refine Below.drew ?_))) q)⟩
end
end
section
open Go.Value Go.IntKind Go.RowKit
variable {g:Nat} {vs:List Value} {wb w wa w1:World} {W':WoS} {T:TypeId} {d0 d1 d2 d3:Int} {v:Value}
section
variable {cb mb b j cap:Nat} {Gw G:Nat->Prop} {W:WoS} {a:Option Addr} {l:List ByteArray}
theorem q18 {W':World} (x0 x1 x2 x3 d e f h i:Value):qae (λk=>k=g) W' (((((((((W'.setCell ⟨g,0,none⟩ x0).setCell ⟨g,1,none⟩ x1).setCell ⟨g,2,none⟩ x2).setCell ⟨g,3,none⟩ x3).setCell ⟨g,4,none⟩ d).setCell ⟨g,5,none⟩ e).setCell ⟨g,6,none⟩ f).setCell ⟨g,7,none⟩ h).setCell ⟨g,8,none⟩ i):=by
 have c:(λk=>k=g) g:=rfl;exact((((((((qae.setCell _ _ _ c).trans (qae.setCell _ _ _ c)).trans (qae.setCell _ _ _ c)).trans (qae.setCell _ _ _ c)).trans (qae.setCell _ _ _ c)).trans (qae.setCell _ _ _ c)).trans (qae.setCell _ _ _ c)).trans (qae.setCell _ _ _ c)).trans (qae.setCell _ _ _ c)
theorem jc1 {W':World} (h:qag W' g vs) (k:vs.length=9) (x0 x1 x2 x3 c d e f i:Value):qag (((((((((W'.setCell ⟨g,0,none⟩ x0).setCell ⟨g,1,none⟩ x1).setCell ⟨g,2,none⟩ x2).setCell ⟨g,3,none⟩ x3).setCell ⟨g,4,none⟩ c).setCell ⟨g,5,none⟩ d).setCell ⟨g,6,none⟩ e).setCell ⟨g,7,none⟩ f).setCell ⟨g,8,none⟩ i) g [x0,x1,x2,x3,c,d,e,f,i]:=by
 match vs,k with
 |[y0,y1,y2,y3,y4,y5,y6,y7,y8],_=>exact((((((((h.set 0 x0 (by simp)).set 1 x1 (by simp)).set 2 x2 (by simp)).set 3 x3 (by simp)).set 4 c (by simp)).set 5 d (by simp)).set 6 e (by simp)).set 7 f (by simp)).set 8 i (by simp)
theorem qyr {w':World} {n k:Nat} (d:∀k,Gw k->k<n) (e:qd8 w' b Gw W' wb) (h:qag w' k vs) (f:n<=k):qag wb k vs:=by
 obtain⟨i,p1,p2,c⟩:=e;exact h.kept (c.block k h.lt (λq=>by have:=d k q;omega)) c.size
theorem jep (c:∀k,Gw k->k<w.heap.size) (d:w.heap.size<=wa.heap.size) (e:qd8 (wa.alloc (.cells #[int i64 0,int i64 0,int i64 0,int i64 0,int i64 0,int i64 0,int i64 0,int i64 0,.slice none 0 0] T)) b Gw W' wb):qag wb wa.heap.size [int i64 0,int i64 0,int i64 0,int i64 0,int i64 0,int i64 0,int i64 0,int i64 0,.slice none 0 0]:=qyr c e (qag.new (w:=wa) (T:=T) [int i64 0,int i64 0,int i64 0,int i64 0,int i64 0,int i64 0,int i64 0,int i64 0,.slice none 0 0] rfl) d
theorem jeq (c:∀k,Gw k->k<w.heap.size) (d:Below ((w.alloc (.cells #[int i64 0,int i64 0,int i64 0,int i64 0,int i64 0,int i64 0,int i64 0,int i64 0,.slice none 0 0] T)).drew).heap.size ((w.alloc (.cells #[int i64 0,int i64 0,int i64 0,int i64 0,int i64 0,int i64 0,int i64 0,int i64 0,.slice none 0 0] T)).drew) wa) (e:qd8 wa b Gw W' wb):qag wb w.heap.size [int i64 0,int i64 0,int i64 0,int i64 0,int i64 0,int i64 0,int i64 0,int i64 0,.slice none 0 0]:=qyr c e (((qag.new (w:=w) (T:=T) [int i64 0,int i64 0,int i64 0,int i64 0,int i64 0,int i64 0,int i64 0,int i64 0,.slice none 0 0] rfl).drew).later d) (Nat.le_refl _)
def q9f (w:World) (cb mb:Nat) (G:Nat->Prop) (W':WoS) (b5:Nat) (site seq wall count d0 d1 d2 d3:Int) (wx:World):Prop:=qg0 (ckP cb mb W') w G wx/\Gl wx/\∃v,qag wx b5 [int i64 site,int i64 seq,int i64 wall,int i64 count,int i64 d0,int i64 d1,int i64 d2,int i64 d3,v]
theorem jel {c:Nat} {site seq wall count:Int} (h:qdm w cb mb b Gw G W j a cap l) (hb:Below w.heap.size w w1) (d:qd8 w1 b Gw W' wb) (e:w.heap.size<=c) (f:c<w1.heap.size) (R:qag wb c [int i64 0,int i64 0,int i64 0,int i64 0,int i64 0,int i64 0,int i64 0,int i64 0,.slice none 0 0]):
 q9f w cb mb G W' c site seq wall count d0 d1 d2 d3 (((((((((wb.setCell ⟨c,0,none⟩ (int i64 site)).setCell ⟨c,1,none⟩ (int i64 seq)).setCell ⟨c,2,none⟩ (int i64 wall)).setCell ⟨c,3,none⟩ (int i64 count)).setCell ⟨c,4,none⟩ (int i64 d0)).setCell ⟨c,5,none⟩ (int i64 d1)).setCell ⟨c,6,none⟩ (int i64 d2)).setCell ⟨c,7,none⟩ (int i64 d3)).setCell ⟨c,8,none⟩ v):=by
 obtain⟨i,k⟩:=h.opAt hb d e f (q18 (W':=wb) (g:=c) (int i64 site) (int i64 seq) (int i64 wall) (int i64 count) (int i64 d0) (int i64 d1) (int i64 d2) (int i64 d3) v);exact⟨i,k,v,jc1 R rfl _ _ _ _ _ _ _ _ _⟩
theorem jev {site seq wall count:Int} (h:qdm w cb mb b Gw G W j a cap l) (hb:Below w.heap.size w w1) (c:qd8 w1 b Gw W' wb):
 q9f w cb mb G W' wb.heap.size site seq wall count d0 d1 d2 d3 (wb.alloc (.cells #[int i64 site,int i64 seq,int i64 wall,int i64 count,int i64 d0,int i64 d1,int i64 d2,int i64 d3,v] T)):=by
 have d:=boxed (Below.refl wb.heap.size wb) (.cells #[int i64 site,int i64 seq,int i64 wall,int i64 count,int i64 d0,int i64 d1,int i64 d2,int i64 d3,v] T);exact⟨qmn.after (h.ck.op h.g hb c) d,(h.gl2 hb c).later d,v,qag.new (w:=wb) (T:=T) [int i64 site,int i64 seq,int i64 wall,int i64 count,int i64 d0,int i64 d1,int i64 d2,int i64 d3,v] rfl⟩
theorem qz0 (w:World) (h:qdm w cb mb b Gw G W j a cap l) {r:List Int} (k:qb5 1 l=some r):Calls Tryz.prog 51 #[.pointer (some ⟨cb,0,none⟩),.slice a l.length cap] w (qa3 5 W l w cb mb G):=by
 have K:Hid _:=h
 obtain⟨v,rfl⟩:∃v,r=[v]:=by
  unfold qb5 at k;split at k
  ·rename_i q;exact List.length_eq_one_iff.1 ((qdi k).trans q)
  ·cases k
 have U:Hid (∀w',Below w.heap.size w w'->Calls Tryz.prog 95 #[.slice a l.length cap] w' λe w2=>e=.returned (int i64 v)/\Below w'.heap.size w' w2):=λw' hb=>(qfx h.sm w' (h.gl.later hb) (h.st.later hb)).mono λe w2 ⟨L,s⟩=>by
  rcases s with ⟨u,M,he⟩|⟨M,_⟩
  ·have:=M.out;rw[k]at this;injection this with this;injection this with this;rw[this];exact⟨he,L⟩
  ·have:=M.out;rw[k]at this;cases this
 obtain⟨site,seq,wall,count,d0,d1,d2,d3,er,W',told,V,X⟩:=qur (b:=b) (G:=Gw) v h.di;have Y:Hid (∀w',Below w.heap.size w w'->Calls Tryz.prog 103 #[.pointer (some ⟨b,0,none⟩),int i64 v] w' λe w2=>∃wa n wc,e=.returned (.tuple #[.agg #[int i64 site,int i64 seq,int i64 wall,int i64 count,int i64 d0,int i64 d1,int i64 d2,int i64 d3,.slice wa n wc],qbq er])/\qd8 w' b Gw W' w2):=λw' hb=>X w' (h.ck.later hb).pw;have y:Hid (jen W v site seq wall count d0 d1 d2 d3 er W' told/\qb5 1 l=some [v]):=⟨V,k⟩;have c0:=h.ck.cell0;have c0a:∀o,(w.alloc o).cell? ⟨cb,0,none⟩=some (.pointer (some ⟨b,0,none⟩)):=λo=>cell_later (boxed (Below.refl _ w) o) c0;have z:Hid _:=h.ck.pw.lt;clear h k X V;go_enter Tryz.func51,Tryz.ntmps51
 go_wp2
 go_cut [5,6] (λt5 t6 wx=>∃C:Nat,t5=.pointer (some ⟨C,0,none⟩)/\t6=qbq er/\Hid (q9f w cb mb G W' C site seq wall count d0 d1 d2 d3 wx))
 case first=>
  go_region_with (first|(go_at_call 95;refine(U.out _ (by repeat (first|(with_reducible exact Below.refl _ _)|(with_reducible refine boxed ?_ _)|(with_reducible refine Below.drew ?_)))).mono ?_;rintro e wa ⟨rfl,N⟩;have m:Below w.heap.size w wa:=qab (by repeat (first|(with_reducible exact Below.refl _ _)|(with_reducible refine boxed ?_ _)|(with_reducible refine Below.drew ?_))) N;have x0:=cell_later m c0;have x0a:=λo=>cell_later (boxed m o) c0)|(go_at_call 103;refine(Y.out _ (by first|exact m|exact boxed m _)).mono ?_;rintro e wb ⟨ya,yn,yc,rfl,D⟩;have Z:=m.size;(first|(have c:=jep z.out Z D;have e0:=c.cell 0 _ rfl;have f0:=c.free 0 (by simp);have e1:=c.cell 1 _ rfl;have f1:=c.free 1 (by simp);have e2:=c.cell 2 _ rfl;have f2:=c.free 2 (by simp);have e3:=c.cell 3 _ rfl;have f3:=c.free 3 (by simp);have e4:=c.cell 4 _ rfl;have f4:=c.free 4 (by simp);have e5:=c.cell 5 _ rfl;have f5:=c.free 5 (by simp);have e6:=c.cell 6 _ rfl;have f6:=c.free 6 (by simp);have e7:=c.cell 7 _ rfl;have f7:=c.free 7 (by simp);have e8:=c.cell 8 _ rfl;have f8:=c.free 8 (by simp))|(have c:=jeq z.out N D;have e0:=c.cell 0 _ rfl;have f0:=c.free 0 (by simp);have e1:=c.cell 1 _ rfl;have f1:=c.free 1 (by simp);have e2:=c.cell 2 _ rfl;have f2:=c.free 2 (by simp);have e3:=c.cell 3 _ rfl;have f3:=c.free 3 (by simp);have e4:=c.cell 4 _ rfl;have f4:=c.free 4 (by simp);have e5:=c.cell 5 _ rfl;have f5:=c.free 5 (by simp);have e6:=c.cell 6 _ rfl;have f6:=c.free 6 (by simp);have e7:=c.cell 7 _ rfl;have f7:=c.free 7 (by simp);have e8:=c.cell 8 _ rfl;have f8:=c.free 8 (by simp))|skip)))
  all_goals
   go_wp2
   go_meet
   case rel=>
        refine⟨_,rfl,rfl,?_⟩;show q9f w cb mb G W' _ site seq wall count d0 d1 d2 d3 _
        first
         |(have RB':=c
           first
            |(with_reducible exact jel K.out (boxed m _) D Z (by simp) RB')
            |(with_reducible exact jel K.out m D (Nat.le_refl _) (by have q:=N.size;simp at q;omega) RB'))
         |(with_reducible exact jev K.out m D)
 case rest=>
  obtain⟨C,rfl,rfl,E⟩:=hcut;have O:=qcp er wc E.out.2.1;have F:Hid (∀e w',qg0 (ckP cb mb W') w G w'->qkf er told e->qa3 5 W l w cb mb G e w'):=λe w' L s=>⟨W',er,told,by unfold qj4;rw[if_neg (by decide)];show match qb5 1 l with|none=>_|some ns=>_;rw[y.out.2];exact y.out.1.cmd.data (by decide),s,L⟩;clear U Y c0 c0a z
  go_wp2_with fail
  refine O.mono ?_;rintro e i ⟨I,(⟨p,rfl⟩|⟨p,rfl⟩)⟩
  rotate_left
  ·exact⟨rfl,F.out _ _ (qmn.after E.out.1 I) (.inr ⟨p,rfl⟩)⟩
  obtain⟨HL,z,v9,R0⟩:=E.out;have R:=R0.later I;have Q:=z.later I;have e1:=R.cell 1 _ rfl;have lt5:=R.lt;have wf:=y.out.1.wf;have HL3:Hid _:=qmn.after HL I;have B:=y.out.1.yes p;by_cases hs:seq=0
  ·subst hs;rw[if_pos rfl]at B;have J:=F.out (.returned (.string ⟨#[110,111,116,104,105,110,103]⟩)) i HL3.out (.inl ⟨p,by rw[B]⟩);clear O F E y wf p B
   go_wp2
   go_ret;exact J
  rw[if_neg hs]at B
  have l1:(qbc [site,seq,wall,count]).length<=88:=by have:=qb7 (l:=[site,seq,wall,count]) (λx d=>wf x (by simp at d ⊢;rcases d with e|e|e|e<;>simp[e]));simpa using this
  have l2:(qbc [d0,d1,d2,d3]).length<=88:=by have:=qb7 (l:=[d0,d1,d2,d3]) (λx d=>wf x (by simp at d ⊢;rcases d with e|e|e|e<;>simp[e]));simpa using this
  have A1:=λw=>qnh (P:=Tryz.prog) (bya (qbc [site,seq,wall,count])) ⟨#[58,32]⟩ (by simp[qcc];omega) w;have A2:=λw=>qnh (P:=Tryz.prog) (bya (qbc [site,seq,wall,count])++⟨#[58,32]⟩) (bya (qbc [d0,d1,d2,d3])) (by simp[qcc];omega) w;have hwx:Below i.heap.size i ((i.alloc (.cells #[int i64 site,int i64 seq,int i64 wall,int i64 count] 3)).drew):=(boxed (Below.refl _ i) _).drew;have S:=qdz (b:=i.heap.size) (o:=0) (cap:=4) (l:=[site,seq,wall,count]) (by simp) (by simp) (λx d=>wf x (by simp at d ⊢;rcases d with e|e|e|e<;>simp[e])) ((i.alloc (.cells #[int i64 site,int i64 seq,int i64 wall,int i64 count] 3)).drew) (Q.later hwx) (by simp) (qf2 (w:=i) (T:=3) [site,seq,wall,count])
  have BLD:Hid (∀w',Below i.heap.size i w'->Calls Tryz.prog 102 #[.slice (some ⟨C,4,none⟩) 4 4] w' λe w2=>e=.returned (.string (bya (qbc [d0,d1,d2,d3])))/\Below w'.heap.size w' w2):=λw' s=>by
   have H:=R.later s
   exact qdz (b:=C) (o:=4) (cap:=4) (l:=[d0,d1,d2,d3]) (by simp) (by simp) (λx d=>wf x (by simp at d ⊢;rcases d with e|e|e|e<;>simp[e])) w' (Q.later s) H.lt (λq x d=>by
        match q,d with
        |0,d=>simp at d;subst d;exact H.cell 4 _ rfl
        |1,d=>simp at d;subst d;exact H.cell 5 _ rfl
        |2,d=>simp at d;subst d;exact H.cell 6 _ rfl
        |3,d=>simp at d;subst d;exact H.cell 7 _ rfl
        |n+4,d=>simp at d)
  have J:Hid (∀w',Below i.heap.size i w'->qa3 5 W l w cb mb G (.returned (.string (bya (qbc [site,seq,wall,count])++⟨#[58,32]⟩++bya (qbc [d0,d1,d2,d3])))) w'):=λw' hb=>F.out _ _ (qmn.after HL3.out hb) (.inl ⟨p,by rw[B,<-qbo,<-qbo]⟩)
  dsimp only[List.length_cons,List.length_nil,Nat.reduceAdd]at S
  have X0:=λ(w':World) (h:Below i.heap.size i w')=>(R.later h).cell 0 _ rfl;have X1:=λ(w':World) (h:Below i.heap.size i w')=>(R.later h).cell 1 _ rfl;have X2:=λ(w':World) (h:Below i.heap.size i w')=>(R.later h).cell 2 _ rfl;have X3:=λ(w':World) (h:Below i.heap.size i w')=>(R.later h).cell 3 _ rfl;clear l1 l2 p wf O y B F E R R0 HL z Q
  go_wp2
  go_region_held3 (λw'=>Below i.heap.size i w') ((repeat (first|(with_reducible assumption)|(with_reducible refine boxed ?_ _)|(with_reducible refine Below.drew ?_)|(with_reducible exact Below.refl _ _))))
   (first|(go_at_call 102;(with_reducible refine S.mono ?_);rintro e w4 ⟨rfl,hb4⟩;have hb43:Below i.heap.size i w4:=qab hwx hb4;have BL2:=BLD.out w4 hb43)|(go_at_call 102;(with_reducible refine BL2.mono ?_);rintro e w5 ⟨rfl,hb5⟩;have hb53:=qab hb43 hb5;have HF0:=J.out w5 hb53))
  all_goals
   clear S BL2 J BLD
   go_wp2
   go_ret;exact HF0
theorem q1x (w:World) (h:qdm w cb mb b Gw G W j a cap l):Calls Tryz.prog 51 #[.pointer (some ⟨cb,0,none⟩),.slice a l.length cap] w (qa3 5 W l w cb mb G):=by
 cases hn:qb5 1 l with
 |none=>exact q5u w h hn
 |some r=>exact qz0 w h hn
end
end
section
open Go.RowKit Go.Maps
def qqv (i:Nat):Prop:=∀{w:World} {cb mb b j cap:Nat} {Gw G:Nat->Prop} {W:WoS} {a:Option Addr} {l:List ByteArray},qdm w cb mb b Gw G W j a cap l->Calls Tryz.prog (jco i) #[.pointer (some ⟨cb,0,none⟩),.slice a l.length cap] w (qa3 i W l w cb mb G)
theorem qxl (a:qqv 9):∀i,i<19->qqv i
 |0,_=>λh=>q72 _ h
 |1,_=>λh=>jct _ h
 |2,_=>λh=>q68 _ h
 |3,_=>λh=>jb3 _ h
 |4,_=>λh=>q4a _ h
 |5,_=>λh=>q1x _ h
 |6,_=>λh=>q0u _ h
 |7,_=>λh=>jbt _ h
 |8,_=>λh=>jbf _ h
 |9,_=>a
 |10,_=>λh=>jcl _ h
 |11,_=>λh=>jca _ h
 |12,_=>λh=>jbi _ h
 |13,_=>λh=>jbl _ h
 |14,_=>λh=>jch _ h
 |15,_=>λh=>q76 _ h
 |16,_=>λh=>q60 _ h
 |17,_=>λh=>q8k _ h
 |18,_=>λh=>q8v _ h
 |n+19,h=>absurd h (by omega)
theorem que (w:World):(zeroValue 65).run Tryz.prog w=.ok .nilFunc w:=by kernel_rfl
variable {w:World} {mb cb i:Nat} {s:ByteArray}
theorem qez.held (h:qez w mb cb 19) (b:s.size<=maxLen) (hi:i<19) (hs:s.data.toList=qaj i):(Instr.lookup 55 (.map (some mb)) (.string s) false).run Tryz.prog w=.ok (doV cb i) w:=by
 obtain⟨D,o,d⟩:=h;obtain⟨v,ps,c,a⟩:=o.lookup qku Tryz.underlying55 (que w) (zd:=.held .nilFunc) (zp:=[]) rfl (qs9 b);rw[hs,(d.has i hi).2]at a
 have:v=doV cb i:=by
  unfold qe3 at a;injection a with a;injection a with a;injection a
 rw[c,this]
theorem qez.lacks (h:qez w mb cb 19) (b:s.size<=maxLen) (hs:∀i,i<19->s.data.toList≠qaj i):(Instr.lookup 55 (.map (some mb)) (.string s) false).run Tryz.prog w=.ok .nilFunc w:=by
 obtain⟨D,o,d⟩:=h;obtain⟨v,ps,c,a⟩:=o.lookup qku Tryz.underlying55 (que w) (zd:=.held .nilFunc) (zp:=[]) rfl (qs9 b);rw[(d.no _ hs).2]at a
 have:v=.nilFunc:=by
  unfold qe3 at a;injection a with a;injection a with a;injection a
 rw[c,this]
theorem qiv.tail {A o cap:Nat} {x:ByteArray} {l:List ByteArray} (h:qiv w (some ⟨A,o,none⟩) cap (x::l)):qiv w (some ⟨A,o+1,none⟩) (cap-1) l:=
 ⟨by have:=h.cap;simp at this;omega,λj y a=>by
   obtain⟨b,p,e,c,d⟩:=h.cell (j+1) y (by simpa using a);injection e with e;injection e with e1 e2;subst e1;subst e2
   exact⟨A,o+1,rfl,c,by rw[show o+1+j=o+(j+1) by omega];exact d⟩⟩
theorem qpm {s:List UInt8} (h:qi0.idxOf? s=some i):i<19/\s=qaj i:=by
 rw[List.idxOf?_eq_some_iff]at h;obtain⟨hi,a,_⟩:=h;refine⟨hi,?_⟩;unfold qaj;rw[List.getD_eq_getElem?_getD,List.getElem?_eq_getElem hi];simpa using a.symm
theorem qyx {s:List UInt8} (h:qi0.idxOf? s=none):∀i,i<19->s≠qaj i:=λi hi e=>by
 rw[List.idxOf?_eq_none_iff]at h
 apply h
 rw[e];unfold qaj;rw[List.getD_eq_getElem?_getD,List.getElem?_eq_getElem (show i<qi0.length from hi)];exact List.getElem_mem _
end
section
def Few (n:Int):Prop:=0<=n/\n<=100
theorem Few.wf {n:Int} (h:Few n):wfI n:=⟨by have:=h.1;omega,by have:=h.2;omega⟩
variable {c:Prop}
theorem qgg [Decidable c] {a b:Int} (h:Few a) (k:Few b):Few (if c then a else b):=by
 by_cases q:c
 ·rw[if_pos q];exact h
 ·rw[if_neg q];exact k
theorem qhl:Few 0:=⟨by decide,by decide⟩
theorem jcw:Few 1:=⟨by decide,by decide⟩
theorem qhx:Few 2:=⟨by decide,by decide⟩
theorem jdh:Few 3:=⟨by decide,by decide⟩
theorem jd7:Few 4:=⟨by decide,by decide⟩
theorem qzq:Few 6:=⟨by decide,by decide⟩
theorem jdn:Few 8:=⟨by decide,by decide⟩
theorem qxz:Few 10:=⟨by decide,by decide⟩
theorem q3p:Few 12:=⟨by decide,by decide⟩
theorem jaa (s:qbn):Few (qsu s):=qgg qzq qhl
theorem jb9 (S:qaf) (s:qbn):Few (qps S s):=qgg qzq (qgg qxz qhl)
theorem q24 (s:qbn) (x:Wr):Few (qf4 s x):=qgg qzq (qgg qhx (qgg jd7 (qgg jcw (qgg q3p qhl))))
theorem q8h (W:WoS) (k:Nat):Few (qrt W k):=qgg qzq qhl
variable {α:Type}
theorem q9x [Decidable c] {a b:α×Int} (h:Few a.2) (k:Few b.2):Few (if c then a else b).2:=by
 by_cases q:c
 ·rw[if_pos q];exact h
 ·rw[if_neg q];exact k
theorem qrr {β:Type} [Decidable c] {a b:α×β×Int} (h:Few a.2.2) (k:Few b.2.2):Few (if c then a else b).2.2:=by
 by_cases q:c
 ·rw[if_pos q];exact h
 ·rw[if_neg q];exact k
theorem q6a (a b c:Int):Few (qfp a b c).2.2:=qrr qhx (qrr qhx (qrr qhl (qrr q3p qhl)))
theorem jec (o:Option Ver):Few (qog o).2:=by
 unfold qog
 repeat' split
 all_goals first|exact qhl|exact jdn
theorem qz2 (S:qaf) (n:Nat) (now d0 d1 d2 d3:Int) (ws:List Wr):Few (qa1 S n now d0 d1 d2 d3 ws):=by
 unfold qa1;exact qgg jcw (qgg qxz (qgg qxz (qgg q3p (q6a ..))))
theorem jcm (W:WoS) (k:Nat):Few (wcE W k):=qgg qzq (qgg qhl (qz2 ..))
theorem jc3 (S:qaf) (k a0 a1 a2 a3:Int):Few (qfe S k a0 a1 a2 a3).2:=q9x (q9x (jec _) qhx) qxz
theorem q6u (S:qaf) (s:qbn) (k:Int):Few (qb2 S s k).2:=by
 unfold qb2;by_cases q:s.opn=false
 ·rw[if_pos q];exact qzq
 ·rw[if_neg q];cases qf1 s.ws k with
  |none=>exact jc3 ..
  |some x=>
   by_cases g:x.gone=true
   ·simp only[if_pos g];exact jdn
   ·simp only[if_neg g];exact qhl
variable {i:Nat} {W W':WoS} {er:Int} {t:List UInt8}
theorem qd3.few {l:List Int} {d:ByteArray} (h:qd3 i W l d W' er t):Few er:=by
 unfold qd3 at h;split at h
 case h_1=>have h:=h.2;split at h<;>(rw[h.2];first|exact jaa _|exact qhx)
 case h_2=>have h:=h.2;split at h<;>(rw[h.2];first|exact qhl|exact qhx)
 case h_3=>have h:=h.2;split at h<;>(rw[h.2];first|exact jb9 _ _|exact qhx)
 case h_4=>rw[h.2.2];exact qhl
 case h_5=>have h:=h.2;split at h<;>(rw[h.2];first|exact qhl|exact qhx)
 case h_6=>split at h<;>(rw[h.2.2];first|exact jcm _ _|exact qhx)
 case h_7=>have h:=h.2;split at h<;>(rw[h.2];first|exact qhl|exact qhx)
 case h_8=>have h:=h.2;split at h<;>(rw[h.2];first|exact q24 _ _|exact qhx)
 case h_9=>have h:=h.2;split at h<;>(rw[h.2];first|exact qhl|exact qhx)
 case h_10=>rw[h.2.2];exact qhl
 case h_11=>have h:=h.2;split at h<;>(rw[h.2];first|exact qhl|exact qhx)
 case h_12=>rw[h.2.2];exact qhl
 case h_13=>have h:=h.2;split at h<;>(rw[h.2];first|exact q8h _ _|exact qhx)
 case h_14=>have h:=h.2;split at h<;>(rw[h.2];first|exact q6u _ _ _|exact qhx)
 case h_15=>have h:=h.2;split at h<;>(rw[h.2];first|exact qhl|exact qhx)
 case h_16=>have h:=h.2;split at h<;>(rw[h.2];first|exact qhl|exact qhx)
 case h_17=>have h:=h.2;split at h<;>(rw[h.2];first|exact qhl|exact qhx)
 case h_18=>have h:=h.2;split at h<;>(rw[h.2];first|exact qhl|exact qhx)
 case h_19=>have h:=h.2;split at h<;>(rw[h.2];first|exact q24 _ _|exact qhx)
 case h_20=>exact h.elim
theorem qj4.few {l:List ByteArray} (h:qj4 i W l W' er t):Few er:=by
 unfold qj4 at h;split at h
 ·rw[h.2.1];exact jdh
 ·exact h.few
end
section
theorem jcx {a b c d:Int} (h:∀x∈[a,b,c,d],wfI x):(qbc [a,b,c,d]).length<=88:=by have:=qb7 h;simpa using this
variable {W W':WoS} {t:List UInt8}
theorem qd3.len {i:Nat} {l:List Int} {d:ByteArray} {er:Int} (g:DkI W) (h:qd3 i W l d W' er t) (p:er=0):t.length<=400:=by
 have n:=h;unfold qd3 at h;split at h
 case h_5 k=>
  obtain⟨at_,p0,p1,p2,p3,s0,s1,s2,s3,z,e,C,_⟩:=qu1 (b:=0) (G:=λ_=>False) k g;rw[(qd3.det (n.data (d':=⟨#[]⟩) (by decide)) C.cmd).2.2];split
  ·have l1:(qbc [at_]).length<=22:=by have:=qb7 (l:=[at_]) (λx f=>C.wf x (by simp at f;simp[f]));simpa using this
   have l2:=jcx (a:=p0) (b:=p1) (c:=p2) (d:=p3) (λx f=>C.wf x (by simp at f ⊢;rcases f with e|e|e|e<;>simp[e]));have l3:=jcx (a:=s0) (b:=s1) (c:=s2) (d:=s3) (λx f=>C.wf x (by simp at f ⊢;rcases f with e|e|e|e<;>simp[e]))
   split<;>simp only[List.length_append,List.length_cons,List.length_nil]<;>omega
  ·simp
 case h_6 k=>
  obtain⟨a,b,c,d,d0,d1,d2,d3,e,A,told,C,_⟩:=qur (b:=0) (G:=λ_=>False) k g;obtain⟨_,r,u⟩:=qd3.det (n.data (d':=⟨#[]⟩) (by decide)) C.cmd;rw[u,C.yes (r▸p)];have l2:=jcx (a:=a) (b:=b) (c:=c) (d:=d) (λx f=>C.wf x (by simp at f ⊢;rcases f with e|e|e|e<;>simp[e]));have l3:=jcx (a:=d0) (b:=d1) (c:=d2) (d:=d3) (λx f=>C.wf x (by simp at f ⊢;rcases f with e|e|e|e<;>simp[e]));split
  ·decide
  ·simp only[List.length_append,List.length_cons,List.length_nil];omega
 case h_12=>
  obtain⟨j,m⟩:=g.pl;have:=m.wf.net;rw[h.1]
  have l1:=qb7 (l:=[(W.net.length:Int),W.lost]) (λx f=>by
   simp at f;rcases f with rfl|rfl
   ·exact⟨by omega,by omega⟩
   ·exact g.lost)
  simp at l1;omega
 case h_14 k key=>
  have h:=h.2;split at h
  ·rename_i q;obtain⟨i,rfl,hi,e⟩:=qca q;obtain⟨j,m⟩:=g.pl;have:=qlb (S:=W.S (W.at_ i)) (s:=W.ses i) (key:=key) (g.ses i hi) (m.wf.inv _ (m.wf.at_ i hi));rw[h.1,e];rw[Lib.size_eq]at this;simp only[List.length_append,List.length_cons,List.length_nil];omega
  ·rw[h.1];simp
 case h_15 k=>
  obtain⟨a0,a1,a2,a3,wn,o,e,v,C,_⟩:=q1y (b:=0) (G:=λ_=>False) k g;rw[(qd3.det (n.data (d':=⟨#[]⟩) (by decide)) C.cmd).2.2];split
  ·have l2:=jcx (a:=a0) (b:=a1) (c:=a2) (d:=a3) (λx f=>C.wf x (by simp at f ⊢;rcases f with e|e|e|e<;>simp[e]))
   have l1:(qbc [wn,o]).length<=44:=by have:=qb7 (l:=[wn,o]) (λx f=>C.wf x (by simp at f ⊢;rcases f with e|e<;>simp[e]));simpa using this
   have l3:=qim 13 (v.map (·.data.toList)) (λy w=>by obtain⟨x,f,rfl⟩:=List.mem_map.1 w;exact C.ts x f);rw[List.length_map,C.tl]at l3;simp only[List.length_append,List.length_cons,List.length_nil];omega
  ·simp
 case h_20=>exact h.elim
 all_goals (rw[h.1];decide)
theorem qee.len {c:ByteArray} (d:DkI W) (h:qee W c W' t):t.length<=400:=by
 have er:∀n:Int,Few n->(qpn n).length<=400:=λn b=>by
  have:=Lib.itoa_length_le n b.wf.1 b.wf.2;unfold qpn;simp only[List.length_append,List.length_cons,List.length_nil];omega
 unfold qee at h;split at h
 ·rw[h.2];decide
 ·split at h
  ·rw[h.2];exact er 3 jdh
  ·obtain⟨e,u,a,rfl⟩:=h;split
   ·rename_i f;unfold qj4 at a;split at a
    ·rw[a.2.2];simp
    ·exact a.len d f
   ·exact er e a.few
theorem qee.keeps {b:ByteArray} (a:DkI W) (h:qee W b W' t):DkI W':=by
 unfold qee at h;split at h
 ·rw[h.1];exact a
 ·split at h
  ·rw[h.1];exact a
  ·obtain⟨e,u,c,_⟩:=h;exact a.does c
end
theorem qfm.len {W A:WoS} {l:List ByteArray} {s:List UInt8} (a:DkI W) (h:qfm W l s A):s.length<=401*l.length/\DkI A:=by
 induction h with
 |nil=>exact⟨by simp,a⟩
 |snoc h1 h2 ih=>
  obtain⟨b,i2⟩:=ih;have:=h2.len i2;refine⟨?_,h2.keeps i2⟩;simp only[List.length_append,List.length_cons,List.length_nil];omega
theorem qws (s:List UInt8):(qds s).length<=s.length+1/\∀x∈qds s,x.length<=s.length:=by
 induction s with
 |nil=>simp[qds]
 |cons c r ih=>
  rw[qif];by_cases e:c=10
  ·rw[if_pos e];refine⟨by simp only[List.length_cons];have:=ih.1;omega,λx a=>?_⟩;rcases List.mem_cons.1 a with rfl|q
   ·simp
   ·have:=ih.2 x q;simp only[List.length_cons];omega
  ·rw[if_neg e];cases h:qds r with
   |nil=>exact absurd h (qs0 r)
   |cons y z=>
    rw[h]at ih;refine⟨by have:=ih.1;simp only[List.length_cons]at this ⊢;omega,λx a=>?_⟩;rcases List.mem_cons.1 a with rfl|q
    ·have:=ih.2 y (by simp);simp only[List.length_cons];omega
    ·have:=ih.2 x (by simp[q]);simp only[List.length_cons];omega
theorem q8l (s:List UInt8):(Lib.trimSuffix s [10]).length<=s.length:=by
 unfold Lib.trimSuffix;split
 ·simp
 ·exact Nat.le_refl _
theorem qwy (s:List UInt8):(qgn s).length<=s.length+1/\∀x∈qgn s,x.length<=s.length:=by
 have h:=qws (Lib.trimSuffix s [10]);have:=q8l s;exact⟨by have:=h.1;unfold qgn;omega,λx a=>Nat.le_trans (h.2 x a) this⟩
section
open Go.RowKit
def qdj (c:UInt8) (s:ByteArray):List ByteArray:=(qcv c s.data.toList).map bya
theorem qu5 (c:UInt8) (s:ByteArray) (hs:s.size<=1000000) (w:World) (g:Gl w):Calls Tryz.prog 14 #[.string s,.string ⟨#[c]⟩] w λe w'=>e=.returned (.slice (some ⟨w.heap.size,0,none⟩) (qdj c s).length (qdj c s).length)/\w'=w.alloc (.cells ((qdj c s).map Value.string).toArray 9):=by
 obtain⟨m,k⟩:=g.ml;have d:1<=(⟨#[c]⟩:ByteArray).size:=Nat.le_refl _;have n:Lib.countB s ⟨#[c]⟩=s.data.toList.count c:=Lib.count_one c _
 have i:Lib.splitB ⟨#[c]⟩ 0 (Lib.countB s ⟨#[c]⟩) s=qdj c s:=by
  have q:=Lib.splitB_data ⟨#[c]⟩ 0 (Lib.countB s ⟨#[c]⟩) s;rw[show (⟨#[c]⟩:ByteArray).data.toList=[c]from rfl,qvx c _ _ (by rw[n];exact Nat.le_refl _)]at q;unfold qdj;rw[<-q,List.map_map]
  conv=>lhs;rw[<-List.map_id (Lib.splitB ⟨#[c]⟩ 0 (Lib.countB s ⟨#[c]⟩) s)]
  rfl
 have o:Lib.countB s ⟨#[c]⟩+1=(qdj c s).length:=by rw[<-i,Lib.splitB_all ⟨#[c]⟩ d 0 _ s rfl]
 refine(Tryz.strings_Split s ⟨#[c]⟩ m w (by omega) k d).mono λe w' ⟨h,j⟩=>?_;rw[o]at h;rw[i]at j;exact⟨h,j⟩
def neB (y:ByteArray):Bool:=decide (y.data.toList≠[])
theorem qq2 (s:ByteArray):qc3 s=(qdj 32 s).filter neB:=by
 rw[qwf];unfold qdj;rw[List.filter_map];rfl
theorem q1k (c:UInt8) (s:List UInt8):(qcv c s).length<=s.length+1/\∀x∈qcv c s,x.length<=s.length:=by
 induction s with
 |nil=>simp[qcv]
 |cons d r ih=>
  unfold qcv;by_cases e:d=c
  ·rw[if_pos e];refine⟨by simp only[List.length_cons];have:=ih.1;omega,λx f=>?_⟩;rcases List.mem_cons.1 f with rfl|q
   ·simp
   ·have:=ih.2 x q;simp only[List.length_cons];omega
  ·rw[if_neg e];cases h:qcv c r with
   |nil=>exact absurd h (qjv c r)
   |cons y z=>
    rw[h]at ih;refine⟨by have:=ih.1;simp only[List.length_cons]at this ⊢;omega,λx f=>?_⟩;rcases List.mem_cons.1 f with rfl|q
    ·have:=ih.2 y (by simp);simp only[List.length_cons];omega
    ·have:=ih.2 x (by simp[q]);simp only[List.length_cons];omega
theorem qmz (c:UInt8) (s:ByteArray):(qdj c s).length<=s.size+1/\∀x∈qdj c s,x.size<=s.size:=by
 have h:=q1k c s.data.toList;rw[<-Lib.size_eq]at h;refine⟨by unfold qdj;rw[List.length_map];exact h.1,λx d=>?_⟩;obtain⟨y,e,rfl⟩:=List.mem_map.1 d;have:=h.2 y e;rw[Lib.size_eq];exact this
def q9z (s:ByteArray):Nat:=if 1<(qdj 10 s).length/\(qdj 10 s).getLast?=some ⟨#[]⟩then (qdj 10 s).length-1 else (qdj 10 s).length
theorem qzv (s:ByteArray):(qgn s.data.toList).map bya=(qdj 10 s).take (q9z s):=by
 have d:(qcv 10 s.data.toList).getLast?=some []↔(qdj 10 s).getLast?=some ⟨#[]⟩:=by
  unfold qdj;rw[List.getLast?_map];cases (qcv 10 s.data.toList).getLast? with
  |none=>simp
  |some x=>
   simp only[Option.map_some,Option.some.injEq]
   constructor
   ·rintro rfl;rfl
   ·intro e;have:=congrArg (λy:ByteArray=>y.data.toList) e;simpa using this
 have c:(qdj 10 s).length=(qcv 10 s.data.toList).length:=by unfold qdj;rw[List.length_map]
 rw[qxf];unfold q9z;by_cases q:1<(qdj 10 s).length/\(qdj 10 s).getLast?=some ⟨#[]⟩
 ·rw[if_pos q,if_pos ⟨by rw[<-c];exact q.1,d.2 q.2⟩,c,List.dropLast_eq_take];unfold qdj;rw[List.map_take]
 ·rw[if_neg q,if_neg (λe=>q ⟨by rw[c];exact e.1,d.1 e.2⟩),List.take_length];rfl
def jb6 (W:WoS) (line:ByteArray) (w:World) (hb:Nat) (G:Nat->Prop) (e:Ending) (w':World):Prop:=
 ∃(t:List UInt8) (er:Int),e=.returned (.tuple #[.string (bya t),.int .i64 er])/\Hid (∃W',qee W line W' (if er=0 then t else qpn er)/\wfI er/\qg0 (hsP hb W') w G w')
variable {a:Option Addr} {l:List ByteArray}
theorem qyu (n:∀i,i<19->qbr i) {w:World} {o hb b j cap:Nat} {Gw G:Nat->Prop} {W:WoS} (h:qfb w o hb b Gw G W j a cap l) {d x:ByteArray} (k:qc3 d=x::l) (p:x.size<=maxLen):
 Calls Tryz.prog 16 #[.pointer (some ⟨hb,0,none⟩),.string x,.slice a l.length cap] w (jb6 W d w hb G):=by
 cases hn:qi0.idxOf? x.data.toList with
 |none=>
  refine(q0m h x p (qyx hn)).mono λe w' ⟨c,r⟩=>?_;subst r;refine⟨[],3,c,W,?_,⟨by decide,by decide⟩,h.hs.same h.g (Below.refl _ _)⟩;unfold qee;rw[k]
  dsimp only
  rw[hn];exact⟨rfl,rfl⟩
 |some i=>
  obtain⟨hi,s⟩:=qpm hn
  obtain rfl:x=bya (qaj i):=by rw[<-s]
  refine(q3w hi (n i hi) h).mono λe w' ⟨told,er,c,W',t,m,u,v⟩=>?_;refine⟨told,er,c,W',?_,m.few.wf,v⟩;unfold qee;rw[k]
  dsimp only
  rw[hn];refine⟨er,t,m,?_⟩;by_cases q:er=0
  ·rw[if_pos q,if_pos q,u q]
  ·rw[if_neg q,if_neg q]
def q44 (w:World):Prop:=∃bm,w.cell? ⟨0,0,none⟩=some (.map (some bm))/\q61 w bm/\bm<w.heap.size
structure q1p (w wr:World) (hb lb:Nat) (L pre:List ByteArray) (out:List UInt8) (W:WoS) (b:Nat) (Gw G:Nat->Prop):Prop where
 tk:qfm (qhk 2 2) pre out W
 hs:qpz wr hb b Gw W
 g:∀k,G k↔(k=hb\/Gw k)
 gn:∀k,G k->w.heap.size<=k
 lo:lb<wr.heap.size/\¬G lb
 bl:Below w.heap.size w wr
 cell:∀(j:Nat) x,L[j]?=some x->wr.cell? ⟨lb,j,none⟩=some (.string x)
def TkI (w:World) (hb lb:Nat) (L pre:List ByteArray) (out:List UInt8) (wr:World):Prop:=∃W b Gw G,q1p w wr hb lb L pre out W b Gw G
section
variable {w wr w3 w4:World} {hb lb b:Nat} {L pre:List ByteArray} {out told:List UInt8} {W W':WoS} {Gw G:Nat->Prop} {x:ByteArray}
theorem q1p.lt (h:q1p w wr hb lb L pre out W b Gw G) (k:Nat) (c:G k):k<wr.heap.size:=by
 rcases(h.g k).1 c with rfl|e
 ·exact h.hs.lt
 ·exact h.hs.rw.lt k e
theorem q1p.later (h:q1p w wr hb lb L pre out W b Gw G) (c:Below wr.heap.size wr w3):q1p w w3 hb lb L pre out W b Gw G:=
 ⟨h.tk,h.hs.later c,h.g,h.gn,⟨Nat.lt_of_lt_of_le h.lo.1 c.size,h.lo.2⟩,qab h.bl c,λj x d=>(c.cell (p:=⟨lb,j,none⟩) h.lo.1).trans (h.cell j x d)⟩
theorem q1p.step (h:q1p w w3 hb lb L pre out W b Gw G) (f:qee W x W' told) (g:qg0 (hsP hb W') w3 G w4):TkI w hb lb L (pre++[x]) (out++told++[10]) w4:=by
 obtain⟨i,⟨m,n,o,p⟩,p2,c⟩:=g;have bs:=h.bl.size;refine⟨W',m,n,i,.snoc h.tk f,o,p,λk d=>?_,⟨Nat.lt_of_lt_of_le h.lo.1 c.size,λd=>?_⟩,⟨c.os.trans h.bl.os,c.tape.trans h.bl.tape,c.output.trans h.bl.output,Nat.le_trans bs c.size,λk d=>(c.block k (by omega) (λe=>by have:=h.gn k e;omega)).trans (h.bl.block k d)⟩,λj y r=>?_⟩
 ·rcases p2 k d with q|q
  ·exact h.gn k q
  ·omega
 ·rcases p2 lb d with q|q
  ·exact h.lo.2 q
  ·have:=h.lo.1;omega
 ·rw[World.cell?_of_block (w:=w3) (a:=⟨lb,j,none⟩) (c.block lb h.lo.1 h.lo.2)];exact h.cell j y r
theorem q1p.rd (h:q1p w w3 hb lb L pre out W b Gw G) (gl:Gl w) (fm:q44 w) (j:pre.length<=100000) {cap:Nat} (st:qiv w3 a cap l) (sm:∀x∈l,x.size<=1000000) (sn:∀c o,a=some ⟨c,o,none⟩->¬G c):qfb w3 w.heap.size hb b Gw G W pre.length a cap l:=by
 obtain⟨bm,f1,f2,f3⟩:=fm;have f:DkI (qhk 2 2):=DkI.new (by decide) (by decide) (by decide);have i:PlI 0 (qhk 2 2):=PlI.new (by decide) (by decide) (by decide);have d:=h.tk.few i;rw[Nat.zero_add]at d;exact⟨h.hs,h.g,gl.later h.bl,⟨bm,(h.bl.cell (p:=⟨0,0,none⟩) (Nat.lt_of_lt_of_le (by decide) gl.sz)).trans f1,f2.kept (h.bl.block bm f3),f3⟩,⟨gl.sz,h.bl.size⟩,λk m e=>by have:=h.gn k e;omega,d,(h.tk.len f).2,st,sm,sn,by omega⟩
end
end
section
open Tryz Go.RowKit
structure qmx (w:World) (cb mb b:Nat) (Gw G:Nat->Prop) (W:WoS) (j:Nat):Prop where
 ck:qmn w cb mb b Gw W
 g:∀k,G k↔(k=cb\/k=mb\/Gw k)
 gl:Gl w
 gn:∀k,k<10->¬G k
 wi:PlI j W
 di:DkI W
def ql6 (W:WoS) (line:ByteArray) (w:World) (cb mb:Nat) (G:Nat->Prop) (e:Ending) (w':World):Prop:=
 ∃told,e=.returned (.string (bya told))/\∃W',qee W line W' told/\qg0 (ckP cb mb W') w G w'
variable {w:World} {B:Nat} {v:Value}
theorem qm0 {tmps:Array Value} (a:w.cell? ⟨B,0,none⟩=some v) (c:tmps[4]?=some (.pointer (some ⟨B,0,none⟩))):(results f11 tmps).run prog w=.ok v w:=by
 simp[results,results11,go_sem,a,c]
variable {w1 wt:World} {cb mb:Nat} {G:Nat->Prop} {W':WoS}
theorem qyq {a:World} (hb:Below w.heap.size w w1) (h:qg0 (ckP cb mb W') w1 G wt) (d:w.heap.size<=B) (p:B<w1.heap.size) (f:∀k,G k->k<w.heap.size) (g:Below wt.heap.size wt a):qg0 (ckP cb mb W') w G (a.setCell ⟨B,0,none⟩ v):=by
 obtain⟨c,p1,p2,m⟩:=qmn.after h g
 have n:∀k,c k->k≠B:=λk o e=>by
  subst e;rcases p2 k o with q|q
  ·have:=f k q;omega
  ·omega
 refine⟨c,p1.kept (λk e=>Below.heap_setCell _ _ _ _ (n k e)) (by simp[World.setCell]),λk e=>?_,qdq ((qae.ofBelow hb).trans m) d v⟩;rcases p2 k e with q|q
 ·exact .inl q
 ·exact .inr (Nat.le_trans hb.size q)
theorem qn1 {n:Nat} (R:qag w1 B [v]) (h:qg0 (ckP cb mb W') w1 G wt) (c:∀k,G k->k<n) (d:n<=B):qag wt B [v]:=by
 obtain⟨e,p1,p2,a⟩:=h;exact R.kept (a.block B R.lt (λq=>by have:=c B q;omega)) a.size
theorem jag (g:Gl w1) (h:qg0 (ckP cb mb W') w1 G wt) (gn:∀k,k<10->¬G k):Gl wt:=by
 obtain⟨d,p1,p2,a⟩:=h;have:=g.sz;exact g.kept (λk c=>a.block k (by omega) (gn k c)) a.size
variable {b j:Nat} {Gw:Nat->Prop} {W:WoS}
theorem qmx.ltG (h:qmx w cb mb b Gw G W j):∀k,G k->k<w.heap.size:=λk a=>by
 rcases(h.g k).1 a with rfl|rfl|e
 ·exact h.ck.ltc
 ·exact h.ck.map.lt
 ·exact h.ck.pw.lt k e
theorem qsr {d:ByteArray} {n:Int} {tmps:Array Value} (h:qmx w cb mb b Gw G W j) (hb:Below w.heap.size w w1) (R:qag w1 w.heap.size [v]) (a:qg0 (ckP cb mb W') w1 G wt) (k:wfI n) (m:qee W d W' (qpn n)) (o:tmps[4]?=some (.pointer (some ⟨w.heap.size,0,none⟩))):
 Leaves prog f11 tmps (ql6 W d w cb mb G) [{target:=.fn (.func 25) #[.pointer (some ⟨w.heap.size,0,none⟩)],args:=#[]}] (.panicking [{v:=.iface 26 (.int .i64 n),recovered:=false}]) wt:=by
 have c:=qn1 R a h.ltG (Nat.le_refl _);refine leaves_cons (f:=25) (args:=#[.pointer (some ⟨w.heap.size,0,none⟩)]) (by simp) (by simp[go_sem]) ?_;refine(qot ⟨w.heap.size,0,none⟩ v n k [] wt (jag (h.gl.later hb) a h.gn) (c.cell 0 _ rfl) (c.free 0 (by simp))).mono ?_;rintro e p q ⟨rfl,rfl,w2,g,rfl⟩;exact⟨_,qm0 (((c.later g).set 0 (.string (bya (qpn n))) (by simp)).cell 0 _ rfl) o,qpn n,rfl,W',m,qyq hb a (Nat.le_refl _) R.lt h.ltG g⟩
theorem q40 {a:ByteArray} {told:List UInt8} {tmps:Array Value} (h:qmx w cb mb b Gw G W j) (hb:Below w.heap.size w w1) (R:qag w1 w.heap.size [v]) (c:qg0 (ckP cb mb W') w1 G wt) (d:qee W a W' told) (g:tmps[4]?=some (.pointer (some ⟨w.heap.size,0,none⟩))):
 Leaves prog f11 tmps (ql6 W a w cb mb G) [{target:=.fn (.func 25) #[.pointer (some ⟨w.heap.size,0,none⟩)],args:=#[]}] .returning (wt.setCell ⟨w.heap.size,0,none⟩ (.string (bya told))):=by
 have k:=qn1 R c h.ltG (Nat.le_refl _);refine leaves_cons (f:=25) (args:=#[.pointer (some ⟨w.heap.size,0,none⟩)]) (by simp) (by simp[go_sem]) ?_;refine(qre ⟨w.heap.size,0,none⟩ _).mono ?_;rintro e m w2 ⟨rfl,rfl,rfl⟩;exact⟨_,qm0 ((k.set 0 (.string (bya told)) (by simp)).cell 0 _ rfl) g,told,rfl,W',d,qyq hb c (Nat.le_refl _) R.lt h.ltG (Below.refl _ _)⟩
theorem quo (h:qmx w cb mb b Gw G W j) {a:ByteArray} (s:a.size<=20000) (c:qc3 a=[]):
 Calls prog 11 #[.pointer (some ⟨cb,0,none⟩),.string a] w (ql6 W a w cb mb G):=by
 have hmf:∀(fn:Fn) (o cap:Array Value) (w:World),(Instr.makeFunc fn o cap).run prog w=.ok (.func fn o cap) w:=λ_ _ _ _=>rfl;have d:=ql5 a (by omega) (w.alloc (.cells #[.string ⟨#[]⟩] 9));rw[c]at d;have k:Hid (qmx w cb mb b Gw G W j/\qc3 a=[]):=⟨h,c⟩;have p:=boxed (Below.refl w.heap.size w) (.cells #[.string ⟨#[]⟩] 9);clear h c
 go_enter_defers func11,ntmps11
 go_wp2_with fail
 refine d.mono ?_;rintro e w1 ⟨A,rfl,u,q,m⟩;have n:=(qag.new (w:=w) (T:=9) [.string ⟨#[]⟩] rfl).later m;have c1:=n.cell 0 _ rfl;have f1:=n.free 0 (by simp)
 have r:Hid (ql6 W a w cb mb G (.returned (.string ⟨#[111,107]⟩)) (w1.setCell ⟨w.heap.size,0,none⟩ (.string ⟨#[111,107]⟩))):=by
  refine⟨[111,107],rfl,W,?_,k.out.1.ck.same k.out.1.g (Below.setCell (qab p m) (Nat.le_refl _) _)⟩;unfold qee;rw[k.out.2];exact⟨rfl,rfl⟩
 have c2:=(n.set 0 (.string ⟨#[111,107]⟩) (by simp)).cell 0 _ rfl;clear m p q d
 go_wp2
 refine leaves_cons (f:=25) (args:=#[.pointer (some ⟨w.heap.size,0,none⟩)]) (by simp) (by simp[go_sem]) ?_;refine(qre ⟨w.heap.size,0,none⟩ _).mono ?_;rintro e y w2 ⟨rfl,rfl,rfl⟩;exact⟨_,qm0 c2 rfl,r.out⟩
variable {x:ByteArray} {l:List ByteArray}
theorem qwl (h:qmx w cb mb b Gw G W j) {a:ByteArray} (E:a.size<=20000) (m:qc3 a=x::l) (C:x.size<=maxLen) (s:qi0.idxOf? x.data.toList=none):
 Calls prog 11 #[.pointer (some ⟨cb,0,none⟩),.string a] w (ql6 W a w cb mb G):=by
 have hmf:∀(fn:Fn) (u cap:Array Value) (w:World),(Instr.makeFunc fn u cap).run prog w=.ok (.func fn u cap) w:=λ_ _ _ _=>rfl;have n:=ql5 a (by omega) (w.alloc (.cells #[.string ⟨#[]⟩] 9));rw[m]at n;have c:Hid (qmx w cb mb b Gw G W j/\qc3 a=x::l/\qi0.idxOf? x.data.toList=none):=⟨h,m,s⟩;have y:=boxed (Below.refl w.heap.size w) (.cells #[.string ⟨#[]⟩] 9);clear h m
 go_enter_defers func11,ntmps11
 go_wp2_with fail
 refine n.mono ?_;rintro e w1 ⟨A,rfl,F,z,o⟩;have d:=(qag.new (w:=w) (T:=9) [.string ⟨#[]⟩] rfl).later o;have c1:=d.cell 0 _ rfl;have f1:=d.free 0 (by simp);have p:Below w.heap.size w w1:=qab y o;have k:=c.out.1.ck.later p;have H:=k.cell1;obtain⟨I,J,q,K,L⟩:=z.cell 0 x rfl;injection q with q;injection q with e1 e2;subst e1;subst e2;have M:=qez.lacks (w:=w1.drew) (k.map.kept rfl) C (qyx s);have r:Hid (Below w.heap.size w w1/\qag w1 w.heap.size [.string ⟨#[]⟩]/\qg0 (ckP cb mb W) w1 G w1.drew):=⟨p,d,k.same c.out.1.g (Below.refl _ _).drew⟩
 have D:Hid (qee W a W (qpn 3)):=by
  show qee W a W (qpn 3);unfold qee;rw[c.out.2.1]
  dsimp only
  rw[c.out.2.2];exact⟨rfl,rfl⟩
 clear o y z n k p d
 dsimp only[List.length_cons]at*
 have N:∀w:World,(binOp .eql 65 .nilFunc .nilFunc).run prog w=.ok (.bool true) w:=λ_=>by kernel_rfl
 go_wp2
 go_region
 all_goals
  go_wp2
  exact qsr c.out.1 r.out.1 r.out.2.1 r.out.2.2 ⟨by decide,by decide⟩ D.out rfl
theorem qtq:∀i,i<19->∀(args:Array Value) (w:World),(callFunc (jco i) args).run prog w=.ok (.enter (jco i) args) w
 |0,_=>λ_ _=>by kernel_rfl
 |1,_=>λ_ _=>by kernel_rfl
 |2,_=>λ_ _=>by kernel_rfl
 |3,_=>λ_ _=>by kernel_rfl
 |4,_=>λ_ _=>by kernel_rfl
 |5,_=>λ_ _=>by kernel_rfl
 |6,_=>λ_ _=>by kernel_rfl
 |7,_=>λ_ _=>by kernel_rfl
 |8,_=>λ_ _=>by kernel_rfl
 |9,_=>λ_ _=>by kernel_rfl
 |10,_=>λ_ _=>by kernel_rfl
 |11,_=>λ_ _=>by kernel_rfl
 |12,_=>λ_ _=>by kernel_rfl
 |13,_=>λ_ _=>by kernel_rfl
 |14,_=>λ_ _=>by kernel_rfl
 |15,_=>λ_ _=>by kernel_rfl
 |16,_=>λ_ _=>by kernel_rfl
 |17,_=>λ_ _=>by kernel_rfl
 |18,_=>λ_ _=>by kernel_rfl
 |n+19,h=>absurd h (by omega)
variable {i:Nat}
theorem qz5 (S:qqv 9) (h:qmx w cb mb b Gw G W j) {m:ByteArray} (hl:m.size<=20000) (s:qc3 m=[x]) (U:x.size<=maxLen) (u:qi0.idxOf? x.data.toList=some i):
 Calls prog 11 #[.pointer (some ⟨cb,0,none⟩),.string m] w (ql6 W m w cb mb G):=by
 have hmf:∀(fn:Fn) (M cap:Array Value) (w:World),(Instr.makeFunc fn M cap).run prog w=.ok (.func fn M cap) w:=λ_ _ _ _=>rfl;obtain⟨hi,N⟩:=qpm u;have z:=ql5 m (by omega) (w.alloc (.cells #[.string ⟨#[]⟩] 9));rw[s]at z;have k:Hid (qmx w cb mb b Gw G W j/\qc3 m=[x]/\qi0.idxOf? x.data.toList=some i):=⟨h,s,u⟩;have O:=boxed (Below.refl w.heap.size w) (.cells #[.string ⟨#[]⟩] 9);clear h s
 go_enter_defers func11,ntmps11
 go_wp2_with fail
 refine z.mono ?_;rintro e w1 ⟨A,rfl,hA,P,C⟩;have p:=(qag.new (w:=w) (T:=9) [.string ⟨#[]⟩] rfl).later C;have c1:=p.cell 0 _ rfl;have f1:=p.free 0 (by simp);have D:Below w.heap.size w w1:=qab O C;have q:=k.out.1.ck.later D;have cm:=q.cell1;have r:Below w1.heap.size w1 w1.drew:=(Below.refl _ _).drew;have E:Below w.heap.size w w1.drew:=qab D r;have Q:=qxl S i hi (w:=w1.drew) (cb:=cb) (mb:=mb) (b:=b) (j:=j) (cap:=0) (Gw:=Gw) (G:=G) (W:=W) (a:=some ⟨A,0,none⟩) (l:=[]) ⟨q.later r,k.out.1.g,k.out.1.gl.later E,k.out.1.gn,k.out.1.wi,k.out.1.di,⟨by simp,λj y V=>by simp at V⟩,by simp⟩;obtain⟨A',o',F,hlt,cx⟩:=P.cell 0 x rfl;injection F with F;injection F with e1 e2;subst e1;subst e2;have X:(Instr.lookup 55 (.map (some mb)) (.string x) false).run prog w1.drew=.ok (.func (.func (jco i)) #[.pointer (some ⟨cb,0,none⟩)] #[]) w1.drew:=qez.held (w:=w1.drew) (q.map.kept rfl) U hi N;have FE:=qtq i hi;have o:Hid (Below w.heap.size w w1.drew/\qag w1.drew w.heap.size [.string ⟨#[]⟩]):=⟨E,p.later r⟩
 have eqn:∀(w:World) (f:Fn) (c d:Array Value),(binOp .eql 65 (.func f c d) .nilFunc).run prog w=.ok (.bool false) w:=λ_ _ _ _=>by kernel_rfl
 clear C O P z q D p r E u N
 dsimp only[List.length_cons,List.length_nil,Nat.reduceAdd]at*
 go_wp2
 go_region
 all_goals
  go_wp2_with fail
  refine Q.mono ?_;rintro e w2 ⟨W',er,told,H,Y,I⟩;have R:Hid _:=I;have Z:=H.few.wf
  have J:Hid (qee W m W' (if er=0 then told else qpn er)):=by
   show qee W m W' (if er=0 then told else qpn er);unfold qee;rw[k.out.2.1]
   dsimp only
   rw[k.out.2.2];exact⟨er,told,H,rfl⟩
  have K:=qn1 o.out.2 I k.out.1.ltG (Nat.le_refl _);have c2:=K.cell 0 _ rfl;have f2:=K.free 0 (by simp);clear I H Q K X;rcases Y with ⟨L,rfl⟩|⟨L,rfl⟩
  ·have n:=J.out;rw[if_pos L]at n;have HA:Hid _:=n;clear n J
   go_wp2
   exact q40 k.out.1 o.out.1 o.out.2 R.out HA.out rfl
  ·have n:=J.out;rw[if_neg L]at n;exact qsr k.out.1 o.out.1 o.out.2 R.out Z n rfl
theorem q0r (U:qqv 9) (h:qmx w cb mb b Gw G W j) {m y:ByteArray} (hl:m.size<=20000) (s:qc3 m=x::y::l) (V:x.size<=maxLen) (X:∀z∈y::l,z.size<=1000000) (u:qi0.idxOf? x.data.toList=some i):
 Calls prog 11 #[.pointer (some ⟨cb,0,none⟩),.string m] w (ql6 W m w cb mb G):=by
 have hmf:∀(fn:Fn) (O cap:Array Value) (w:World),(Instr.makeFunc fn O cap).run prog w=.ok (.func fn O cap) w:=λ_ _ _ _=>rfl;obtain⟨hi,P⟩:=qpm u;have C:=ql5 m (by omega) (w.alloc (.cells #[.string ⟨#[]⟩] 9));rw[s]at C;have k:Hid (qmx w cb mb b Gw G W j/\qc3 m=x::y::l/\qi0.idxOf? x.data.toList=some i):=⟨h,s,u⟩;have Q:=boxed (Below.refl w.heap.size w) (.cells #[.string ⟨#[]⟩] 9);clear h s
 go_enter_defers func11,ntmps11
 go_wp2_with fail
 refine C.mono ?_;rintro e w1 ⟨A,rfl,hA,D,E⟩;have q:=(qag.new (w:=w) (T:=9) [.string ⟨#[]⟩] rfl).later E;have c1:=q.cell 0 _ rfl;have f1:=q.free 0 (by simp);have F:Below w.heap.size w w1:=qab Q E;have r:=k.out.1.ck.later F;have cm:=r.cell1;have o:Below w1.heap.size w1 w1.drew:=(Below.refl _ _).drew;have H:Below w.heap.size w w1.drew:=qab F o
 have R:=qxl U i hi (w:=w1.drew) (cb:=cb) (mb:=mb) (b:=b) (j:=j) (cap:=l.length+1) (Gw:=Gw) (G:=G) (W:=W) (a:=some ⟨A,1,none⟩) (l:=y::l) ⟨r.later o,k.out.1.g,k.out.1.gl.later H,k.out.1.gn,k.out.1.wi,k.out.1.di,by
  have:=(D.later o).tail
  simpa using this,X⟩
 obtain⟨A',o',I,hlt,cx⟩:=D.cell 0 x rfl;injection I with I;injection I with e1 e2;subst e1;subst e2;have Y:(Instr.lookup 55 (.map (some mb)) (.string x) false).run prog w1.drew=.ok (.func (.func (jco i)) #[.pointer (some ⟨cb,0,none⟩)] #[]) w1.drew:=qez.held (w:=w1.drew) (r.map.kept rfl) V hi P;have FE:=qtq i hi;have p:Hid (Below w.heap.size w w1.drew/\qag w1.drew w.heap.size [.string ⟨#[]⟩]):=⟨H,q.later o⟩
 have eqn:∀(w:World) (f:Fn) (c d:Array Value),(binOp .eql 65 (.func f c d) .nilFunc).run prog w=.ok (.bool false) w:=λ_ _ _ _=>by kernel_rfl
 clear E Q D C r F q o H u P
 dsimp only[List.length_cons]at*
 go_wp2
 go_region
 all_goals
  go_wp2_with fail
  refine R.mono ?_;rintro e w2 ⟨W',er,told,J,Z,K⟩;have S:Hid _:=K;have aa:=J.few.wf
  have L:Hid (qee W m W' (if er=0 then told else qpn er)):=by
   show qee W m W' (if er=0 then told else qpn er);unfold qee;rw[k.out.2.1]
   dsimp only
   rw[k.out.2.2];exact⟨er,told,J,rfl⟩
  have M:=qn1 p.out.2 K k.out.1.ltG (Nat.le_refl _);have c2:=M.cell 0 _ rfl;have f2:=M.free 0 (by simp);clear K J R M Y;rcases Z with ⟨N,rfl⟩|⟨N,rfl⟩
  ·have n:=L.out;rw[if_pos N]at n;have HA:Hid _:=n;clear n L
   go_wp2
   exact q40 k.out.1 p.out.1 p.out.2 S.out HA.out rfl
  ·have n:=L.out;rw[if_neg N]at n;exact qsr k.out.1 p.out.1 p.out.2 S.out aa n rfl
end
section
open Go.RowKit
theorem q1i (s:ByteArray):∀x∈qc3 s,x.size<=s.size:=λx a=>by
 unfold qc3 Lib.goFieldsP at a;obtain⟨p,_,rfl⟩:=List.mem_map.1 a;rw[ByteArray.size_extract];omega
theorem q0l (g:qqv 9) {w:World} {cb mb b j:Nat} {Gw G:Nat->Prop} {W:WoS} (h:qmx w cb mb b Gw G W j) {a:ByteArray} (c:a.size<=20000):
 Calls Tryz.prog 11 #[.pointer (some ⟨cb,0,none⟩),.string a] w (ql6 W a w cb mb G):=by
 have d:=q1i a;cases hw:qc3 a with
 |nil=>exact quo h c hw
 |cons x l=>
  rw[hw]at d
  have e:x.size<=maxLen:=by have:=d x (by simp);simp only[maxLen];omega
  cases hn:qi0.idxOf? x.data.toList with
  |none=>exact qwl h c hw e hn
  |some i=>
   cases l with
   |nil=>exact qz5 g h c hw e hn
   |cons y l=>exact q0r g h c hw e (λz q=>by have:=d z (by simp only[List.mem_cons]at q ⊢;exact .inr q);omega) hn
end
section
open Go.RowKit Go.Maps Go.Sort Go.Shelf
def Tryz.keys108_ren:Go.Shelf.Ren:=⟨λ|7=>108|10=>157|n=>n,λ|23=>55|26=>9|3=>65|28=>34|0=>0|27=>33|33=>24|4=>4|n=>n,λ|n=>n⟩
theorem Tryz.keys108:Go.Proofs.SlLaysZ.n7 Tryz.prog Tryz.keys108_ren:={
 mixed:=by kernel_rfl
 f7:=⟨Tryz.f108.name,by decide,Tryz.func108.trans (congrArg some (by kernel_rfl))⟩
 f10:=⟨Tryz.f157.name,by decide,Tryz.func157.trans (congrArg some (by kernel_rfl))⟩
 t0:=Tryz.underlying0
 a0:=Tryz.isAgg0
 z0:=Tryz.sizeOf0
 v0:=Tryz.zeroValue0
 t4:=Tryz.underlying4
 a4:=Tryz.isAgg4
 z4:=Tryz.sizeOf4
 v4:=Tryz.zeroValue4
 t23:=Tryz.underlying55
 a23:=Tryz.isAgg55
 z23:=Tryz.sizeOf55
 v23:=Tryz.zeroValue55
 t26:=Tryz.underlying9
 a26:=Tryz.isAgg9
 z26:=Tryz.sizeOf9
 v26:=Tryz.zeroValue9
 t27:=Tryz.underlying33
 a27:=Tryz.isAgg33
 z27:=Tryz.sizeOf33
 v27:=Tryz.zeroValue33
 t28:=Tryz.underlying34
 a28:=Tryz.isAgg34
 z28:=Tryz.sizeOf34
 v28:=Tryz.zeroValue34
 t33:=Tryz.underlying24
 a33:=Tryz.isAgg24
 z33:=Tryz.sizeOf24
 v33:=Tryz.zeroValue24}
def Tryz.sorted107_ren:Go.Shelf.Ren:=⟨λ|6=>107|8=>156|9=>92|11=>214|13=>133|12=>132|23=>194|24=>195|14=>185|15=>186|16=>187|17=>188|18=>189|19=>190|20=>191|21=>192|22=>193|25=>232|26=>233|27=>234|28=>235|29=>236|30=>237|31=>267|n=>n,λ|26=>9|28=>34|24=>42|0=>0|3=>3|37=>190|48=>250|50=>192|4=>4|40=>244|39=>243|45=>93|5=>5|9=>9|51=>289|55=>293|57=>327|58=>144|33=>24|n=>n,λ|n=>n⟩
theorem Tryz.sorted107:Go.Proofs.SlLaysZ.n6 Tryz.prog Tryz.sorted107_ren:={
 mixed:=by kernel_rfl
 f6:=⟨Tryz.f107.name,by decide,Tryz.func107.trans (congrArg some (by kernel_rfl))⟩
 f8:=⟨Tryz.f156.name,by decide,Tryz.func156.trans (congrArg some (by kernel_rfl))⟩
 f11:=⟨Tryz.f214.name,by decide,Tryz.func214.trans (congrArg some (by kernel_rfl))⟩
 t0:=Tryz.underlying0
 a0:=Tryz.isAgg0
 z0:=Tryz.sizeOf0
 v0:=Tryz.zeroValue0
 t24:=Tryz.underlying42
 a24:=Tryz.isAgg42
 z24:=Tryz.sizeOf42
 v24:=Tryz.zeroValue42
 t26:=Tryz.underlying9
 a26:=Tryz.isAgg9
 z26:=Tryz.sizeOf9
 v26:=Tryz.zeroValue9
 t28:=Tryz.underlying34
 a28:=Tryz.isAgg34
 z28:=Tryz.sizeOf34
 v28:=Tryz.zeroValue34
 i26:=by kernel_rfl}
def Tryz.sort92_ren:Go.Shelf.Ren:=⟨λ|6=>92|8=>133|9=>132|19=>194|20=>195|21=>185|22=>186|23=>187|24=>188|25=>189|26=>190|27=>191|28=>192|29=>193|36=>232|31=>233|32=>234|37=>235|38=>236|39=>237|41=>267|n=>n,λ|27=>42|29=>9|3=>3|32=>190|26=>42|0=>0|44=>250|46=>192|4=>4|36=>244|35=>243|41=>93|5=>5|9=>9|53=>289|57=>293|63=>327|64=>144|n=>n,λ|n=>n⟩
theorem Tryz.sort92:Go.Proofs.SlLaysM.n6 Tryz.prog Tryz.sort92_ren:={
 mixed:=by kernel_rfl
 f6:=⟨Tryz.f92.name,by decide,Tryz.func92.trans (congrArg some (by kernel_rfl))⟩
 f8:=Tryz.func133.trans (congrArg some (by kernel_rfl))
 f9:=⟨Tryz.f132.name,by decide,Tryz.func132.trans (congrArg some (by kernel_rfl))⟩
 f19:=Tryz.func194.trans (congrArg some (by kernel_rfl))
 f20:=Tryz.func195.trans (congrArg some (by kernel_rfl))
 f21:=⟨Tryz.f185.name,by decide,Tryz.func185.trans (congrArg some (by kernel_rfl))⟩
 f22:=⟨Tryz.f186.name,by decide,Tryz.func186.trans (congrArg some (by kernel_rfl))⟩
 f23:=⟨Tryz.f187.name,by decide,Tryz.func187.trans (congrArg some (by kernel_rfl))⟩
 f24:=⟨Tryz.f188.name,by decide,Tryz.func188.trans (congrArg some (by kernel_rfl))⟩
 f25:=⟨Tryz.f189.name,by decide,Tryz.func189.trans (congrArg some (by kernel_rfl))⟩
 f26:=⟨Tryz.f190.name,by decide,Tryz.func190.trans (congrArg some (by kernel_rfl))⟩
 f27:=⟨Tryz.f191.name,by decide,Tryz.func191.trans (congrArg some (by kernel_rfl))⟩
 f28:=⟨Tryz.f192.name,by decide,Tryz.func192.trans (congrArg some (by kernel_rfl))⟩
 f29:=⟨Tryz.f193.name,by decide,Tryz.func193.trans (congrArg some (by kernel_rfl))⟩
 f31:=Tryz.func233.trans (congrArg some (by kernel_rfl))
 f32:=Tryz.func234.trans (congrArg some (by kernel_rfl))
 f36:=⟨Tryz.f232.name,by decide,Tryz.func232.trans (congrArg some (by kernel_rfl))⟩
 f37:=⟨Tryz.f235.name,by decide,Tryz.func235.trans (congrArg some (by kernel_rfl))⟩
 f38:=⟨Tryz.f236.name,by decide,Tryz.func236.trans (congrArg some (by kernel_rfl))⟩
 f39:=⟨Tryz.f237.name,by decide,Tryz.func237.trans (congrArg some (by kernel_rfl))⟩
 f41:=⟨Tryz.f267.name,by decide,Tryz.func267.trans (congrArg some (by kernel_rfl))⟩
 t0:=Tryz.underlying0
 a0:=Tryz.isAgg0
 z0:=Tryz.sizeOf0
 v0:=Tryz.zeroValue0
 t3:=Tryz.underlying3
 a3:=Tryz.isAgg3
 z3:=Tryz.sizeOf3
 v3:=Tryz.zeroValue3
 t4:=Tryz.underlying4
 a4:=Tryz.isAgg4
 z4:=Tryz.sizeOf4
 v4:=Tryz.zeroValue4
 t5:=Tryz.underlying5
 a5:=Tryz.isAgg5
 z5:=Tryz.sizeOf5
 v5:=Tryz.zeroValue5
 t9:=Tryz.underlying9
 a9:=Tryz.isAgg9
 z9:=Tryz.sizeOf9
 v9:=Tryz.zeroValue9
 t26:=Tryz.underlying42
 a26:=Tryz.isAgg42
 z26:=Tryz.sizeOf42
 v26:=Tryz.zeroValue42
 t27:=Tryz.underlying42
 a27:=Tryz.isAgg42
 z27:=Tryz.sizeOf42
 v27:=Tryz.zeroValue42
 t29:=Tryz.underlying9
 a29:=Tryz.isAgg9
 z29:=Tryz.sizeOf9
 v29:=Tryz.zeroValue9
 t32:=Tryz.underlying190
 a32:=Tryz.isAgg190
 z32:=Tryz.sizeOf190
 v32:=Tryz.zeroValue190
 t35:=Tryz.underlying243
 a35:=Tryz.isAgg243
 z35:=Tryz.sizeOf243
 v35:=Tryz.zeroValue243
 t36:=Tryz.underlying244
 a36:=Tryz.isAgg244
 z36:=Tryz.sizeOf244
 v36:=Tryz.zeroValue244
 t41:=Tryz.underlying93
 a41:=Tryz.isAgg93
 z41:=Tryz.sizeOf93
 v41:=Tryz.zeroValue93
 t44:=Tryz.underlying250
 a44:=Tryz.isAgg250
 z44:=Tryz.sizeOf250
 v44:=Tryz.zeroValue250
 t46:=Tryz.underlying192
 a46:=Tryz.isAgg192
 z46:=Tryz.sizeOf192
 v46:=Tryz.zeroValue192
 t53:=Tryz.underlying289
 a53:=Tryz.isAgg289
 z53:=Tryz.sizeOf289
 v53:=Tryz.zeroValue289
 t57:=Tryz.underlying293
 a57:=Tryz.isAgg293
 z57:=Tryz.sizeOf293
 v57:=Tryz.zeroValue293
 t63:=Tryz.underlying327
 a63:=Tryz.isAgg327
 z63:=Tryz.sizeOf327
 v63:=Tryz.zeroValue327
 t64:=Tryz.underlying144
 a64:=Tryz.isAgg144
 z64:=Tryz.sizeOf144
 v64:=Tryz.zeroValue144}
theorem Tryz.sorts107 (m:Nat):AnyZ.SortsIn Tryz.prog Tryz.sorted107_ren Fence.wide m:=
 ⟨λblk a cap b W c d e=>callsIn_wide.2 (AnyM.slices_Sort_string Tryz.sort92 blk a cap b W c d e),
  λp cap W=>callsIn_wide.2 (AnyM.slices_Sort_string_none Tryz.sort92 p cap W)⟩
theorem Tryz.maps_Keys_108 (mb:Option Nat) (W:World):CallsIn Fence.wide 5 Tryz.prog 108 #[.map mb] W λe w'=>e=.returned (.func (.func 157) #[] #[.pointer (some ⟨W.heap.size,0,none⟩)])/\w'=W.alloc (.cells #[.map mb] 55):=
 AnyZ.keys_in Tryz.keys108 Fence.wide 5 trivial rfl mb W
theorem Tryz.slices_Sorted_keys_107_108 {H:Type} (b nn:Nat) (a:DataW H) (R:Value->Option (DataW H×List MemPlace)) (w:World) (d:w.ownsMap Tryz.prog 9 R b nn a) (f:Maps.size a<=maxLen) (g:Maps.size a*16<=140737488355328):
 CallsIn Fence.wide 5 Tryz.prog 107 #[.func (.func 157) #[] #[.pointer (some ⟨w.heap.size,0,none⟩)]] (w.alloc (.cells #[.map (some b)] 55)) λe w'=>∃(v:Value) (c:List (List UInt8)),e=.returned v/\c.Perm (strKeys a)/\
  w'.ownsRow (w.alloc (.cells #[.map (some b)] 55)).heap.size 9 1 v c.length ((c.mergeSort (λx y=>decide (x<=y))).map encStr)/\(v=.slice none 0 0↔c=[])/\Below (w.alloc (.cells #[.map (some b)] 55)).heap.size (w.alloc (.cells #[.map (some b)] 55)) w':=by
 have h:=d.lt
 have i:SeqGives Fence.wide 2 Tryz.prog 157 #[.pointer (some ⟨w.heap.size,0,none⟩)] encStr (λc=>c.Perm (strKeys a)) (Maps.size a) (w.alloc (.cells #[.map (some b)] 55)):=
  AnyZ.keys_gives (ρ:=Tryz.keys108_ren) {Tryz.keys108 with} Fence.wide _ trivial rfl (by omega) w.heap.size b nn a _ (by simp) (by simp) (by
   obtain⟨es,j,hb,k,hs,l⟩:=d
   exact⟨es,j,(Below.heap_alloc _ _ b h).trans hb,k,hs,l⟩)
 exact AnyZ.sorted_in Tryz.sorted107 Fence.wide 5 trivial trivial trivial trivial rfl (by omega) (Tryz.sorts107 _) (enters_of Tryz.func92 (by kernel_rfl) rfl) 157 #[.pointer (some ⟨w.heap.size,0,none⟩)] trivial (enters_of Tryz.func157 (by kernel_rfl) rfl) _ _ f g _ i
end
section
open Go.RowKit
theorem jbu:qqv 9:=λ{w cb mb b j cap Gw G W a l} h=>by
 show Calls Tryz.prog 55 #[.pointer (some ⟨cb,0,none⟩),.slice a l.length cap] w (qa3 9 W l w cb mb G);have n:Hid _:=h;have z:=qr5 h.sm w h.gl h.st;clear h;go_enter Tryz.func55,Tryz.ntmps55
 go_wp2_with fail
 refine z.mono ?_;rintro e o ⟨k,(⟨p,rfl⟩|⟨p,rfl⟩)⟩
 ·have r:=n.out.ck.later k;have Y:=r.cell1;obtain⟨D,own,d⟩:=r.map;have B:=callsIn_wide.1 (Tryz.maps_Keys_108 (some mb) o);have C:=callsIn_wide.1 (Tryz.slices_Sorted_keys_107_108 mb 19 D qe3 o own (by rw[d.size];decide) (by rw[d.size];decide));have F:Hid (o.ownsMap Tryz.prog 9 qe3 mb 19 D/\qrf D cb 19):=⟨own,d⟩;have O:Hid _:=k;clear r own d z k
  go_wp2_with fail
  refine B.mono ?_;rintro e w2 ⟨rfl,rfl⟩
  go_wp2_with fail
  refine C.mono ?_;rintro e c ⟨v,P,rfl,H,m,_,I⟩;have E:=qwo F.out.1 F.out.2 H
  have Q:P.length=19:=by have:=congrArg List.length E;rw[List.length_mergeSort]at this;exact this
  rw[E,Q]at m;obtain⟨_,(⟨_,R⟩|⟨g,J,cur,rfl,Z,K,S,aa,T,U⟩)⟩:=id m
  ·cases R
  have s:=Tryz.strings_Join g 0 J (qi0.map bya) ⟨#[32]⟩ c (λq y L=>by
   rw[Nat.zero_add];rw[List.getElem?_map]at L;obtain⟨x,M,rfl⟩:=Option.map_eq_some_iff.1 L;have V:q<19:=(List.getElem?_eq_some_iff.1 M).1;rw[m.cellAt q (by rw[Nat.mul_one];exact V),List.getElem?_map,M]
   rfl) (Array.getElem?_eq_some_iff.1 K).1 (by decide) S (by decide)
  replace s:Calls Tryz.prog 42 #[.slice (some ⟨g,0,none⟩) 19 J,.string ⟨#[32]⟩] c λe w'=>e=.returned (.string (bya (Lib.join qi0 [32])))/\Below c.heap.size c w':=s;have N:Hid (∀i,Below c.heap.size c i->qa3 9 W l w cb mb G (.returned (.string (bya (Lib.join qi0 [32])))) i):=λi u=>n.out.told (by decide) p.out ⟨rfl,rfl,rfl⟩ (qab (qab (boxed O.out _) I) u) (.inl ⟨rfl,rfl⟩);clear m K U T H E I C B
  go_wp2_with fail
  refine s.mono ?_;rintro e i ⟨rfl,u⟩;have X:=N.out i u;clear N
  go_wp2
  go_ret;exact X
 ·exact⟨rfl,n.out.no (by decide) p.out k⟩
end
section
open Go.RowKit
def jdp (cb:Nat) (w w':World):Prop:=∃mb G,q9g cb mb (qhk 2 2) w' G/\(∀k,G k->w.heap.size<=k)/\Below w.heap.size w w'/\Gl w'
theorem qty (w:World) (g:Gl w):Calls Tryz.prog 8 #[] w λe w'=>∃cb,e=.returned (.pointer (some ⟨cb,0,none⟩))/\jdp cb w w':=by
 have j:Hid _:=g;have p:=boxed (Below.refl w.heap.size w) (.cells #[.pointer none,.map none] 57);have r:=q5s w.heap.size (w.alloc (.cells #[.pointer none,.map none] 57));clear g;go_enter Tryz.func8,Tryz.ntmps8
 go_wp2_with fail
 refine r.mono ?_;rintro e b ⟨rfl,h,l⟩
 have s:(w.alloc (.cells #[.pointer none,.map none] 57)).heap.size=w.heap.size+1:=by simp
 rw[s]at h;have i:b.heap[w.heap.size]?=some (.cells #[.pointer none,.map none] 57 (0,0)):=(l.block w.heap.size (by rw[s];omega)).trans (by show (w.heap.push _)[w.heap.size]?=_;exact Array.getElem?_push_size)
 have c1:b.cell? ⟨w.heap.size,1,none⟩=some (.map none):=by rw[Lib.cell_of_heap i];rfl
 have f1:b.frozen? ⟨w.heap.size,1,none⟩=false:=Lib.frozen_of_heap i 1
 have u:(b.setCell ⟨w.heap.size,1,none⟩ (.map (some (w.heap.size+1)))).heap[w.heap.size]?=some (.cells #[.pointer none,.map (some (w.heap.size+1))] 57 (0,0)):=by simp[World.setCell,Array.getElem?_modify,i]
 have v:Below w.heap.size w b:=qab p l;have n:Below w.heap.size w (b.setCell ⟨w.heap.size,1,none⟩ (.map (some (w.heap.size+1)))):=Below.setCell v (Nat.le_refl _) _;have l1:=h.lt;have x:=qlo 2 2 _ u (j.out.later n);have y:Hid (qez (b.setCell ⟨w.heap.size,1,none⟩ (.map (some (w.heap.size+1)))) (w.heap.size+1) w.heap.size 19/\Below w.heap.size w (b.setCell ⟨w.heap.size,1,none⟩ (.map (some (w.heap.size+1))))):=⟨h.kept (Below.heap_setCell _ _ _ _ (by show w.heap.size+1≠w.heap.size;omega)),n⟩;clear v n i u p l h r
 go_wp2_with fail
 refine x.mono ?_;rintro e E (⟨z,rfl,F,o,B,C,D,a⟩|⟨z,_⟩)
 rotate_left
 ·exact absurd (by omega) z
 have G:Hid (jdp w.heap.size w E):=by
  obtain⟨m,c⟩:=y.out;have ls:=c.size;have lm:=m.lt
  have q:∀k,o k->w.heap.size+1<k:=λk d=>by have:=D k d;omega
  refine⟨w.heap.size+1,λk=>k=w.heap.size\/k=w.heap.size+1\/o k,⟨F,o,⟨B,m.kept (a.block _ lm (by omega)),C,by omega,λe=>by have:=q _ e;omega,λe=>by have:=q _ e;omega⟩,λ_=>Iff.rfl⟩,λk d=>?_,?_,?_⟩
  ·rcases d with rfl|rfl|e
   ·exact Nat.le_refl _
   ·omega
   ·have:=q k e;omega
  ·exact⟨a.os.trans c.os,a.tape.trans c.tape,a.output.trans c.output,Nat.le_trans c.size a.size,λk d=>(a.block k (by omega) (by omega)).trans (c.block k d)⟩
  ·have sz:=j.out.sz;exact(j.out.later c).kept (λk d=>a.block k (by omega) (by omega)) a.size
 clear B C D a x y c1 f1
 go_wp2
 go_ret;exact⟨_,rfl,G.out⟩
end
section
open Tryz Go.RowKit
def qm5 (B b:Nat) (l:List UInt8) (w:World) (G:Nat->Prop):Prop:=
 B<=b/\∃p v,(p=.pointer none\/p=.pointer (some ⟨b,0,none⟩))/\w.heap[b]?=some (.cells #[p,v] 32 (0,0))/\w.ownsRow B 5 1 v (Lib.byteCells l).length (Lib.byteCells l)/\v.ownBlock≠some b/\∀k,G k↔(k=b\/v.ownBlock=some k)
variable {B b:Nat} {l:List UInt8} {w:World} {G:Nat->Prop}
theorem qm5.lt (h:qm5 B b l w G):∀k,G k->k<w.heap.size:=λk a=>by
 obtain⟨_,p,v,_,hb,c,_,d⟩:=h;rcases(d k).1 a with rfl|e
 ·exact(Array.getElem?_eq_some_iff.1 hb).1
 ·exact(c.lt k e).2
theorem qm5.kept {w':World} (h:qm5 B b l w G) (c:∀k,G k->w'.heap[k]?=w.heap[k]?):qm5 B b l w' G:=by
 obtain⟨d,p,v,f,hb,g,i,a⟩:=h;exact⟨d,p,v,f,(c b ((a b).2 (.inl rfl))).trans hb,qad g (λk e=>c k ((a k).2 (.inr e))),i,a⟩
def jcr (B b:Nat) (l:List UInt8):qnm:=⟨λw G=>qm5 B b l w G,λ_ _ h=>h.lt,λ_ _ _ h hk _=>h.kept hk⟩
theorem qm5.is (h:qm5 B b l w G):Lib.IsBuilder 32 5 B b (Lib.byteCells l) w:=by
 obtain⟨a,p,v,e,hb,c,d,f⟩:=h;rcases e with rfl|rfl
 ·exact .inl ⟨a,v,hb,c,d⟩
 ·exact .inr ⟨a,v,hb,c,d⟩
theorem qx2:(prog.info? 5).map (λi=>(i.zero,i.size,i.bytes))=some (some (.int .u8 0),1,1):=by kernel_rfl
theorem q20:(prog.info? 32).map (·.size)=some 2:=by kernel_rfl
theorem ja9:liesAt prog prog.depth 32 (2/prog.cellsOf 32) 0 32 1=true:=by kernel_rfl
theorem qp0 (b:Nat) (w:World) (c:w.cell? ⟨b,0,none⟩=some (.pointer (some ⟨b,0,none⟩))):
 Calls prog 24 #[.pointer (some ⟨b,0,none⟩)] w λe w'=>e=.returned (.tuple #[])/\w'=w:=by
 obtain⟨j,a,_⟩:=Option.map_eq_some_iff.1 q20;go_enter func24,ntmps24
 go_wp2
 rw[Lib.run_neq_ptr_same w _ underlying29 a]
 go_wp2
 go_end0;exact⟨rfl,rfl⟩
theorem qow (b:Nat) (w:World) (g:w.cell? ⟨b,0,none⟩=some (.pointer none)) (a:w.shape? b=some (32,2)) (h:w.frozen? ⟨b,0,none⟩=false):
 Calls prog 24 #[.pointer (some ⟨b,0,none⟩)] w λe w'=>e=.returned (.tuple #[])/\w'=w.setCell ⟨b,0,none⟩ (.pointer (some ⟨b,0,none⟩)):=by
 obtain⟨j,c,d⟩:=Option.map_eq_some_iff.1 q20;have i:=@run_callFunc_extern prog 69 _ Extern.AbiNoEscape.same func69 (by kernel_rfl) (by kernel_rfl) (by kernel_rfl) (by kernel_rfl);have k:=λx w=>Lib.run_noEscape (P:=prog) (w:=w) x;have m:=Lib.run_to_unsafe (P:=prog) w ⟨b,0,none⟩ underlying29 underlying117 c (by rw[d];decide) a (Nat.zero_lt_succ 1);have n:=Lib.run_from_unsafe (P:=prog) w ⟨b,0,none⟩ underlying117 underlying29 c a ja9;go_enter func24,ntmps24
 go_wp2
 go_end0;exact⟨rfl,rfl⟩
theorem ql1 (w:World) (h:qm5 B b l w G):
 Calls prog 24 #[.pointer (some ⟨b,0,none⟩)] w λe w'=>e=.returned (.tuple #[])/\∃v,w'.heap[b]?=some (.cells #[.pointer (some ⟨b,0,none⟩),v] 32 (0,0))/\w'.ownsRow B 5 1 v (Lib.byteCells l).length (Lib.byteCells l)/\v.ownBlock≠some b/\(∀k,G k↔(k=b\/v.ownBlock=some k))/\qae G w w':=by
 obtain⟨m,p,v,i,hb,g,a,c⟩:=h;rcases i with rfl|rfl
 ·refine(qow b w (by rw[Lib.cell_of_heap hb];rfl) (by simp[World.shape?,hb]) (Lib.frozen_of_heap hb 0)).mono ?_;rintro e w' ⟨rfl,rfl⟩;refine⟨rfl,v,by simp[World.setCell,Array.getElem?_modify,hb],qad g (λk e=>Below.heap_setCell _ _ _ _ (λd=>a (by rw[e,d]))),a,c,rfl,rfl,rfl,by simp[World.setCell],λk _ j=>Below.heap_setCell _ _ _ _ (λd=>j ((c k).2 (.inl d)))⟩
 ·refine(qp0 b w (by rw[Lib.cell_of_heap hb];rfl)).mono ?_;rintro e w' ⟨rfl,rfl⟩;exact⟨rfl,v,hb,g,a,c,qae.ofBelow (Below.refl _ _)⟩
theorem q2u {g:List UInt8} {v v':Value} {a w2:World} (p:B<=b) (c:qae G w a) (d:∀k,G k↔(k=b\/v.ownBlock=some k))
 (m:w2.heap[b]?=some (.cells #[.pointer (some ⟨b,0,none⟩),v] 32 (0,0))) (n:w2.ownsRow B 5 1 v' (Lib.byteCells g).length (Lib.byteCells g)) (q:∀k,v'.ownBlock=some k->v.ownBlock=some k\/a.heap.size<=k)
 (r:a.heap.size<=w2.heap.size/\w2.os=a.os/\w2.tape=a.tape/\w2.output=a.output/\∀k,k<a.heap.size->v.ownBlock≠some k->w2.heap[k]?=a.heap[k]?):
 qg0 (jcr B b g) w G (w2.setCell ⟨b,1,none⟩ v'):=by
 have o:=Lib.ownBlock_ne n m (by decide);obtain⟨g1,s,g3,g4,u⟩:=r;refine⟨λk=>k=b\/v'.ownBlock=some k,⟨p,.pointer (some ⟨b,0,none⟩),v',.inr rfl,by simp[World.setCell,Array.getElem?_modify,m],qad n (λk e=>Below.heap_setCell _ _ _ _ (λi=>o (by rw[e,i]))),o,λ_=>Iff.rfl⟩,λk f=>?_,?_⟩
 ·rcases f with rfl|e
  ·exact .inl ((d k).2 (.inl rfl))
  ·rcases q k e with h|h
   ·exact .inl ((d k).2 (.inr h))
   ·exact .inr (Nat.le_trans c.size h)
 ·refine⟨s.trans c.os,g3.trans c.tape,g4.trans c.output,Nat.le_trans c.size (by simp[World.setCell];exact g1),λk f j=>?_⟩;rw[Below.heap_setCell _ _ _ _ (λi=>j ((d k).2 (.inl i))),u k (Nat.lt_of_lt_of_le f c.size) (λe=>j ((d k).2 (.inr e))),c.block k f j]
theorem qly (a b:List UInt8):Lib.byteCells (a++b)=Lib.byteCells a++Lib.byteCells b:=by simp[Lib.byteCells]
theorem qf8 (a:List UInt8):(Lib.byteCells a).length=a.length:=by simp[Lib.byteCells]
variable {P:Program}
theorem qsd (w:World) (base:Nat) (t u c e:TypeId) (i:TypeInfo) (d:P.underlying t=some (.slice e)) (f:P.underlying u=some .string) (hi:P.info? e=some i) (o:i.zero=some (.int .u8 0)) (h:i.size=1) (p:i.bytes=1)
 (v:Value) (n:Nat) (xs:List Value) (m:w.ownsRow base e 1 v n xs) (s:ByteArray) (x:n+s.size<=maxLen) (D:n+s.size<=140737488355328):
 ∃v' w',(Builtin.append_ #[t,u] c #[v,.string s]).run P w=.ok v' w'/\∀k,v'.ownBlock=some k->v.ownBlock=some k\/k=w.heap.size:=by
 have E:n+s.size<=9223372036854775807:=by simp only[maxLen]at x;omega
 have y:xs.length=n:=by simpa using m.1
 rcases m.2 with ⟨rfl,rfl⟩|⟨g,cap,cur,rfl,F,z,H,I,J,K⟩
 ·by_cases q:s.size=0
  ·refine⟨.slice none 0 0,w,?_,λk a=>.inl a⟩;have r:=Lib.run_firstCells_string (P:=P) w 1 s;rw[q]at r;simp[Builtin.append_,run_underlying d,run_underlying f,sizeOf,typeInfo,hi,h,Builtin.lenOf,q,r]
  ·exact⟨_,_,run_append_nil_string (P:=P) w t u c e i (.int .u8 0) d f hi o s (by omega) (by omega) (by rw[p];omega),λk a=>.inr (by simpa[Value.ownBlock,eq_comm]using a)⟩
 ·by_cases A:n+s.size<=cap
  ·exact⟨_,_,Lib.run_append_room_string (P:=P) w t u c e i d f hi h g n cap cur z s A (by omega),λk a=>.inl (by simpa[Value.ownBlock]using a)⟩
  ·have C:∀j u,xs[j]?=some u->w.cell? ((⟨g,0,none⟩:Addr).add j)=some u:=m.cells (g:=g) rfl;exact⟨_,_,Lib.run_append_grow_string (P:=P) w t u c e i (.int .u8 0) d f hi o ⟨g,0,none⟩ n cap xs (by rw[h];simpa using y) C s (by omega) (by omega) (by rw[p];exact growslice_fits (by omega) (by omega)),λk a=>.inr (by simpa[Value.ownBlock,eq_comm]using a)⟩
theorem qmu (w:World) {c:Array Oper} {rest:List Oper} {o:Oper} {a:Act} {Q:Exit->Act->World->Prop} (C:o.guard=none) (d x:Operand) (t u:TypeId)
 (D:o.op=.call {callee:=.builtin .append,args:=#[d,x],argTypes:=#[t,u]})
 (base:Nat) (e:TypeId) (i:TypeInfo) (f:P.underlying t=some (.slice e)) (g:P.underlying u=some .string) (hi:P.info? e=some i) (j:i.zero=some (.int .u8 0))
 (m:i.size=1) (p:i.bytes=1)
 (v:Value) (n:Nat) (xs:List Value) (hs:a.eval d=v) (q:w.ownsRow base e 1 v n xs) (s:ByteArray) (E:a.eval x=.string s)
 (r:n+s.size<=maxLen) (y:n+s.size<=140737488355328) (F:base<=w.heap.size)
 (h:∀v' w',w'.ownsRow base e 1 v' (n+s.size) (xs++Lib.strCells s)->w.grownBy w' v.ownBlock->(∀k,v'.ownBlock=some k->v.ownBlock=some k\/k=w.heap.size)->wpList P c Q rest (a.put o.dst v') w'):wpList P c Q (o::rest) a w:=by
 refine wpList_plain C λK H=>?_;obtain⟨v',w',z,I,J,M⟩:=Lib.run_append_own_string (P:=P) w base t u o.type e i f g hi j m p v n xs q s r y F;obtain⟨v2,w2,A,L⟩:=qsd (P:=P) w base t u o.type e i f g hi j m p v n xs q s r y;rw[z]at A;injection A with e1 e2;subst e1;unfold Oper.wp execOp;simp only[D,resolve,invoke,builtin,Sem.run_bind,Sem.run_pure,Result.andThen_ok,List.map_toArray,List.map_cons,List.map_nil,hs,E,z];exact H _ _ (h v' w' I J L)
theorem qpk (s:ByteArray) (w:World) (h:qm5 B b l w G) (K:l.length+s.size<=140737488355328) (L:B<=w.heap.size):
 Calls prog 10 #[.pointer (some ⟨b,0,none⟩),.string s] w λe w'=>e=.returned (.tuple #[.int .i64 s.size,.nilIface])/\qg0 (jcr B b (l++s.data.toList)) w G w':=by
 obtain⟨i0,hi,z,C,D⟩:=info_parts qx2;have p:=ql1 w h;have E:Hid _:=h.1;clear h;go_enter func10,ntmps10
 go_wp2_with fail
 refine p.mono ?_;clear p;rintro e q ⟨rfl,v,c,r,u,x,i⟩
 have c1:q.cell? ⟨b,1,none⟩=some v:=by rw[Lib.cell_of_heap c];rfl
 go_wp2_with (at_builtin;refine qmu _ rfl _ _ 30 9 rfl B 5 i0 underlying30 underlying9 hi z C D _ _ _ rfl r s rfl ?c3 ?c4 ?c5 ?_)
 case c3=>rw[qf8];unfold maxLen;omega
 case c4=>rw[qf8];omega
 case c5=>have:=i.size;omega
 intro v' w2 j a y;have F:b<q.heap.size:=(Array.getElem?_eq_some_iff.1 c).1;have d:w2.heap[b]?=some (.cells #[.pointer (some ⟨b,0,none⟩),v] 32 (0,0)):=(a.block b F (λe=>u e.symm)).trans c
 have d1:w2.cell? ⟨b,1,none⟩=some v:=by rw[Lib.cell_of_heap d];rfl
 have f1:w2.frozen? ⟨b,1,none⟩=false:=Lib.frozen_of_heap d 1
 obtain⟨m,n,cap,rfl⟩:∃m n cap,v'=.slice m n cap:=by
  rcases j.2 with ⟨o,_⟩|⟨g,cap,cur,o,_⟩
  ·exact⟨_,_,_,o⟩
  ·exact⟨_,_,_,o⟩
 have H:Hid (qg0 (jcr B b (l++s.data.toList)) w G (w2.setCell ⟨b,1,none⟩ (.slice m n cap))):=
  q2u E.out i x d (by rw[qly,List.length_append];simpa[Lib.strCells_length,Lib.strCells,Lib.byteCells]using j) (λk e=>(y k e).imp_right (λe=>by omega)) ⟨a.size,a.os,a.tape,a.output,λk I J=>a.block k I (λe=>J e.symm)⟩
 clear j a y x i r c u d
 go_wp2
 go_ret2;exact⟨rfl,H.out⟩
theorem qr6 (c:UInt8) (z:Int) (p:z=c.toNat) (w:World) (h:qm5 B b l w G) (O:l.length+1<=140737488355328) (Q:B<=w.heap.size):
 Calls prog 12 #[.pointer (some ⟨b,0,none⟩),.int .u8 z] w λe w'=>e=.returned .nilIface/\qg0 (jcr B b (l++[c])) w G w':=by
 obtain⟨i0,hi,E,F,H⟩:=info_parts qx2;have q:=ql1 w h;have I:Hid _:=h.1;have J:Hid _:=p;clear h p;go_enter func12,ntmps12
 go_wp2_with fail
 refine q.mono ?_;clear q;rintro e d ⟨rfl,v,i,r,s,x,o⟩;have K:b<d.heap.size:=(Array.getElem?_eq_some_iff.1 i).1
 have c1:d.cell? ⟨b,1,none⟩=some v:=by rw[Lib.cell_of_heap i];rfl
 go_wp2_with (at_builtin;refine wpList_append_lies _ rfl _ _ 30 rfl B 5 i0 (.int .u8 0) 1 1 underlying30 hi E F H rfl (by decide) _ _ _ rfl (r.alloc _) ⟨d.heap.size,0,none⟩ 1 1 [.int .u8 z] rfl rfl ?c1 ?c2 (by decide)?c3 ?c4 ?c5 _ rfl ?_)
 case c1=>
  intro j u m
  match j,m with
  |0,m=>simp at m;subst m;simp[Addr.add]
 case c2=>intro u y;simp at y;subst y;rfl
 case c3=>rw[qf8];unfold maxLen;omega
 case c4=>rw[qf8];omega
 case c5=>have:=o.size;simp;omega
 intro g cap w2 C a D R
 have n:w2.heap[b]?=some (.cells #[.pointer (some ⟨b,0,none⟩),v] 32 (0,0)):=by
  rw[a.block b (by simp;omega) (λe=>s e.symm),Lib.alloc_old d _ b K];exact i
 have d1:w2.cell? ⟨b,1,none⟩=some v:=by rw[Lib.cell_of_heap n];rfl
 have f1:w2.frozen? ⟨b,1,none⟩=false:=Lib.frozen_of_heap n 1
 have L:Hid (qg0 (jcr B b (l++[c])) w G (w2.setCell ⟨b,1,none⟩ (.slice (some ⟨g,0,none⟩) ((Lib.byteCells l).length+1) cap))):=
  q2u I.out o x n (by rw[qly,List.length_append];simpa[Lib.byteCells,J.out]using C) (λk e=>by
   simp[Value.ownBlock]at e;subst e;rcases D with h|h
   ·exact .inl h
   ·exact .inr (by rw[h];simp)) ⟨by have:=a.size;simp at this;omega,a.os,a.tape,a.output,λk M N=>(a.block k (by simp;omega) (λe=>N e.symm)).trans (Lib.alloc_old d _ k M)⟩
 clear C a D x o r i s n
 go_wp2
 go_ret;exact⟨rfl,L.out⟩
end
section
open Go.RowKit
structure qt6 (w0:World) (B cb mb tb:Nat) (X Z:Nat->Prop) (W:WoS) (out:List UInt8) (A:World) (G H:Nat->Prop):Prop where
 ck:q9g cb mb W A G
 bl:qm5 B tb out A H
 ap:∀k,G k->¬H k
 xz:∀k,X k->Z k/\k<w0.heap.size
 gx:∀k,k<10->X k
 z:∀k,Z k->¬G k/\¬H k
 gl:Gl A
 kp:qba X w0 A
section
variable {w0 A A':World} {B cb mb tb:Nat} {X Z G H:Nat->Prop} {W W':WoS} {out out':List UInt8}
theorem qt6.later (h:qt6 w0 B cb mb tb X Z W out A G H) (hb:Below A.heap.size A A'):qt6 w0 B cb mb tb X Z W out A' G H:=
 ⟨h.ck.kept (λk e=>hb.block k (h.ck.lt k e)) hb.size,h.bl.kept (λk e=>hb.block k (h.bl.lt k e)),h.ap,h.xz,h.gx,h.z,h.gl.later hb,h.kp.trans ⟨hb.os,hb.tape,hb.output,hb.size,λk e=>hb.block k (Nat.lt_of_lt_of_le (h.xz k e).2 h.kp.size)⟩⟩
theorem qt6.puts (h:qt6 w0 B cb mb tb X Z W out A G H) {q:Nat} (b:Z q) (c:¬X q) (o:Obj):qt6 w0 B cb mb tb X Z W out (A.putObj q o) G H:=by
 have ne:∀k,k≠q->(A.putObj q o).heap[k]?=A.heap[k]?:=λk d=>World.putObj_heap_other d
 have sz:A.heap.size<=(A.putObj q o).heap.size:=by simp
 exact⟨h.ck.kept (λk e=>ne k (λa=>(h.z q b).1 (a▸e))) sz,h.bl.kept (λk e=>ne k (λa=>(h.z q b).2 (a▸e))),h.ap,h.xz,h.gx,h.z,h.gl.kept (λk e=>ne k (λa=>c (a▸h.gx k e))) sz,h.kp.trans ⟨rfl,rfl,rfl,sz,λk e=>ne k (λa=>c (a▸e))⟩⟩
theorem qt6.ans (h:qt6 w0 B cb mb tb X Z W out A G H) (f:∀k,Z k->k<A.heap.size) (g:qg0 (ckP cb mb W') A G A'):∃c,qt6 w0 B cb mb tb X Z W' out A' c H/\qba Z A A':=by
 obtain⟨c,p1,p2,a⟩:=g;have d:qba Z A A':=⟨a.os,a.tape,a.output,a.size,λk e=>a.block k (f k e) (h.z k e).1⟩;refine⟨c,⟨p1,h.bl.kept (λk e=>a.block k (h.bl.lt k e) (λq=>h.ap k q e)),λk e b=>?_,h.xz,h.gx,λk e=>⟨λb=>?_,(h.z k e).2⟩,h.gl.kept (λk e=>d.block k (h.xz k (h.gx k e)).1) a.size,h.kp.trans ⟨a.os,a.tape,a.output,a.size,λk e=>d.block k (h.xz k e).1⟩⟩,d⟩
 ·rcases p2 k e with q|q
  ·exact h.ap k q b
  ·have:=h.bl.lt k b;omega
 ·rcases p2 k b with q|q
  ·exact(h.z k e).1 q
  ·have:=f k e;omega
theorem qt6.wrote (h:qt6 w0 B cb mb tb X Z W out A G H) (f:∀k,Z k->k<A.heap.size) (g:qg0 (jcr B tb out') A H A'):∃b,qt6 w0 B cb mb tb X Z W out' A' G b/\qba Z A A':=by
 obtain⟨b,p1,p2,a⟩:=g;have c:qba Z A A':=⟨a.os,a.tape,a.output,a.size,λk e=>a.block k (f k e) (h.z k e).2⟩;refine⟨b,⟨h.ck.kept (λk e=>a.block k (h.ck.lt k e) (h.ap k e)) a.size,p1,λk e d=>?_,h.xz,h.gx,λk e=>⟨(h.z k e).1,λd=>?_⟩,h.gl.kept (λk e=>c.block k (h.xz k (h.gx k e)).1) a.size,h.kp.trans ⟨a.os,a.tape,a.output,a.size,λk e=>c.block k (h.xz k e).1⟩⟩,c⟩
 ·rcases p2 k d with q|q
  ·exact h.ap k e q
  ·have:=h.ck.lt k e;omega
 ·rcases p2 k d with q|q
  ·exact(h.z k e).2 q
  ·have:=f k e;omega
theorem qt6.answer (h:qt6 w0 B cb mb tb X Z W out A G H) (c:DkI W) {a:ByteArray} (d:a.size<=20000):
 Calls Tryz.prog 11 #[.pointer (some ⟨cb,0,none⟩),.string a] A (ql6 W a A cb mb G):=by
 obtain⟨b,Gw,g,i⟩:=h.ck;obtain⟨j,l⟩:=c.pl;exact q0l jbu ⟨g,i,h.gl,λk e=>(h.z k (h.xz k (h.gx k e)).1).1,l,c⟩ d
end
def SsI (w0:World) (B cb mb tb:Nat) (X Z:Nat->Prop) (pre:List ByteArray) (A:World):Prop:=∃W out G H,qfm (qhk 2 2) pre out W/\qt6 w0 B cb mb tb X Z W out A G H
end
section
open Go.RowKit
theorem q8r (s:ByteArray) (w:World):Calls Tryz.prog 9 #[.string s] w λe w'=>e=.returned (.func (.func 21) #[] #[.pointer (some ⟨w.heap.size,0,none⟩)])/\w'=w.alloc (.cells #[.string s] 9):=by
 have hmf:∀(fn:Fn) (a cap:Array Value) (w:World),(Instr.makeFunc fn a cap).run Tryz.prog w=.ok (.func fn a cap) w:=λ_ _ _ _=>rfl;go_enter Tryz.func9,Tryz.ntmps9
 go_wp2
 go_ret;exact⟨rfl,rfl⟩
def jb0 (s:List UInt8) (pre:List ByteArray) (rest:List UInt8) (more:Bool):Prop:=rest.length<=s.length/\(qgn s).map bya=pre++if more=true then (qds rest).map bya else []
def q90:Value->Nat
 |.string b=>b.size
 |_=>0
def jc2:Value->Nat
 |.bool true=>1
 |_=>0
theorem qy9 (n:Nat) (U:1<=n) (s:ByteArray) (hs:s.size<=20000) (B:Nat) (w:World) (G:B<w.heap.size) (j:w.cell? ⟨B,0,none⟩=some (.string s)):
 q9q Fence.wide n Tryz.prog 21 #[.pointer (some ⟨B,0,none⟩)] (λx:ByteArray=>#[.string x]) ((qgn s.data.toList).map bya) Gl w:=λl J W o H hb t I=>by
 have c0:W.cell? ⟨B,0,none⟩=some (.string s):=(o.cell (p:=⟨B,0,none⟩) G).trans j
 have K:s.data.toList.length<=20000:=by rw[<-Lib.size_eq];exact hs
 have v:=Tryz.strings_TrimSuffix s ⟨#[10]⟩ W (by omega);refine callsIn_of_wp Tryz.func21 rfl trivial ?_ rfl;simp only[Tryz.ntmps21,List.size_toArray,List.length_cons,List.length_nil,Nat.reduceAdd,Nat.reduceSub,Array.replicate_succ,Array.replicate_zero,List.push_toArray,List.append_toArray,List.nil_append,List.cons_append]
 gi_wp2_with (refine⟨trivial,?_⟩;gi_at_call 22;refine(callsIn_wide.2 v).mono ?_;rintro e w' ⟨rfl,rfl⟩)
 clear v c0 o j;have L:Hid _:=K
 gi_loopw [3,4] (λv3 v4 wr=>∃(a:List ByteArray) (r:List UInt8) (m:Bool),v3=.string ⟨r.toArray⟩/\v4=.bool m/\Hid (jb0 s.data.toList a r m)/\J a wr) (λv3 v4 _=>q90 v3+jc2 v4)
 case atStart=>exact⟨[],_,true,rfl,rfl,⟨by unfold Lib.trimSuffix;split<;>simp,by simp[qgn]⟩,I⟩
 case round=>
  obtain⟨a,r,m,rfl,rfl,b,d⟩:=hrel;cases m with
  |false=>
   gi_wp2
   go_end0;have e:=b.out.2;simp only[Bool.false_eq_true,if_false,List.append_nil]at e;rw[e];exact⟨⟨_,rfl⟩,d⟩
  |true=>
   obtain⟨k,C⟩:=(H _ _ d).ml;have g:=Tryz.strings_Cut ⟨r.toArray⟩ ⟨#[10]⟩ k wr (by have:=b.out.1;have:=L.out;show r.toArray.size<_;simp;omega) C;obtain⟨⟨x,y,f⟩,c⟩:∃z,Lib.cut r [10]=z:=⟨_,rfl⟩;have h:=qzk r;have i:=q65 r;rw[c]at h i
   replace g:Calls Tryz.prog 23 #[.string ⟨r.toArray⟩,.string ⟨#[10]⟩] wr λe w'=>e=.returned (.tuple #[.string ⟨x.toArray⟩,.string ⟨y.toArray⟩,.bool f])/\∃q,w'=wr.drewN q:=g.mono λe w' ⟨D,q,M⟩=>by
        have N:Lib.cut (⟨r.toArray⟩:ByteArray).data.toList (⟨#[10]⟩:ByteArray).data.toList=(x,y,f):=c;rw[N]at D;exact⟨D,q,M⟩
   have O:=b.out.1;have e:=b.out.2;rw[if_pos rfl,h]at e
   have E:Hid (∃rest,(qgn s.data.toList).map bya=a++bya x::rest/\jb0 s.data.toList (a++[bya x]) y f/\y.length+(if f=true then 1 else 0)<r.length+1):=by
        cases f with
        |true=>
         have l1:=i rfl;simp only at l1;simp only[if_true]at e ⊢;exact⟨(qds y).map bya,by rw[e];rfl,⟨by omega,by rw[e];simp⟩,by omega⟩
        |false=>
         simp only[Bool.false_eq_true,if_false]at e ⊢
         have P:y=[]:=by
          have q:(Lib.cut r [10]).2.2=false:=by rw[c]
          have:(Lib.cut r [10]).2.1=[]:=by
           unfold Lib.cut at q ⊢;split at q
           ·cases q
           ·rename_i u;rw[if_neg u]
          rw[c]at this;exact this
         subst P;exact⟨[],by rw[e];rfl,⟨by simp,by rw[e];simp⟩,by simp⟩
   obtain⟨rest,n1,n2,n3⟩:=E.out;have F:Hid (jb0 s.data.toList (a++[bya x]) y f/\y.length+(if f=true then 1 else 0)<r.length+1):=⟨n2,n3⟩;have Q:Hid (∀q,YieldAt Fence.wide (n-1) Tryz.prog l #[.string ⟨x.toArray⟩] (wr.drewN q) λe W'=>e=.returned (.bool true)/\J (a++[bya x]) W'):=λq=>t a (bya x) rest (wr.drewN q) (hb _ _ _ d ⟨rfl,rfl,rfl,Nat.le_refl _,λ_ _=>rfl⟩) n1;clear t O e n1 n2 n3 E b h i C c
   gi_wp2_with (refine⟨trivial,?_⟩;gi_at_call 23;refine(callsIn_wide.2 g).mono ?_;rintro e w' ⟨rfl,q,rfl⟩)
   obtain⟨fn,tmps,V,body,R,S⟩:=Q.out q;rw[R]
   gi_wp2
   refine S.mono ?_;rintro e X ⟨rfl,T⟩
   gi_wp2
   go_roundw
   case rel=>exact⟨_,y,f,rfl,rfl,F.out.1,T⟩
   case measure=>
        have:=F.out.2
        cases f<;>simp[q90,jc2,Lib.size_eq]at this ⊢<;>omega
end
section
open Go.RowKit Go.Shelf
attribute [local go_sem] Oper.semAt_some
theorem qrk {B b:Nat} {l:List UInt8} {G:Nat->Prop} (w:World) (h:qm5 B b l w G) (c:B<=w.heap.size):
 Calls Tryz.prog 13 #[.pointer (some ⟨b,0,none⟩)] w λe w'=>e=.returned (.string (bya l))/\Below B w w'/\∀(k:Nat) D,w.heap[k]?=some (Obj.deferred D)->w'.heap[k]?=some (Obj.deferred D):=
 (Any.Builder_String_any_k Tryz.lays169 Tryz.Builder_Extra_169 B b l w (Lib.IsBuilderF.of h.is) c).mono λe w' ⟨d,_,g,i⟩=>⟨d,g,λk D a=>i k _ a (λe=>by
  injection e with e;subst e;obtain⟨_,_,_,_,q,_⟩:=h;rw[a]at q
  cases q) (λ_ _ e=>by cases e)⟩
def jdj (s:ByteArray) (out:List UInt8):Prop:=∃A,qfm (qhk 2 2) ((qgn s.data.toList).map bya) out A
theorem qw8 (s:ByteArray) (hs:s.size<=20000) (w:World) (g:Gl w):
 Calls Tryz.prog 5 #[.string s] w λe w'=>∃c,e=.returned (.string (bya c))/\jdj s c/\Below w.heap.size w w':=by
 refine(callsIn_wide (n:=6)).1 ?_;have Y:=qty w g;have HG:Hid _:=g
 have hmany:¬20000<(s.size:Int):=by omega
 have Z:Hid _:=hs;clear g hs;refine callsIn_of_wp_marks Tryz.func5 rfl trivial ?_ rfl;simp only[Tryz.ntmps5,List.size_toArray,List.length_cons,List.length_nil,Nat.reduceAdd,Nat.reduceSub,Array.replicate_succ,Array.replicate_zero,List.push_toArray,List.append_toArray,List.nil_append,List.cons_append]
 gi_wp2_with (refine⟨trivial,?_⟩;gi_at_call 8;refine(callsIn_wide.2 Y).mono ?_;rintro e a ⟨cb,rfl,HN⟩)
 gi_wp2_with (refine⟨trivial,?_⟩;gi_at_call 9;refine(callsIn_wide.2 (q8r s _)).mono ?_;rintro e w' ⟨rfl,rfl⟩)
 obtain⟨mb,G,I,aa,J,g1⟩:=HN;obtain⟨b,j⟩:∃b,((a.alloc (.cells #[.pointer (some ⟨cb,0,none⟩)] 27)).alloc (.cells #[.pointer none,.slice none 0 0] 32)).alloc (.cells #[.string s] 9)=b:=⟨_,rfl⟩
 have r:Below a.heap.size a b:=by rw[<-j];exact boxed (boxed (boxed (Below.refl _ a) _) _) _
 have sz0:b.heap.size=a.heap.size+3:=by rw[<-j];simp
 have RC:qag b a.heap.size [.pointer (some ⟨cb,0,none⟩)]:=by rw[<-j];exact((qag.new (w:=a) (T:=27) [.pointer (some ⟨cb,0,none⟩)] rfl).boxed _).boxed _
 have RL:qag b (a.heap.size+1+1) [.string s]:=by rw[<-j];exact qag.new (w:=(a.alloc (.cells #[.pointer (some ⟨cb,0,none⟩)] 27)).alloc (.cells #[.pointer none,.slice none 0 0] 32)) (T:=9) (n:=a.heap.size+1+1) [.string s] (by simp)
 have hbx:b.heap[a.heap.size+1]?=some (.cells #[.pointer none,.slice none 0 0] 32 (0,0)):=by
  rw[<-j];refine(Below.heap_alloc _ _ _ (by simp)).trans ?_;have:=World.alloc_heap_new (a.alloc (.cells #[.pointer (some ⟨cb,0,none⟩)] 27)) (.cells #[.pointer none,.slice none 0 0] 32 (0,0))
  rwa [World.size_alloc]at this
 rw[j];clear j;have ls:=J.size
 have L:qt6 b a.heap.size cb mb (a.heap.size+1) (λk=>k<w.heap.size\/k=a.heap.size) (λk=>k<w.heap.size\/k=a.heap.size\/k=b.heap.size\/k=b.heap.size+1) (qhk 2 2) [] b G (λk=>k=a.heap.size+1):=by
  have lt:=I.lt;refine⟨I.kept (λk e=>r.block k (lt k e)) r.size,⟨by omega,.pointer none,.slice none 0 0,.inl rfl,hbx,⟨rfl,.inl ⟨rfl,rfl⟩⟩,by simp[Value.ownBlock],λk=>by simp[Value.ownBlock]⟩,λk e e2=>?_,λk e=>?_,λk e=>?_,λk e=>?_,g1.later r,qba.refl _ _⟩
  ·have:=lt k e;omega
  ·rcases e with e|e
   ·exact⟨.inl e,by omega⟩
   ·exact⟨.inr (.inl e),by omega⟩
  ·exact .inl (Nat.lt_of_lt_of_le e HG.out.sz)
  ·refine⟨λq=>?_,?_⟩
   ·have:=aa k q;have:=lt k q;omega
   ·omega
 have hd0:DkI (qhk 2 2):=DkI.new (by decide) (by decide) (by decide);have hmanyL:=qwy s.data.toList
 have hsl:s.data.toList.length<=20000:=by rw[<-Lib.size_eq];exact Z.out
 have M:=qy9 5 (by decide) s Z.out (a.heap.size+1+1) b (by omega) (RL.cell 0 _ rfl);have HB:Hid (Below w.heap.size w a/\Below a.heap.size a b):=⟨J,r⟩;clear Y I aa g1 J r hbx RL
 refine qlu rfl (by decide) (gf:=21) (lb:=#[.pointer (some ⟨a.heap.size+1+1,0,none⟩)]) rfl trivial (enters_of Tryz.func21 (by kernel_rfl) rfl) M (Below.refl _ _) (λ_=>rfl)
  (SsI b a.heap.size cb mb (a.heap.size+1) (λk=>k<w.heap.size\/k=a.heap.size) (λk=>k<w.heap.size\/k=a.heap.size\/k=b.heap.size\/k=b.heap.size+1))
  (λ_ _ ⟨_,_,_,_,_,h⟩=>h.gl) (λ_ _ _ ⟨d,c,G,H,N,h⟩ hb=>⟨d,c,G,H,N,h.later hb⟩) (λ_ _ o ⟨d,c,G,H,N,h⟩=>⟨d,c,G,H,N,h.puts (by simp) (by omega) o⟩) ⟨_,_,_,_,.nil,L⟩
  (λx=>{tmps:=#[.string s,undef,.string ⟨#[]⟩,.pointer (some ⟨a.heap.size,0,none⟩),.pointer (some ⟨a.heap.size+1,0,none⟩),.string x,.string s,.int .i64 s.size,.bool false,undef,undef,.pointer (some ⟨cb,0,none⟩),.string s,.func (.func 21) #[] #[.pointer (some ⟨a.heap.size+1+1,0,none⟩)],.string x,undef,undef,undef,undef,undef,undef],defers:=[]})
  ?assign ?body ?done
 case assign=>
  intro l x W K z
  gi_wp2
  exact z
 case body=>
  rintro l B x rest W O hsz2 ⟨d,c,G,H,m,i⟩;clear L M;obtain⟨hol,P⟩:=m.len hd0
  have hxl:x.size<=20000:=by
   have hm:x∈(qgn s.data.toList).map bya:=by rw[O];simp
   obtain⟨y,hy,rfl⟩:=List.mem_map.1 hm;have:=hmanyL.2 y hy;rw[Lib.size_eq];show y.length<=20000;omega
  have hpl:B.length<=20001:=by
   have:=congrArg List.length O;simp only[List.length_map,List.length_append,List.length_cons]at this;omega
  have hz:∀k,(k<w.heap.size\/k=a.heap.size\/k=b.heap.size\/k=b.heap.size+1)->k<W.heap.size:=λk e=>by omega
  have c0:=(RC.keeps i.kp (.inr rfl)).cell 0 _ rfl;have AN:=i.answer P hxl;have p:Hid (c.length<=401*B.length/\B.length<=20001/\qfm (qhk 2 2) B c d/\DkI d):=⟨hol,hpl,m,P⟩;have C:Hid _:=i;have HZ:Hid _:=hz;clear m i O P hol hpl hz hmanyL
  gi_wp2_with (refine⟨trivial,?_⟩;gi_at_call 11;refine(CallsIn.inRound l (callsIn_wide.2 AN)).mono ?_;rintro e D ⟨told,rfl,Q,R,hL⟩)
  obtain⟨G3,E,S⟩:=C.out.ans HZ.out hL;have tl:=R.len p.out.2.2.2;have hz3:∀k,(k<w.heap.size\/k=a.heap.size\/k=b.heap.size\/k=b.heap.size+1)->k<D.heap.size:=λk e=>Nat.lt_of_lt_of_le (HZ.out k e) S.size;have WS:=qpk (bya told) D E.bl (by rw[Lib.size_eq];show c.length+told.length<=_;have:=p.out.1;have:=p.out.2.1;omega) (by have:=E.kp.size;omega);have H3:Hid (qee d x Q told/\qba (λk=>k<w.heap.size\/k=a.heap.size\/k=b.heap.size\/k=b.heap.size+1) W D):=⟨R,S⟩;have HS3:Hid _:=E;have HZ3:Hid _:=hz3;clear R hL E S hz3 AN
  gi_wp2_with (refine⟨trivial,?_⟩;gi_at_call 10;refine(CallsIn.inRound l (callsIn_wide.2 WS)).mono ?_;rintro e u ⟨rfl,hL4⟩)
  obtain⟨H4,F,U⟩:=HS3.out.wrote HZ3.out hL4;have hz4:∀k,(k<w.heap.size\/k=a.heap.size\/k=b.heap.size\/k=b.heap.size+1)->k<u.heap.size:=λk e=>Nat.lt_of_lt_of_le (HZ3.out k e) U.size;have WB:=qr6 10 10 rfl u F.bl (by rw[List.length_append];show c.length+told.length+1<=_;have:=p.out.1;have:=p.out.2.1;omega) (by have:=F.kp.size;omega);have V:Hid (qba (λk=>k<w.heap.size\/k=a.heap.size\/k=b.heap.size\/k=b.heap.size+1) D u/\qt6 b a.heap.size cb mb (a.heap.size+1) (λk=>k<w.heap.size\/k=a.heap.size) (λk=>k<w.heap.size\/k=a.heap.size\/k=b.heap.size\/k=b.heap.size+1) Q (c++told) u G3 H4/\(∀k,(k<w.heap.size\/k=a.heap.size\/k=b.heap.size\/k=b.heap.size+1)->k<u.heap.size)):=⟨U,F,hz4⟩;clear hL4 F U hz4 WS
  gi_wp2_with (refine⟨trivial,?_⟩;gi_at_call 12;refine(CallsIn.inRound l (callsIn_wide.2 WB)).mono ?_;rintro e W5 ⟨rfl,hL5⟩)
  obtain⟨H5,S5,K5⟩:=V.out.2.1.wrote V.out.2.2 hL5;have KA:=(H3.out.2.trans V.out.1).trans K5;exact⟨⟨KA.block _ (by simp),KA.block _ (by simp)⟩,Q,_,G3,H5,.snoc p.out.2.2.1 H3.out.1,S5⟩
 case done=>
  rintro W ⟨d,c,G,H,m,i⟩ z;have ST:=qrk W i.bl (by have:=i.kp.size;omega);have C:Hid (qba (λk=>k<w.heap.size\/k=a.heap.size) b W/\qfm (qhk 2 2) ((qgn s.data.toList).map bya) c d):=⟨i.kp,m⟩;clear L M i m
  gi_wp2_with (refine⟨trivial,?_⟩;gi_at_call 13;refine(callsIn_wide.2 ST).mono ?_;rintro e W6 ⟨rfl,hb6,hd6⟩)
  rw[sz0]at z;refine⟨by simp,.inl ⟨_,_,rfl,run_takeDeferred (hd6 _ _ z),?_⟩⟩;have v:Below w.heap.size w W6:=((HB.out.1.trans (HB.out.2.mono ls)).trans (C.out.1.below (λk X=>.inl X))).trans (hb6.mono ls);exact⟨_,results_tmp rfl _ _ _,c,rfl,⟨d,C.out.2⟩,v.os,v.tape,v.output,Nat.le_trans v.size (by simp),λk X=>(World.putObj_heap_other (by omega)).trans (v.block k X)⟩
end
section
open Go.RowKit
variable {l:List (Option Nat)}
theorem q9l (h:l.Pairwise (λx y=>∀k,x=some k->y≠some k)) (i:Nat) {x:Option Nat} (r:∀k,x=some k->l[i]?=some (some k)\/∀y∈l,y≠some k):(l.set i x).Pairwise (λx y=>∀k,x=some k->y≠some k):=by
 refine List.pairwise_iff_getElem.2 λa c s t p k e d=>?_
 have f:a<l.length:=by simpa using s
 have j:c<l.length:=by simpa using t
 have P:=List.pairwise_iff_getElem.1 h;rw[List.getElem_set]at e d;split at e
 ·rename_i u;split at d
  ·omega
  ·rcases r k e with q|q
   ·rw[u,List.getElem?_eq_getElem f]at q;exact P a c f j p k (Option.some.inj q) d
   ·exact q _ (List.getElem_mem j) d
 ·split at d
  ·rename_i v;rcases r k d with q|q
   ·rw[v,List.getElem?_eq_getElem j]at q;exact P a c f j p k e (Option.some.inj q)
   ·exact q _ (List.getElem_mem f) e
  ·exact P a c f j p k e d
theorem jda {w:World} {id:Int} (T:TypeId):RS (w.alloc (.cells (qc5 (qpo id) (.slice none 0 0) (.slice none 0 0) (.slice none 0 0)).toArray T)) w.heap.size (λk=>k=w.heap.size) (λ_=>none) (qpo id):=by
 have B:=qag.new (w:=w) (T:=T) (qc5 (qpo id) (.slice none 0 0) (.slice none 0 0) (.slice none 0 0)) rfl;refine⟨.slice none 0 0,.slice none 0 0,.slice none 0 0,[],[],⟨B,World.ownsRow_nil _ _ _ _,World.ownsRow_nil _ _ _ _,World.ownsRow_nil _ _ _ _,λh d=>(by cases d),by simp[Value.ownBlock],by simp[Value.ownBlock],by simp[Value.ownBlock],by simp[Value.ownBlock],by simp[Value.ownBlock],by simp[Value.ownBlock],λm a=>(by cases a)⟩,rfl,rfl,λk=>⟨λh=>.inl (.inl h),λh=>?_⟩,λ_ _ e=>(by cases e)⟩;rcases h with (h|h|h|h)|⟨m,a,_⟩
 ·exact h
 ·simp[Value.ownBlock]at h
 ·simp[Value.ownBlock]at h
 ·simp[Value.ownBlock]at h
 ·cases a
def qe2 (M:RoM) (k:Nat):Nat->qnm:=λi=>if i<k then qip (M.bp i) (λ_=>none) (qpo i)else qu3 (M.bs (i-k)) qia
structure qsx (w0:World) (b n c k m:Nat) (M:RoM) (Gs:Nat->Nat->Prop) (w:World):Prop where
 box:qag w b [M.sv,M.wv,M.cv,M.av,M.yv,.int .i64 0]
 sr:w.ownsRow 0 75 1 M.sv k (qlf M.bp k)
 wr:w.ownsRow 0 3 1 M.wv n (qh5 (λ_=>0) n)
 cr:w.ownsRow 0 87 1 M.cv m (qlf M.bs m)
 ar:w.ownsRow 0 3 1 M.av c (qh5 (λ_=>0) c)
 yl:M.yv=.slice none 0 0/\M.l=[]/\M.F=λ_ _=>none
 fam:qci w (k+m) (qe2 M k) Gs (qak b M) (k+m) NoY
 ap:(qeq b M).Pairwise (λx y=>∀k,x=some k->y≠some k)
 gs:∀j q,j<k+m->Gs j q->w0.heap.size<=q
 ft:∀q,qak b M q->w0.heap.size<=q
 hb:Below w0.heap.size w0 w
theorem qqf (bp:Nat->Nat) (n p:Nat):qlf (λj=>if j=n then p else bp j) (n+1)=qlf bp n++[.pointer (some ⟨p,0,none⟩)]:=by
 unfold qlf;rw[List.range_succ,List.map_append]
 congr 1
 ·refine List.map_congr_left (λj a=>?_);have:=List.mem_range.1 a;show Value.pointer (some ⟨if j=n then p else bp j,0,none⟩)=_;rw[if_neg (by omega)]
 ·simp
variable {q:Nat} {T:TypeId} {o:Obj}
section
variable {w0 w w2 wE:World} {b n c k m g cap:Nat} {M:RoM} {Gs:Nat->Nat->Prop}
theorem qsx.ltF (h:qsx w0 b n c k m M Gs w):∀q,qak b M q->q<w.heap.size:=λq e=>(h.fam.free q e).1
theorem qqd (hb:Below w.heap.size w w2) {r:Option Nat} (gr:w2.grownBy wE r) {s:Nat} {v:Value} (a:q<w.heap.size) (d:q≠b) (f:r≠some q):(wE.setCell ⟨b,s,none⟩ v).heap[q]?=w.heap[q]?:=
 (Below.heap_setCell _ _ _ _ d).trans ((gr.block q (Nat.lt_of_lt_of_le a hb.size) (λe=>f e.symm)).trans (hb.block q a))
theorem qsx.site (h:qsx w0 b n c k 0 M Gs w) (f:w2=(w.alloc (.cells (qc5 (qpo k) (.slice none 0 0) (.slice none 0 0) (.slice none 0 0)).toArray T)).alloc o)
 (own:wE.ownsRow 0 75 1 (.slice (some ⟨g,0,none⟩) (k+1) cap) (k+1) (qlf M.bp k++[.pointer (some ⟨w.heap.size,0,none⟩)])) (gr:w2.grownBy wE M.sv.ownBlock) (u:M.sv.ownBlock=some g\/g=w2.heap.size):
 qsx w0 b n c (k+1) 0 {M with sv:=.slice (some ⟨g,0,none⟩) (k+1) cap,bp:=λj=>if j=k then w.heap.size else M.bp j} (λj=>if j=k then (λq=>q=w.heap.size)else Gs j) (wE.setCell ⟨b,0,none⟩ (.slice (some ⟨g,0,none⟩) (k+1) cap)):=by
 have D:Below w.heap.size w (w.alloc (.cells (qc5 (qpo k) (.slice none 0 0) (.slice none 0 0) (.slice none 0 0)).toArray T)):=boxed (Below.refl _ w) _
 have s:Below w.heap.size w w2:=by rw[f];exact boxed D _
 have s2:w2.heap.size=w.heap.size+2:=by rw[f];simp
 have L:=gr.size
 have sz:(wE.setCell ⟨b,0,none⟩ (.slice (some ⟨g,0,none⟩) (k+1) cap)).heap.size=wE.heap.size:=by simp[World.setCell]
 have A:=(List.pairwise_cons.1 h.ap);have B:=(List.pairwise_cons.1 A.2);have N:=h.box.lt;have lv:∀q,q<w.heap.size->q≠b->M.sv.ownBlock≠some q->(wE.setCell ⟨b,0,none⟩ (.slice (some ⟨g,0,none⟩) (k+1) cap)).heap[q]?=w.heap[q]?:=λq E F H=>qqd s gr E F H;have row:∀{x:Option Nat},x∈[M.wv.ownBlock,M.cv.ownBlock,M.av.ownBlock,M.yv.ownBlock]->∀q,x=some q->(wE.setCell ⟨b,0,none⟩ (.slice (some ⟨g,0,none⟩) (k+1) cap)).heap[q]?=w.heap[q]?:=λ{x} hx q e=>lv q (h.ltF q (by rw[e]at hx;exact List.mem_cons_of_mem _ (List.mem_cons_of_mem _ hx))) (λa=>A.1 x (List.mem_cons_of_mem _ hx) b rfl (by rw[e,a])) (λa=>B.1 x hx q a e)
 have I:g≠b:=λe=>by
  rcases u with q|q
  ·exact A.1 M.sv.ownBlock (by simp) b rfl (by rw[q,e])
  ·omega
 have nv:∀q,(Value.slice (some ⟨g,0,none⟩) (k+1) cap).ownBlock=some q->M.sv.ownBlock=some q\/w.heap.size+2<=q:=λq e=>by
  have J:g=q:=Option.some.inj e;subst J;exact u.imp id (λq=>by omega)
 have v:∀q,qak b {M with sv:=.slice (some ⟨g,0,none⟩) (k+1) cap,bp:=λj=>if j=k then w.heap.size else M.bp j} q->qak b M q\/w.heap.size+2<=q:=λq e=>by
  have e:some q∈some b::(Value.slice (some ⟨g,0,none⟩) (k+1) cap).ownBlock::[M.wv.ownBlock,M.cv.ownBlock,M.av.ownBlock,M.yv.ownBlock]:=e;rcases List.mem_cons.1 e with e|e
  ·exact .inl (List.mem_cons.2 (.inl e))
  ·rcases List.mem_cons.1 e with e|e
   ·exact(nv q e.symm).imp (λr=>by unfold qak qeq;rw[r];simp) id
   ·exact .inl (List.mem_cons_of_mem _ (List.mem_cons_of_mem _ e))
 have O:=h.hb.size;refine⟨?_,?_,qad h.wr (row (by simp)),qad h.cr (row (by simp)),qad h.ar (row (by simp)),h.yl,?_,?_,λj q d e=>?_,λq e=>?_,?_⟩
 ·have:=((h.box.later s).grown gr (λe=>A.1 M.sv.ownBlock (by simp) b rfl e.symm)).set 0 (.slice (some ⟨g,0,none⟩) (k+1) cap) (by simp);exact this
 ·show World.ownsRow _ 0 _ 1 _ (k+1) (qlf (λj=>if j=k then w.heap.size else M.bp j) (k+1));rw[qqf];exact qad own (λq e=>Below.heap_setCell _ _ _ _ (λa=>I ((Option.some.inj e).trans a)))
 ·have K:RS (wE.setCell ⟨b,0,none⟩ (.slice (some ⟨g,0,none⟩) (k+1) cap)) w.heap.size (λq=>q=w.heap.size) (λ_=>none) (qpo k):=by
   refine(jda (w:=w) (id:=k) T).kept (λq e=>?_) (by rw[sz];simp;omega);have e:q=w.heap.size:=e;subst e;refine(Below.heap_setCell _ _ _ _ (by simp only;omega)).trans ((gr.block _ (by omega) (λe=>?_)).trans ?_)
   ·have:=h.ltF w.heap.size (by unfold qak qeq;rw[<-e];simp);omega
   ·rw[f];exact(boxed (Below.refl _ (w.alloc (.cells (qc5 (qpo k) (.slice none 0 0) (.slice none 0 0) (.slice none 0 0)).toArray T))) o).block _ (by simp)
  refine h.fam.snoc (n:=k) (G:=λq=>q=w.heap.size) (λj q d e=>lv q ((qe2 M k j).lt _ _ (h.fam.is j d) q e) (λa=>(h.fam.free b (by simp[qak,qeq])).2 j d (by rw[<-a];exact e)) (λa=>(h.fam.free q (by unfold qak qeq;rw[a];simp)).2 j d e)) (by rw[sz];omega) ?_ (λq e=>by omega) (λi hi=>?_) (λq e=>?_)
  ·show (qe2 _ (k+1) k).is _ _;unfold qe2;rw[if_pos (by omega)];show RS _ (if k=k then w.heap.size else M.bp k) _ _ _;rw[if_pos rfl];exact K
  ·have hi:i<k:=hi;unfold qe2;rw[if_pos (by omega),if_pos hi];show qip (if i=k then w.heap.size else M.bp i) _ _=_;rw[if_neg (by omega)]
  ·rcases v q e with r|r
   ·have:=h.ltF q r;exact⟨.inl r,by rw[sz];omega,λa=>by omega⟩
   ·refine⟨.inr (by omega),?_,λa=>by omega⟩;rw[sz];have e:some q∈some b::(Value.slice (some ⟨g,0,none⟩) (k+1) cap).ownBlock::[M.wv.ownBlock,M.cv.ownBlock,M.av.ownBlock,M.yv.ownBlock]:=e;rcases List.mem_cons.1 e with e|e
    ·injection e with e;omega
    ·rcases List.mem_cons.1 e with e|e
     ·exact(own.lt q e.symm).2
     ·have:=h.ltF q (List.mem_cons_of_mem _ (List.mem_cons_of_mem _ e));omega
 ·refine q9l h.ap 1 (x:=(Value.slice (some ⟨g,0,none⟩) (k+1) cap).ownBlock) (λq e=>?_);rcases nv q e with r|r
  ·exact .inl (by show some M.sv.ownBlock=_;rw[r])
  ·refine .inr (λy z a=>?_);have:=h.ltF q (by rw[a]at z;exact z);omega
 ·have e:(if j=k then (λq=>q=w.heap.size)else Gs j) q:=e;by_cases C:j=k
  ·rw[if_pos C]at e;omega
  ·rw[if_neg C]at e;exact h.gs j q (by omega) e
 ·rcases v q e with r|r
  ·exact h.ft q r
  ·omega
 ·exact((qab h.hb s).grown gr (by omega) (λq e=>h.ft q (by unfold qak qeq;rw[<-e];simp))).setCell (p:=⟨b,0,none⟩) (h.ft b (by simp[qak,qeq])) _
theorem qw7 (h:l.Pairwise (λx y=>∀k,x=some k->y≠some k)) {i j:Nat} (a:i≠j) (d:l[i]?=some (some q)):l[j]?≠some (some q):=λe=>by
 have P:=List.pairwise_iff_getElem.1 h;obtain⟨a1,a2⟩:=List.getElem?_eq_some_iff.1 d;obtain⟨c1,c2⟩:=List.getElem?_eq_some_iff.1 e;rcases Nat.lt_or_gt_of_ne a with q|q
 ·exact P i j a1 c1 q _ a2 c2
 ·exact P j i c1 a1 q _ c2 a2
theorem qsx.ses (h:qsx w0 b n c k m M Gs w) (s:w2=(w.alloc (.cells (qbw qia (.slice none 0 0)).toArray T)).alloc o)
 (own:wE.ownsRow 0 87 1 (.slice (some ⟨g,0,none⟩) (m+1) cap) (m+1) (qlf M.bs m++[.pointer (some ⟨w.heap.size,0,none⟩)])) (gr:w2.grownBy wE M.cv.ownBlock) (z:M.cv.ownBlock=some g\/g=w2.heap.size):
 qsx w0 b n c k (m+1) {M with cv:=.slice (some ⟨g,0,none⟩) (m+1) cap,bs:=λj=>if j=m then w.heap.size else M.bs j} (λj=>if j=k+m then (λq=>q=w.heap.size)else Gs j) (wE.setCell ⟨b,2,none⟩ (.slice (some ⟨g,0,none⟩) (m+1) cap)):=by
 have D:Below w.heap.size w (w.alloc (.cells (qbw qia (.slice none 0 0)).toArray T)):=boxed (Below.refl _ w) _
 have u:Below w.heap.size w w2:=by rw[s];exact boxed D _
 have s2:w2.heap.size=w.heap.size+2:=by rw[s];simp
 have K:=gr.size
 have sz:(wE.setCell ⟨b,2,none⟩ (.slice (some ⟨g,0,none⟩) (m+1) cap)).heap.size=wE.heap.size:=by simp[World.setCell]
 have L:=h.box.lt;have cb:M.cv.ownBlock≠some b:=λe=>qw7 h.ap (i:=0) (j:=3) (q:=b) (by decide) rfl (by show some M.cv.ownBlock=_;rw[e]);have lv:∀q,q<w.heap.size->q≠b->M.cv.ownBlock≠some q->(wE.setCell ⟨b,2,none⟩ (.slice (some ⟨g,0,none⟩) (m+1) cap)).heap[q]?=w.heap[q]?:=λq E F v=>qqd u gr E F v;have row:∀{j:Nat} (_:j≠0) (_:j≠3) (q:Nat),(qeq b M)[j]?=some (some q)->(wE.setCell ⟨b,2,none⟩ (.slice (some ⟨g,0,none⟩) (m+1) cap)).heap[q]?=w.heap[q]?:=λ{j} h0 v q e=>lv q (h.ltF q (List.mem_of_getElem? e)) (λa=>qw7 h.ap (i:=0) (j:=j) (q:=b) (λe=>h0 e.symm) rfl (by rw[e,a])) (λa=>qw7 h.ap (i:=3) (j:=j) (q:=q) (λe=>v e.symm) (by show some M.cv.ownBlock=_;rw[a]) e)
 have H:g≠b:=λe=>by
  rcases z with q|q
  ·exact cb (by rw[q,e])
  ·omega
 have nv:∀q,(Value.slice (some ⟨g,0,none⟩) (m+1) cap).ownBlock=some q->M.cv.ownBlock=some q\/w.heap.size+2<=q:=λq e=>by
  have I:g=q:=Option.some.inj e;subst I;exact z.imp id (λq=>by omega)
 have A:∀q,qak b {M with cv:=.slice (some ⟨g,0,none⟩) (m+1) cap,bs:=λj=>if j=m then w.heap.size else M.bs j} q->qak b M q\/(w.heap.size+2<=q/\q<wE.heap.size):=λq e=>by
  have e:some q∈[some b,M.sv.ownBlock,M.wv.ownBlock]++((Value.slice (some ⟨g,0,none⟩) (m+1) cap).ownBlock::[M.av.ownBlock,M.yv.ownBlock]):=e;rcases List.mem_append.1 e with e|e
  ·exact .inl (List.mem_append_left [M.cv.ownBlock,M.av.ownBlock,M.yv.ownBlock] e)
  ·rcases List.mem_cons.1 e with e|e
   ·exact(nv q e.symm).imp (λr=>by unfold qak qeq;rw[r];simp) (λr=>⟨r,(own.lt q e.symm).2⟩)
   ·exact .inl (List.mem_append_right [some b,M.sv.ownBlock,M.wv.ownBlock] (List.mem_cons_of_mem _ e))
 have N:=h.hb.size;refine⟨?_,qad h.sr (λq e=>row (j:=1) (by decide) (by decide) q (by show some M.sv.ownBlock=_;rw[e])),qad h.wr (λq e=>row (j:=2) (by decide) (by decide) q (by show some M.wv.ownBlock=_;rw[e])),?_,qad h.ar (λq e=>row (j:=4) (by decide) (by decide) q (by show some M.av.ownBlock=_;rw[e])),h.yl,?_,?_,λj q d e=>?_,λq e=>?_,?_⟩
 ·have:=((h.box.later u).grown gr (λe=>cb e.symm)).set 2 (.slice (some ⟨g,0,none⟩) (m+1) cap) (by simp);exact this
 ·show World.ownsRow _ 0 _ 1 _ (m+1) (qlf (λj=>if j=m then w.heap.size else M.bs j) (m+1));rw[qqf];exact qad own (λq e=>Below.heap_setCell _ _ _ _ (λa=>H ((Option.some.inj e).trans a)))
 ·have J:RSe (wE.setCell ⟨b,2,none⟩ (.slice (some ⟨g,0,none⟩) (m+1) cap)) w.heap.size (λq=>q=w.heap.size) qia:=by
   refine(jb5 (w:=w) T).kept (λq e=>?_) (by rw[sz];simp;omega);have e:q=w.heap.size:=e;subst e;refine(Below.heap_setCell _ _ _ _ (by simp only;omega)).trans ((gr.block _ (by omega) (λe=>?_)).trans ?_)
   ·have:=h.ltF w.heap.size (by unfold qak qeq;rw[<-e];simp);omega
   ·rw[s];exact(boxed (Below.refl _ (w.alloc (.cells (qbw qia (.slice none 0 0)).toArray T))) o).block _ (by simp)
  refine h.fam.snoc (n:=k+m) (G:=λq=>q=w.heap.size) (λj q d e=>lv q ((qe2 M k j).lt _ _ (h.fam.is j d) q e) (λa=>(h.fam.free b (by simp[qak,qeq])).2 j d (by rw[<-a];exact e)) (λa=>(h.fam.free q (by unfold qak qeq;rw[a];simp)).2 j d e)) (by rw[sz];omega) ?_ (λq e=>by omega) (λi hi=>?_) (λq e=>?_)
  ·show (qe2 _ k (k+m)).is _ _;unfold qe2;rw[if_neg (by omega)];show RSe _ (if k+m-k=m then w.heap.size else M.bs (k+m-k)) _ _;rw[if_pos (by omega)];exact J
  ·unfold qe2;by_cases f:i<k
   ·rw[if_pos f,if_pos f]
   ·rw[if_neg f,if_neg f];show qu3 (if i-k=m then w.heap.size else M.bs (i-k)) _=_;rw[if_neg (by omega)]
  ·rcases A q e with r|r
   ·have:=h.ltF q r;exact⟨.inl r,by rw[sz];omega,λa=>by omega⟩
   ·exact⟨.inr (by omega),by rw[sz];exact r.2,λa=>by omega⟩
 ·refine q9l h.ap 3 (x:=(Value.slice (some ⟨g,0,none⟩) (m+1) cap).ownBlock) (λq e=>?_);rcases nv q e with r|r
  ·exact .inl (by show some M.cv.ownBlock=_;rw[r])
  ·refine .inr (λy B a=>?_);have:=h.ltF q (by rw[a]at B;exact B);omega
 ·have e:(if j=k+m then (λq=>q=w.heap.size)else Gs j) q:=e;by_cases C:j=k+m
  ·rw[if_pos C]at e;omega
  ·rw[if_neg C]at e;exact h.gs j q (by omega) e
 ·rcases A q e with r|r
  ·exact h.ft q r
  ·omega
 ·exact((qab h.hb u).grown gr (by omega) (λq e=>h.ft q (by unfold qak qeq;rw[<-e];simp))).setCell (p:=⟨b,2,none⟩) (h.ft b (by simp[qak,qeq])) _
theorem qsx.done (h:qsx w0 b n c n c M Gs w):RW w b (qmp b M (n+c) Gs) (qhk n c)/\∀q,qmp b M (n+c) Gs q->w0.heap.size<=q:=by
 obtain⟨f,a,p⟩:=h.yl;refine⟨⟨M,Gs,⟨h.box,h.sr,h.wr,h.cr,h.ar,?_,by rw[a];rfl,λx d=>(by rw[a]at d;cases d),?_,h.ap⟩,λ_=>Iff.rfl⟩,λq r=>r.elim (h.ft q) (λ⟨j,s,e⟩=>h.gs j q s e)⟩
 ·rw[f,a];exact World.ownsRow_nil _ _ _ _
 ·have:qfv M (qhk n c)=qe2 M n:=by
   funext i
   unfold qfv qe2;rw[p];rfl
  rw[this];exact h.fam
theorem qsx.first {g g':Nat} (a:qag w b [.slice none 0 0,.slice (some ⟨g,0,none⟩) n n,.slice none 0 0,.slice (some ⟨g',0,none⟩) c c,.slice none 0 0,.int .i64 0]) (d:w.ownsRow 0 3 1 (.slice (some ⟨g,0,none⟩) n n) n (qh5 (λ_=>0) n)) (f:w.ownsRow 0 3 1 (.slice (some ⟨g',0,none⟩) c c) c (qh5 (λ_=>0) c)) (a1:g≠g') (a2:g≠b) (a3:g'≠b) (f1:w0.heap.size<=g) (f2:w0.heap.size<=g') (f3:w0.heap.size<=b) (hb:Below w0.heap.size w0 w):
 qsx w0 b n c 0 0 ⟨.slice none 0 0,.slice (some ⟨g,0,none⟩) n n,.slice none 0 0,.slice (some ⟨g',0,none⟩) c c,.slice none 0 0,λ_=>0,λ_=>0,λ_ _=>none,[]⟩ (λ_ _=>False) w:=by
 have foot:∀q,qak b ⟨.slice none 0 0,.slice (some ⟨g,0,none⟩) n n,.slice none 0 0,.slice (some ⟨g',0,none⟩) c c,.slice none 0 0,λ_=>0,λ_=>0,λ_ _=>none,[]⟩ q->q=b\/q=g\/q=g':=λq e=>by
  have e:some q∈[some b,none,some g,none,some g',none]:=e;simpa using e
 refine⟨a,World.ownsRow_nil _ _ _ _,d,World.ownsRow_nil _ _ _ _,f,⟨rfl,rfl,rfl⟩,⟨λi hi=>by omega,λi j q hi=>by omega,λq e=>⟨?_,λi hi=>by omega⟩,λq e=>e.elim⟩,?_,λj q h=>by omega,λq e=>?_,hb⟩
 ·rcases foot q e with e|e|e
  ·rw[e];exact a.lt
  ·rw[e];exact(d.lt g rfl).2
  ·rw[e];exact(f.lt g' rfl).2
 ·show [some b,none,some g,none,some g',none].Pairwise _;simp;omega
 ·rcases foot q e with e|e|e<;>omega
end
end
section
open Tryz Go.Value Go.IntKind Go.RowKit
theorem q5h:(prog.info? 75).map (λi=>(i.zero,i.size,i.bytes))=some (some (.pointer none),1,8):=by kernel_rfl
theorem q79:(prog.info? 87).map (λi=>(i.zero,i.size,i.bytes))=some (some (.pointer none),1,8):=by kernel_rfl
theorem qxq:(prog.info? 3).map (λi=>(i.zero,i.size,i.bytes))=some (some (int i64 0),1,8):=by kernel_rfl
variable {n:Nat}
theorem q1a {w w':World} {B N:Nat} {T:TypeId} {v:Value} {xs:List Value} (h:w.ownsRow B T N v n xs) (hb:Below w.heap.size w w'):w'.ownsRow B T N v n xs:=qad h (λk e=>hb.block k (h.lt k e).2)
theorem qsk (a:n<=6) (w:World):(Instr.makeSlice 69 (int i64 n) (int i64 n)).run prog w=.ok (.slice (some ⟨w.heap.size,0,none⟩) n n) (w.alloc (.cells (madeCells #[int i64 0] n) 3)):=
 run_make_row' _ 3 (int i64 0) 8 underlying69 qxq rfl .i64 .i64 n (by omega) (by omega) w
theorem qn4 (c:n<=6) (w:World):(w.alloc (.cells (madeCells #[int i64 0] n) 3)).ownsRow 0 3 1 (.slice (some ⟨w.heap.size,0,none⟩) n n) n (qh5 (λ_=>0) n):=by
 obtain⟨i0,hi,d,e,f⟩:=info_parts qxq;obtain⟨g,a,b,_⟩:=run_make_full (P:=prog) w 0 69 3 i0 (int i64 0) 1 underlying69 hi d e .i64 .i64 n (by rw[f];omega) (by simp[maxLen];omega) (by omega);rw[qsk c]at a;injection a with e1 e2;rw[<-e2,show (Value.int .i64 0).cells=#[Value.int .i64 0]from rfl,Nat.mul_one,toList_madeCells_one]at b;rw[show qh5 (λ_=>0) n=List.replicate n (int i64 0) by unfold qh5;rw[List.map_const'];simp];exact b
theorem q9h {c:Nat} (h1:1<=n) (h4:n<=4) (h6:c<=6) (w:World):
 Calls prog 15 #[int i64 n,int i64 c] w λe w'=>e=.returned (.tuple #[.pointer (some ⟨w.heap.size+1+1,0,none⟩),int i64 0])/\∃G,RW w' (w.heap.size+1+1) G (qhk n c)/\(∀k,G k->w.heap.size<=k)/\Below w.heap.size w w':=by
 obtain⟨i0,hi0,hz0,hz1,hz2⟩:=info_parts q5h;obtain⟨i5,hi5,hy0,hy1,hy2⟩:=info_parts q79;have N:=qjl n 1 4 w;have O:=qjl c 0 6 w;rw[qa5.2 (⟨by omega,by omega⟩:(1:Int)<=n/\(n:Int)<=4)]at N;rw[qa5.2 (⟨by omega,by omega⟩:(0:Int)<=c/\(c:Int)<=6)]at O;have s:Hid (n<=4/\c<=6):=⟨h4,h6⟩;have M1:=λw'=>qsk (n:=n) (by omega) w';have M2:=λw'=>qsk (n:=c) (by omega) w'
 have P:Hid (∃M b,qsx w (w.heap.size+1+1) n c 0 0 M b ((((w.alloc (.cells (madeCells #[int i64 0] n) 3)).alloc (.cells (madeCells #[int i64 0] c) 3)).alloc (.cells #[.slice none 0 0,.slice (some ⟨w.heap.size,0,none⟩) n n,.slice none 0 0,.slice (some ⟨w.heap.size+1,0,none⟩) c c,.slice none 0 0,int i64 0] 74)).drew)):=by
  have Q:=boxed (Below.refl _ w) (.cells (madeCells #[int i64 0] n) 3);have v:=boxed (Below.refl _ (w.alloc (.cells (madeCells #[int i64 0] n) 3))) (.cells (madeCells #[int i64 0] c) 3);have l:=(boxed (Below.refl _ ((w.alloc (.cells (madeCells #[int i64 0] n) 3)).alloc (.cells (madeCells #[int i64 0] c) 3))) (.cells #[.slice none 0 0,.slice (some ⟨w.heap.size,0,none⟩) n n,.slice none 0 0,.slice (some ⟨w.heap.size+1,0,none⟩) c c,.slice none 0 0,int i64 0] 74)).drew;have R:=(qag.new (w:=(w.alloc (.cells (madeCells #[int i64 0] n) 3)).alloc (.cells (madeCells #[int i64 0] c) 3)) (T:=74) (n:=w.heap.size+1+1) [.slice none 0 0,.slice (some ⟨w.heap.size,0,none⟩) n n,.slice none 0 0,.slice (some ⟨w.heap.size+1,0,none⟩) c c,.slice none 0 0,int i64 0] (by simp)).drew;have S:=qn4 (n:=n) (by omega) w;have x:=qn4 (n:=c) (by omega) (w.alloc (.cells (madeCells #[int i64 0] n) 3));rw[World.size_alloc]at x;exact⟨_,_,qsx.first R (q1a (q1a S v) l) (q1a x l) (by omega) (by omega) (by omega) (Nat.le_refl _) (by omega) (by omega) (qab (qab Q v) l)⟩
 have U:Hid (∃M b,qsx w (w.heap.size+1+1) n c 0 0 M b ((((w.alloc (.cells (madeCells #[int i64 0] c) 3)).alloc (.cells (madeCells #[int i64 0] n) 3)).alloc (.cells #[.slice none 0 0,.slice (some ⟨w.heap.size+1,0,none⟩) n n,.slice none 0 0,.slice (some ⟨w.heap.size,0,none⟩) c c,.slice none 0 0,int i64 0] 74)).drew)):=by
  have Q:=boxed (Below.refl _ w) (.cells (madeCells #[int i64 0] c) 3);have v:=boxed (Below.refl _ (w.alloc (.cells (madeCells #[int i64 0] c) 3))) (.cells (madeCells #[int i64 0] n) 3);have l:=(boxed (Below.refl _ ((w.alloc (.cells (madeCells #[int i64 0] c) 3)).alloc (.cells (madeCells #[int i64 0] n) 3))) (.cells #[.slice none 0 0,.slice (some ⟨w.heap.size+1,0,none⟩) n n,.slice none 0 0,.slice (some ⟨w.heap.size,0,none⟩) c c,.slice none 0 0,int i64 0] 74)).drew;have R:=(qag.new (w:=(w.alloc (.cells (madeCells #[int i64 0] c) 3)).alloc (.cells (madeCells #[int i64 0] n) 3)) (T:=74) (n:=w.heap.size+1+1) [.slice none 0 0,.slice (some ⟨w.heap.size+1,0,none⟩) n n,.slice none 0 0,.slice (some ⟨w.heap.size,0,none⟩) c c,.slice none 0 0,int i64 0] (by simp)).drew;have S:=qn4 (n:=c) (by omega) w;have x:=qn4 (n:=n) (by omega) (w.alloc (.cells (madeCells #[int i64 0] c) 3));rw[World.size_alloc]at x;exact⟨_,_,qsx.first R (q1a x l) (q1a (q1a S v) l) (by omega) (by omega) (by omega) (by omega) (Nat.le_refl _) (by omega) (qab (qab Q v) l)⟩
 clear h1 h4 h6;go_enter func15,ntmps15
 go_wp2_with (first|(go_at_call 28;with_reducible refine N.mono ?_;rintro e w1 ⟨rfl,B⟩;have V:=B.symm;clear B;subst V)|(go_at_call 28;with_reducible refine O.mono ?_;rintro e w1 ⟨rfl,B⟩;have V:=B.symm;clear B;subst V))
 go_region
 all_goals
  first
   |(obtain⟨C,D⟩:∃C,(((w.alloc (.cells (madeCells #[int i64 0] n) 3)).alloc (.cells (madeCells #[int i64 0] c) 3)).alloc (.cells #[.slice none 0 0,.slice (some ⟨w.heap.size,0,none⟩) n n,.slice none 0 0,.slice (some ⟨w.heap.size+1,0,none⟩) c c,.slice none 0 0,int i64 0] 74)).drew=C:=⟨_,rfl⟩
     rw[D]at P ⊢;have W:=P
     clear D)
   |(obtain⟨C,D⟩:∃C,(((w.alloc (.cells (madeCells #[int i64 0] c) 3)).alloc (.cells (madeCells #[int i64 0] n) 3)).alloc (.cells #[.slice none 0 0,.slice (some ⟨w.heap.size+1,0,none⟩) n n,.slice none 0 0,.slice (some ⟨w.heap.size,0,none⟩) c c,.slice none 0 0,int i64 0] 74)).drew=C:=⟨_,rfl⟩
     rw[D]at U ⊢;have W:=U
     clear D)
  go_wp2_with fail
  go_loopw [23] (λiv wr=>∃(k:Nat) (z:Int) (M:RoM) (b:Nat->Nat->Prop),k<=n/\z=k/\iv=int i64 z/\Hid (qsx w (w.heap.size+1+1) n c k 0 M b wr)) (λiv _=>n-(intOf iv).toNat)
  case atStart=>
   obtain⟨M,b,h⟩:=W.out;exact⟨0,0,M,b,by omega,rfl,rfl,h⟩
  case round=>
   clear W P U M1 M2 N O;obtain⟨k,z,M,b,hk,X,rfl,a⟩:=hrel;have L:Hid _:=X;by_cases hlt:k<n
   ·have g1:z<(n:Int):=by omega
    have g3:0<=z:=by omega
    have g4:z<4:=by have:=s.out;omega
    obtain⟨sa,Y,d,r⟩:=qai a.out.sr;have p:Hid _:=d;have g:=a.out.box;rw[d]at g;have c0:=g.cell 0 _ rfl;have hlw:=g.lt;have E:Below wr.heap.size wr ((wr.alloc (.cells #[int i64 z,int i64 0,int i64 0,int i64 0,int i64 0,int i64 0,int i64 0,.slice none 0 0,.slice none 0 0,.slice none 0 0,int i64 0,int i64 0,int i64 0,int i64 0,int i64 0,int i64 0,int i64 0,int i64 0,int i64 0,int i64 0,int i64 0,int i64 0,int i64 0,int i64 0,int i64 0,int i64 0] 86)).alloc (.cells #[.pointer (some ⟨wr.heap.size,0,none⟩)] 75)):=boxed (boxed (Below.refl _ wr) _) _;have F:=qad a.out.sr (λq e=>E.block q (a.out.sr.lt q e).2);rw[d]at F;have Z:=g.later E;have aa:Hid (M.sv.ownBlock≠some (w.heap.size+1+1)):=λe=>qw7 a.out.ap (i:=0) (j:=1) (by decide) rfl (by show some M.sv.ownBlock=_;rw[e]);have H:=World.news_of_block (heap_alloc_new (wr.alloc (.cells #[int i64 z,int i64 0,int i64 0,int i64 0,int i64 0,int i64 0,int i64 0,.slice none 0 0,.slice none 0 0,.slice none 0 0,int i64 0,int i64 0,int i64 0,int i64 0,int i64 0,int i64 0,int i64 0,int i64 0,int i64 0,int i64 0,int i64 0,int i64 0,int i64 0,int i64 0,int i64 0,int i64 0] 86)) (.cells #[.pointer (some ⟨wr.heap.size,0,none⟩)] 75));rw[World.size_alloc]at H;have hrl:=r.len;clear X r d
    go_wp2_with (at_builtin;refine wpList_append_lies _ rfl (.tmp 30) (.tmp 34) 70 rfl 0 75 i0 (.pointer none) 1 8 underlying70 hi0 hz0 hz1 hz2 rfl (by decide) (.slice sa k Y) k (qlf M.bp k) rfl F ⟨wr.heap.size+1,0,none⟩ 1 1 [.pointer (some ⟨wr.heap.size,0,none⟩)] rfl rfl H (by intro u I;simp at I;rw[I];rfl) (by decide) (by have:=s.out;simp only[maxLen];omega) (by have:=s.out;omega) (Nat.zero_le _) _ rfl ?_;intro g9 cap9 wE ownE J egE ltE;have K:qag wE (w.heap.size+1+1) _:=Z.grown J (λe=>aa.out (by rw[p.out];exact e.symm));have e0:=K.cell 0 _ rfl;have f0:=K.free 0 (by simp))
    have NX:Hid _:=a.out.site (w2:=(wr.alloc (.cells #[int i64 z,int i64 0,int i64 0,int i64 0,int i64 0,int i64 0,int i64 0,.slice none 0 0,.slice none 0 0,.slice none 0 0,int i64 0,int i64 0,int i64 0,int i64 0,int i64 0,int i64 0,int i64 0,int i64 0,int i64 0,int i64 0,int i64 0,int i64 0,int i64 0,int i64 0,int i64 0,int i64 0] 86)).alloc (.cells #[.pointer (some ⟨wr.heap.size,0,none⟩)] 75)) (T:=86) (o:=(.cells #[.pointer (some ⟨wr.heap.size,0,none⟩)] 75)) (by rw[L.out];rfl) ownE (by rw[p.out];exact J) (by rw[p.out];simpa using egE)
    go_roundw
    case rel=>exact⟨k+1,z+1,_,_,by omega,by have:=L.out;omega,by go_num,NX.out⟩
    case measure=>simp[intOf];have:=L.out;omega
   ·have g1:¬z<(n:Int):=by omega
    have ek:k=n:=by omega
    subst ek;have H0:Hid _:=a;clear X hlt L
    go_wp2_with fail
    clear g1
    go_loopw [40] (λiv wr=>∃(m:Nat) (y:Int) (M:RoM) (b:Nat->Nat->Prop),m<=c/\y=m/\iv=int i64 y/\Hid (qsx w (w.heap.size+1+1) k c k m M b wr)) (λiv _=>c-(intOf iv).toNat)
    case atStart=>exact⟨0,0,M,b,by omega,rfl,rfl,H0.out⟩
    case round=>
     clear H0 a;obtain⟨m,y,M,b,hm,hy,rfl,a⟩:=hrel;have HY:Hid _:=hy;by_cases hml:m<c
     ·have g1:y<(c:Int):=by omega
      have g3:0<=y:=by omega
      have g4:y<6:=by have:=s.out;omega
      obtain⟨sa,Y,d,r⟩:=qai a.out.cr;have p:Hid _:=d;have g:=a.out.box;rw[d]at g;have c0:=g.cell 2 _ rfl;have hlw:=g.lt;have E:Below wr.heap.size wr ((wr.alloc (.cells #[int i64 0,int i64 0,int i64 0,int i64 0,int i64 0,int i64 0,int i64 0,int i64 0,.bool false,.slice none 0 0] 90)).alloc (.cells #[.pointer (some ⟨wr.heap.size,0,none⟩)] 87)):=boxed (boxed (Below.refl _ wr) _) _;have F:=qad a.out.cr (λq e=>E.block q (a.out.cr.lt q e).2);rw[d]at F;have Z:=g.later E;have aa:Hid (M.cv.ownBlock≠some (w.heap.size+1+1)):=λe=>qw7 a.out.ap (i:=0) (j:=3) (by decide) rfl (by show some M.cv.ownBlock=_;rw[e]);have H:=World.news_of_block (heap_alloc_new (wr.alloc (.cells #[int i64 0,int i64 0,int i64 0,int i64 0,int i64 0,int i64 0,int i64 0,int i64 0,.bool false,.slice none 0 0] 90)) (.cells #[.pointer (some ⟨wr.heap.size,0,none⟩)] 87));rw[World.size_alloc]at H;have hrl:=r.len;clear hy r d
      go_wp2_with (at_builtin;refine wpList_append_lies _ rfl (.tmp 46) (.tmp 49) 71 rfl 0 87 i5 (.pointer none) 1 8 underlying71 hi5 hy0 hy1 hy2 rfl (by decide) (.slice sa m Y) m (qlf M.bs m) rfl F ⟨wr.heap.size+1,0,none⟩ 1 1 [.pointer (some ⟨wr.heap.size,0,none⟩)] rfl rfl H (by intro u I;simp at I;rw[I];rfl) (by decide) (by have:=s.out;simp only[maxLen];omega) (by have:=s.out;omega) (Nat.zero_le _) _ rfl ?_;intro g9 cap9 wE ownE J egE ltE;have K:qag wE (w.heap.size+1+1) _:=Z.grown J (λe=>aa.out (by rw[p.out];exact e.symm));have e0:=K.cell 2 _ rfl;have f0:=K.free 2 (by simp))
      have NX:Hid _:=a.out.ses (T:=90) (o:=(.cells #[.pointer (some ⟨wr.heap.size,0,none⟩)] 87)) rfl ownE (by rw[p.out];exact J) (by rw[p.out];simpa using egE)
      go_roundw
      case rel=>exact⟨m+1,y+1,_,_,by omega,by have:=HY.out;omega,by go_num,NX.out⟩
      case measure=>simp[intOf];have:=HY.out;omega
     ·have g1:¬y<(c:Int):=by omega
      have em:m=c:=by omega
      subst em;clear hy
      go_wp2_with fail
      go_ret2;exact⟨rfl,_,a.out.done.1,a.out.done.2,a.out.hb⟩
theorem q5n {n c:Int} (i:¬((1<=n/\n<=4)/\(0<=c/\c<=6))) (w:World):
 Calls prog 15 #[int i64 n,int i64 c] w λe w'=>e=.returned (.tuple #[.pointer none,int i64 2])/\Below w.heap.size w w':=by
 have h:=qjl n 1 4 w;have j:=qjl c 0 6 w;by_cases b:1<=n/\n<=4
 ·rw[qa5.2 b]at h
  have d:inB c 0 6=false:=by
   cases q:inB c 0 6
   ·rfl
   ·exact absurd ⟨b,qa5.1 q⟩ i
  rw[d]at j;clear b i d;go_enter func15,ntmps15
  go_wp2_with (first|(go_at_call 28;with_reducible refine h.mono ?_;rintro e k ⟨rfl,a⟩;have g:=a.symm;clear a;subst g)|(go_at_call 28;with_reducible refine j.mono ?_;rintro e k ⟨rfl,a⟩;have g:=a.symm;clear a;subst g))
  go_ret2;exact⟨rfl,Below.refl _ _⟩
 ·have d:inB n 1 4=false:=by
   cases q:inB n 1 4
   ·rfl
   ·exact absurd (qa5.1 q) b
  rw[d]at h;clear b i d j;go_enter func15,ntmps15
  go_wp2_with (go_at_call 28;with_reducible refine h.mono ?_;rintro e k ⟨rfl,a⟩;have g:=a.symm;clear a;subst g)
  go_ret2;exact⟨rfl,Below.refl _ _⟩
end
section
open Go.RowKit
variable {w:World}
theorem jan {B:Nat} {v:Value} {ws:List ByteArray} (h:w.ownsRow B 9 1 v ws.length (ws.map Value.string)):∃a cap,v=.slice a ws.length cap/\qiv w a cap ws/\(∀d o,a=some ⟨d,o,none⟩->o=0/\B<=d):=by
 by_cases f:ws=[]
 ·subst f;rcases h.2 with ⟨b,_⟩|⟨g,cap,cur,b,k,_⟩
  ·exact⟨none,0,b,⟨Nat.le_refl _,λj x c=>by simp at c⟩,λ_ _ e=>by cases e⟩
  ·exact⟨_,cap,b,⟨Nat.zero_le _,λj x c=>by simp at c⟩,λ_ _ e=>by injection e with e;injection e with e1 e2;exact⟨e2.symm,by omega⟩⟩
 ·have l:0<ws.length:=List.length_pos_iff.2 f;obtain⟨i,m,rfl,k,n⟩:=h.form l;have p:=h.cells (g:=i) rfl;refine⟨_,m,rfl,⟨?_,λj x c=>⟨i,0,rfl,n,?_⟩⟩,λ_ _ e=>by injection e with e;injection e with e1 e2;exact⟨e2.symm,by omega⟩⟩
  ·rcases h.2 with ⟨h,_⟩|⟨g',s,cur,b,_,_,q,_⟩
   ·cases h
   ·cases b;exact q
  ·have:=p j (.string x) (by rw[List.getElem?_map,c];rfl);rcases Nat.eq_zero_or_pos j with rfl|r
   ·simpa[Addr.add]using this
   ·simpa[Addr.add,Nat.ne_of_gt r]using this
theorem qx9 (n:Int):qbc [n]=Lib.itoa n:=by simp[qbc,Lib.join]
theorem q9s {a b c:List UInt8} (e:a++b=c) (h:c.length<=9223372036854775807) (w:World):(Op.stringOp .add (bya a) (bya b)).run Tryz.prog w=.ok (.string (bya c)) w:=by
 rw[<-e,<-qbo];exact run_string_add_sum w (bya a) (bya b) (by rw[Lib.size_eq,Lib.size_eq];rw[<-e,List.length_append]at h;exact h)
theorem TkI.later {wr a:World} {hb lb:Nat} {L c:List ByteArray} {d:List UInt8} (h:TkI w hb lb L c d wr) (e:Below wr.heap.size wr a):TkI w hb lb L c d a:=by
 obtain⟨W,b,Gw,G,h⟩:=h;exact⟨W,b,Gw,G,h.later e⟩
noncomputable def q6c:Code:=(qg8 6 (Tryz.f6.body.getD .skip)).getD .skip
def jby (s:ByteArray) (w:World) (e:Ending) (w':World):Prop:=∃out,e=.returned (.string (bya out))/\jdj s out/\Below w.heap.size w w'
def q9t (s:ByteArray) (v:Value) (u:Nat->Value):Array Value:=
 List.toArray (.string s::undef::.string ⟨#[]⟩::v::undef::undef::undef::undef::undef::undef::undef::undef::undef::undef::undef::u 15::u 16::u 17::u 18::u 19::u 20::u 21::u 22::u 23::u 24::u 25::u 26::u 27::u 28::u 29::u 30::u 31::u 32::u 33::u 34::u 35::u 36::undef::undef::undef::undef::undef::undef::undef::undef::undef::undef::undef::undef::undef::undef::undef::undef::undef::undef::undef::undef::undef::undef::undef::undef::undef::undef::undef::undef::undef::undef::undef::undef::undef::undef::undef::undef::undef::undef::undef::undef::undef::undef::undef::undef::undef::undef::undef::undef::undef::undef::undef::undef::[])
theorem q3b (AR:∀i,i<19->qbr i) (s:ByteArray) (hs:s.size<=20000) (gl:Gl w) (fm:q44 w) (u:Nat->Value):
 Code.wp Tryz.prog q6c (bodyPost Tryz.prog Tryz.f6 (jby s w)) ⟨q9t s (.slice (some ⟨w.heap.size,0,none⟩) (q9z s) (qdj 10 s).length) u,[]⟩ (w.alloc (.cells ((qdj 10 s).map Value.string).toArray 9)):=by
 obtain⟨i0,hi,hz0,hz1,hz2⟩:=info_parts qmq;obtain⟨H,hw1⟩:∃v,w.alloc (.cells ((qdj 10 s).map Value.string).toArray 9)=v:=⟨_,rfl⟩
 have hb1:Below w.heap.size w H:=by rw[<-hw1];exact boxed (Below.refl _ w) _
 have sz1:H.heap.size=w.heap.size+1:=by rw[<-hw1];simp
 have hce:∀(j:Nat) x,(qdj 10 s)[j]?=some x->H.cell? ⟨w.heap.size,j,none⟩=some (.string x):=λj x hx=>by
  have R:=qag.new (w:=w) (T:=9) ((qdj 10 s).map Value.string) rfl;rw[hw1]at R;exact R.cell j _ (by rw[List.getElem?_map,hx];rfl)
 rw[hw1];have hmL:=qmz 10 s
 have hlin:q9z s<=(qdj 10 s).length:=by unfold q9z;split<;>omega
 have hlt:=qzv s
 generalize hL:qdj 10 s=L at hce hmL hlin hlt
 generalize hN:q9z s=N at hlin hlt
 have HC:Hid ((∀x∈L,x.size<=20000)/\L.length<=20001/\(qgn s.data.toList).map bya=L.take N):=⟨λx hx=>Nat.le_trans (hmL.2 x hx) hs,by omega,hlt⟩;have I:Hid (Gl w/\q44 w/\∀i,i<19->qbr i):=⟨gl,fm,@AR⟩;clear hL hN hmL hlt hs gl fm AR;have NW:Calls Tryz.prog 15 #[.int .i64 2,.int .i64 2] H λe w'=>e=.returned (.tuple #[.pointer (some ⟨H.heap.size+1+1,0,none⟩),.int .i64 0])/\∃G,RW w' (H.heap.size+1+1) G (qhk 2 2)/\(∀k,G k->H.heap.size<=k)/\Below H.heap.size H w':=q9h (n:=2) (c:=2) (by decide) (by decide) (by decide) H;have HB1:Hid (Below w.heap.size w H/\H.heap.size=w.heap.size+1/\∀(j:Nat) x,L[j]?=some x->H.cell? ⟨w.heap.size,j,none⟩=some (.string x)):=⟨hb1,sz1,hce⟩;clear hb1 sz1 hce hw1
 conv=>arg 2;whnf
 unfold q9t
 go_wp2_with fail
 refine NW.mono ?_;rintro e w2 ⟨rfl,Gw,R2,hG2,hb2⟩
 have T0:Hid (TkI w w2.heap.size w.heap.size L [] [] (w2.alloc (.cells #[.pointer (some ⟨H.heap.size+1+1,0,none⟩)] 49))):=by
  have J:=boxed (Below.refl _ w2) (.cells #[.pointer (some ⟨H.heap.size+1+1,0,none⟩)] 49);have b02:Below w.heap.size w w2:=qab HB1.out.1 hb2;have z:=HB1.out.2.1;have z2:=hb2.size;refine⟨qhk 2 2,H.heap.size+1+1,Gw,λk=>k=w2.heap.size\/Gw k,.nil,⟨heap_alloc_new w2 _,R2.later J,λe=>by have:=R2.lt _ e;omega⟩,λ_=>Iff.rfl,λk hk=>?_,⟨by simp;omega,λhk=>?_⟩,qab b02 J,λj x hx=>?_⟩
  ·rcases hk with rfl|e
   ·exact b02.size
   ·have:=hG2 k e;omega
  ·rcases hk with e|e
   ·omega
   ·have:=hG2 _ e;omega
  ·exact(J.cell (p:=⟨w.heap.size,j,none⟩) (by show w.heap.size<_;omega)).trans ((hb2.cell (p:=⟨w.heap.size,j,none⟩) (by show w.heap.size<_;omega)).trans (HB1.out.2.2 j x hx))
 clear R2 hG2 hb2 NW HB1
 go_wp2
 go_loopw [7,46] (λov iv wr=>∃(k:Nat) (z:Int) (K:List UInt8),k<=N/\z=k/\iv=.int .i64 z/\ov=.string (bya K)/\Hid (TkI w w2.heap.size w.heap.size L (L.take k) K wr)) (λ_ iv _=>N-(intOf iv).toNat)
 case atStart=>exact⟨0,0,[],Nat.zero_le _,rfl,rfl,rfl,T0⟩
 case round=>
  clear T0
  rename World=>wo
  obtain⟨k,z,K,hk,hz,rfl,rfl,HS⟩:=hrel;have HZ:Hid _:=hz;by_cases hlt:k<N
  ·have g1:z<(N:Int):=by omega
   have g2:0<=z:=by omega
   have g3:z.toNat=k:=by omega
   have hkl:k<L.length:=by omega
   have g8:z<20001:=by have:=HC.out.2.1;omega
   obtain⟨x,hx⟩:∃x,L[k]?=some x:=⟨_,List.getElem?_eq_getElem hkl⟩;obtain⟨W,b,Gw,G,A⟩:=HS.out;have c0:=A.cell k x hx;have hxs:=HC.out.1 x (List.mem_of_getElem? hx);have SP:=qu5 32 x (by omega) wo (I.out.1.later A.bl);have hYm:=qmz 32 x;obtain⟨Y,hY⟩:∃Y,qdj 32 x=Y:=⟨_,rfl⟩;rw[hY]at SP hYm;have hol:=(A.tk.len (DkI.new (by decide) (by decide) (by decide))).1
   have hpl:(L.take k).length<=20001:=by rw[List.length_take];have:=HC.out.2.1;omega
   have U:Hid (q1p w wo w2.heap.size w.heap.size L (L.take k) K W b Gw G/\L[k]?=some x/\qdj 32 x=Y/\x.size<=20000/\Y.length<=20001/\(∀y∈Y,y.size<=20000)/\(L.take k).length<=20001/\K.length<=8020401):=⟨A,hx,hY,hxs,by omega,λy V=>Nat.le_trans (hYm.2 y V) hxs,hpl,by omega⟩;clear A hx HS hz hxs hYm hY hol hpl hkl
   go_wp2_with fail
   refine SP.mono ?_;rintro e w' ⟨rfl,rfl⟩;obtain⟨B,hw3⟩:∃v,wo.alloc (.cells (Y.map Value.string).toArray 9)=v:=⟨_,rfl⟩
   have R3:qag B wo.heap.size (Y.map Value.string):=by rw[<-hw3];exact qag.new (w:=wo) (T:=9) (Y.map Value.string) rfl
   have B3:Below wo.heap.size wo B:=by rw[<-hw3];exact boxed (Below.refl _ wo) _
   have H3:Hid (qag B wo.heap.size (Y.map Value.string)/\Below wo.heap.size wo B):=⟨R3,B3⟩;rw[hw3];clear hw3 R3 B3 SP c0
   go_wp2
   go_loopw [10,53] (λwv iv d=>∃(m:Nat) (z2:Int),m<=Y.length/\z2=m/\iv=.int .i64 z2/\Hid (d.ownsRow B.heap.size 9 1 wv ((Y.take m).filter neB).length (((Y.take m).filter neB).map Value.string)/\Below B.heap.size B d)) (λ_ iv _=>Y.length-(intOf iv).toNat)
   case atStart=>exact⟨0,0,Nat.zero_le _,rfl,rfl,World.ownsRow_nil B _ _ _,Below.refl _ _⟩
   case round=>
        rename World=>d
        obtain⟨m,z2,hk2,hz2',rfl,Q⟩:=hrel;have HZ2:Hid _:=hz2';by_cases hlt2:m<Y.length
        ·have g4:z2<(Y.length:Int):=by omega
         have g5:0<=z2:=by omega
         have g6:z2.toNat=m:=by omega
         have g7:z2<20001:=by have:=U.out.2.2.2.2.1;omega
         obtain⟨y,V⟩:∃y,Y[m]?=some y:=⟨_,List.getElem?_eq_getElem hlt2⟩;have hwl:wo.heap.size<B.heap.size:=H3.out.1.lt;have cy:d.cell? ⟨wo.heap.size,m,none⟩=some (.string y):=(Q.out.2.cell (p:=⟨wo.heap.size,m,none⟩) hwl).trans (H3.out.1.cell m _ (by rw[List.getElem?_map,V];rfl))
         have etk:(Y.take (m+1)).filter neB=(Y.take m).filter neB++(if neB y=true then [y]else []):=by
          rw[List.take_add_one,V,List.filter_append]
          by_cases q:neB y=true<;>simp[q]
         by_cases hn:neB y=true
         ·have hne:y.toList.isEmpty=false:=by
           rw[qek];unfold neB at hn;simpa[toL]using hn
          rw[if_pos hn]at etk;have J:=boxed (Below.refl _ d) (.cells #[.string y] 9);have own2:=qjp Q.out.1 J;have hfl:((Y.take m).filter neB).length<=m:=Nat.le_trans (List.length_filter_le _ _) (by rw[List.length_take];omega);have HB:Hid (Below B.heap.size B d/\((Y.take m).filter neB).length<=20001):=⟨Q.out.2,by have:=U.out.2.2.2.2.1;omega⟩;have HE:Hid _:=etk;clear etk hfl J hn V hz2'
          generalize hF:(Y.take m).filter neB=F at own2 HB HE Q
          go_wp2_with (at_builtin;refine wpList_append_lies _ rfl _ _ 42 rfl B.heap.size 9 i0 (.string ⟨#[]⟩) 1 16 Tryz.underlying42 hi hz0 hz1 hz2 rfl (by decide) _ _ _ rfl own2 ⟨d.heap.size,0,none⟩ 1 1 [.string y] rfl rfl (World.news_of_block (heap_alloc_new d (.cells #[.string y] 9)))?c2 (by decide)?c3 ?c4 ?c5 _ rfl ?_)
          case c2=>intro v S;simp at S;subst S;rfl
          case c3=>have:=HB.out.2;unfold maxLen;omega
          case c4=>have:=HB.out.2;omega
          case c5=>have:=HB.out.1.size;simp;omega
          intro D gc w4 own4 gr4 at4 lt4
          have E:Hid (w4.ownsRow B.heap.size 9 1 (.slice (some ⟨D,0,none⟩) (F.length+1) gc) ((Y.take (m+1)).filter neB).length (((Y.take (m+1)).filter neB).map Value.string)/\Below B.heap.size B w4):=by
           refine⟨by rw[HE.out];simpa using own4,?_⟩;exact(HB.out.1.alloc HB.out.1.size _).grown gr4 (by have:=HB.out.1.size;simp;omega) (λq e=>(own2.lt q e).1)
          clear own4 gr4 at4 lt4 own2 HE Q hF
          go_wp2
          go_roundw
          case rel=>exact⟨m+1,z2+1,hlt2,by have:=HZ2.out;omega,by go_num,E.out⟩
          case measure=>simp[intOf];omega
         ·have hne:y.toList.isEmpty=true:=by
           rw[qek];unfold neB at hn;simpa[toL]using hn
          rw[if_neg hn,List.append_nil]at etk
          have E:Hid (d.ownsRow B.heap.size 9 1 u10 ((Y.take (m+1)).filter neB).length (((Y.take (m+1)).filter neB).map Value.string)/\Below B.heap.size B d):=by rw[etk];exact Q
          clear etk hn V hz2' Q
          go_wp2
          go_roundw
          case rel=>exact⟨m+1,z2+1,hlt2,by have:=HZ2.out;omega,by go_num,E.out⟩
          case measure=>simp[intOf];omega
        ·have g4:¬z2<(Y.length:Int):=by omega
         have hk3:m=Y.length:=by omega
         subst hk3;rw[List.take_length,show Y.filter neB=qc3 x by rw[qq2,U.out.2.2.1]]at Q;obtain⟨a,cp,rfl,hst,han⟩:=jan Q.out.1;have B4:Below wo.heap.size wo d:=qab H3.out.2 Q.out.2;have A4:=U.out.1.later B4;have hsm:∀y∈qc3 x,y.size<=20000:=λy V=>U.out.2.2.2.2.2.1 y (by rw[qq2,U.out.2.2.1]at V;exact(List.mem_filter.1 V).1)
         have hpre:L.take k++[x]=L.take (k+1):=by rw[List.take_add_one,U.out.2.1];rfl
         generalize hws:qc3 x=ws at hst hsm Q
         have hBw:=H3.out.2.size;have h:Hid (q1p w d w2.heap.size w.heap.size L (L.take k) K W b Gw G/\qc3 x=ws/\(∀y∈ws,y.size<=20000)/\L.take k++[x]=L.take (k+1)/\K.length<=8020401/\(L.take k).length<=20001/\∀q,B.heap.size<=q->¬G q):=⟨A4,hws,hsm,hpre,U.out.2.2.2.2.2.2.2,U.out.2.2.2.2.2.2.1,λq hq e=>by have:=U.out.1.lt q e;omega⟩;clear A4 B4 hsm hpre hws Q U H3 hz2' hBw;rcases ws with _|⟨y,l⟩
         ·have AD1:=q9s (a:=[111,107]) (b:=[10]) rfl (by decide);have AD2:=q9s (a:=K) (b:=[111,107,10]) rfl (by have:=h.out.2.2.2.2.1;simp;omega)
          have E:Hid (TkI w w2.heap.size w.heap.size L (L.take (k+1)) (K++[111,107,10]) d):=by
           have q:=h.out.1.step (x:=x) (W':=W) (told:=[111,107]) (by unfold qee;rw[h.out.2.1];exact⟨rfl,rfl⟩) (h.out.1.hs.same h.out.1.g (Below.refl _ _));rw[h.out.2.2.2.1,List.append_assoc]at q;exact q
          clear h hst han
          go_wp2
          go_roundw
          case rel=>exact⟨k+1,z+1,_,hlt,by have:=HZ.out;omega,by go_num,rfl,E.out⟩
          case measure=>simp[intOf];omega
         ·obtain⟨D,o,rfl,hgl,cy⟩:=hst.cell 0 y rfl;obtain⟨rfl,hgB⟩:=han D o rfl;have hcl:=hst.cap;have hgG:=h.out.2.2.2.2.2.2 D hgB;have hbd:Below d.heap.size d d.drew:=(Below.refl _ _).drew;have AD:=h.out.1.later hbd;have S0K:qba (λq=>q=D) d d:=qba.refl _ _;have KD:=qbx S0K;have CY:∀w',qba (λq=>q=D) d w'->w'.cell? ⟨D,0,none⟩=some (.string y):=λw' kp=>(World.cell?_of_block (w:=d) (a:=⟨D,0,none⟩) (kp.block D rfl)).trans cy;have HKB:Hid (∀C {er:Int} {t:List UInt8},(∃W',qee W x W' (if er=0 then t else qpn er)/\wfI er/\qg0 (hsP w2.heap.size W') d.drew G C)->qba (λq=>q=D) d C):=λC _ _ ⟨_,_,_,_,_,_,M⟩=>⟨M.os,M.tape,M.output,M.size,λq e=>M.block q (by rw[e];exact hgl) (by rw[e];exact hgG)⟩;clear han;by_cases hcp:cp=1
          ·subst hcp
           obtain rfl:l=[]:=by
            rcases l with _|⟨v,r⟩
            ·rfl
            ·simp at hcl
           have DO:Hid (Calls Tryz.prog 16 #[.pointer (some ⟨w2.heap.size,0,none⟩),.string y,.slice (some ⟨D,0,none⟩) 0 0] d.drew (jb6 W x d.drew w2.heap.size G)):=qyu I.out.2.2 (AD.rd I.out.1 I.out.2.1 (by have:=h.out.2.2.2.2.2.1;omega) (cap:=0) (a:=some ⟨D,0,none⟩) (l:=[]) ⟨by simp,λj y V=>by simp at V⟩ (by simp) (λbk o e=>by injection e with e;injection e with e1 e2;rw[<-e1];exact hgG)) h.out.2.1 (by have:=h.out.2.2.1 y (by simp);unfold maxLen;omega);clear hst hcl AD hbd cy
           dsimp only[List.length_cons,List.length_nil,Nat.zero_add]
           go_upto_region 21 with fail
           go_region_held3 (λw'=>qba (λq=>q=D) d w') (repeat (first|(with_reducible assumption)|(with_reducible refine qbx ?_))) (first
            |(go_at_call 16
              with_reducible refine DO.out.mono ?_
              rintro e C ⟨t,er,rfl,HL⟩
              have KB:qba (λq=>q=D) d C:=HKB.out C HL.out))
           all_goals
            obtain⟨W',X,hwe,hL⟩:=HL.out;have hD:=(h.out.1.tk.len (DkI.new (by decide) (by decide) (by decide))).2;have tl:=X.len hD;obtain⟨M,O⟩:∃v,(if er=0 then t else qpn er)=v:=⟨_,rfl⟩;rw[O]at X tl;obtain⟨T1,P⟩:∃v,M++[10]=v:=⟨_,rfl⟩;obtain⟨out2,Z⟩:∃v,K++T1=v:=⟨_,rfl⟩;have hol:=h.out.2.2.2.2.1;have AD1:=q9s P (by rw[<-P];simp;omega);have AD2:=q9s Z (by rw[<-Z,<-P];simp;omega)
            have E:Hid (TkI w w2.heap.size w.heap.size L (L.take (k+1)) out2 C):=by
                have q:=(h.out.1.later (Below.refl _ _).drew).step (x:=x) (W':=W') (told:=M) X hL;rw[h.out.2.2.2.1,List.append_assoc,P,Z]at q;exact q
            by_cases h0:er=0
            ·subst h0;rw[if_pos rfl]at O;subst O;clear X hwe hL hD tl P Z hol HL KB DO CY S0K KD HKB h I
             go_wp2
             go_roundw
             case rel=>exact⟨k+1,z+1,_,hlt,by have:=HZ.out;omega,by go_num,rfl,E.out⟩
             case measure=>simp[intOf];omega
            ·have h1:(er==0)=false:=beq_false_of_ne h0
             have h2:(er !=0)=true:=by show (!(er==0))=true;rw[h1];rfl
             rw[if_neg h0]at O;have AD0:=q9s (a:=[101,114,114,111,114,32]) (b:=Lib.itoa er) (c:=M) O (by omega);have J:=boxed (Below.refl _ C) (.cells #[.int .i64 er] 3);obtain⟨_,_,_,_,AB⟩:=E.out
             have WD:=qd6 (b:=C.heap.size) (o:=0) (cap:=1) (l:=[er]) (by simp) (by simp) (by simpa using hwe) (C.alloc (.cells #[.int .i64 er] 3)) (I.out.1.later (qab AB.bl J)) (by simp) (λj v S=>by
                 rcases j with _|j
                 ·have:=(qag.new (w:=C) (T:=3) [.int .i64 er] rfl).cell 0 _ rfl;simp at S;subst S;exact this
                 ·simp at S)
             rw[qx9]at WD;have HBZ:Hid _:=J;clear X hwe hL hD tl P Z hol HL KB DO CY S0K KD HKB h I O J AB h0
             go_wp2_with fail
             refine WD.mono ?_;rintro e w5 ⟨rfl,hb5⟩;have FIN2:Hid _:=(E.out.later HBZ.out).later hb5;clear E HBZ hb5 WD
             go_wp2
             go_roundw
             case rel=>exact⟨k+1,z+1,_,hlt,by have:=HZ.out;omega,by go_num,rfl,FIN2.out⟩
             case measure=>simp[intOf];omega
          ·obtain⟨c,rfl⟩:∃c,cp=c+1+1:=⟨cp-2,by simp at hcl;omega⟩
           have b1:(l.length:Int)<=(c:Int)+1:=by simp at hcl;omega
           have b2:(l.length:Int)+1<=(c:Int)+1+1:=by omega
           have b3:(1:Int)<=(l.length:Int)+1:=by omega
           have DO:Hid (Calls Tryz.prog 16 #[.pointer (some ⟨w2.heap.size,0,none⟩),.string y,.slice (some ⟨D,1,none⟩) l.length (c+1)] d.drew (jb6 W x d.drew w2.heap.size G)):=qyu I.out.2.2 (AD.rd I.out.1 I.out.2.1 (by have:=h.out.2.2.2.2.2.1;omega) (cap:=c+1) (a:=some ⟨D,1,none⟩) (l:=l) (by
            have:=(hst.later hbd).tail
            simpa using this) (λv S=>by have:=h.out.2.2.1 v (by simp[S]);omega) (λbk o e=>by injection e with e;injection e with e1 e2;rw[<-e1];exact hgG)) h.out.2.1 (by have:=h.out.2.2.1 y (by simp);unfold maxLen;omega)
           clear hst hcl AD hbd cy
           dsimp only[List.length_cons,List.length_nil,Nat.zero_add]
           go_upto_region 21 with fail
           go_region_held3 (λw'=>qba (λq=>q=D) d w') (repeat (first|(with_reducible assumption)|(with_reducible refine qbx ?_))) (first
            |(go_at_call 16
              with_reducible refine DO.out.mono ?_
              rintro e C ⟨t,er,rfl,HL⟩
              have KB:qba (λq=>q=D) d C:=HKB.out C HL.out))
           all_goals
            obtain⟨W',X,hwe,hL⟩:=HL.out;have hD:=(h.out.1.tk.len (DkI.new (by decide) (by decide) (by decide))).2;have tl:=X.len hD;obtain⟨M,O⟩:∃v,(if er=0 then t else qpn er)=v:=⟨_,rfl⟩;rw[O]at X tl;obtain⟨T1,P⟩:∃v,M++[10]=v:=⟨_,rfl⟩;obtain⟨out2,Z⟩:∃v,K++T1=v:=⟨_,rfl⟩;have hol:=h.out.2.2.2.2.1;have AD1:=q9s P (by rw[<-P];simp;omega);have AD2:=q9s Z (by rw[<-Z,<-P];simp;omega)
            have E:Hid (TkI w w2.heap.size w.heap.size L (L.take (k+1)) out2 C):=by
                have q:=(h.out.1.later (Below.refl _ _).drew).step (x:=x) (W':=W') (told:=M) X hL;rw[h.out.2.2.2.1,List.append_assoc,P,Z]at q;exact q
            by_cases h0:er=0
            ·subst h0;rw[if_pos rfl]at O;subst O;clear X hwe hL hD tl P Z hol HL KB DO CY S0K KD HKB h I
             go_wp2
             go_roundw
             case rel=>exact⟨k+1,z+1,_,hlt,by have:=HZ.out;omega,by go_num,rfl,E.out⟩
             case measure=>simp[intOf];omega
            ·have h1:(er==0)=false:=beq_false_of_ne h0
             have h2:(er !=0)=true:=by show (!(er==0))=true;rw[h1];rfl
             rw[if_neg h0]at O;have AD0:=q9s (a:=[101,114,114,111,114,32]) (b:=Lib.itoa er) (c:=M) O (by omega);have J:=boxed (Below.refl _ C) (.cells #[.int .i64 er] 3);obtain⟨_,_,_,_,AB⟩:=E.out
             have WD:=qd6 (b:=C.heap.size) (o:=0) (cap:=1) (l:=[er]) (by simp) (by simp) (by simpa using hwe) (C.alloc (.cells #[.int .i64 er] 3)) (I.out.1.later (qab AB.bl J)) (by simp) (λj v S=>by
                 rcases j with _|j
                 ·have:=(qag.new (w:=C) (T:=3) [.int .i64 er] rfl).cell 0 _ rfl;simp at S;subst S;exact this
                 ·simp at S)
             rw[qx9]at WD;have HBZ:Hid _:=J;clear X hwe hL hD tl P Z hol HL KB DO CY S0K KD HKB h I O J AB h0
             go_wp2_with fail
             refine WD.mono ?_;rintro e w5 ⟨rfl,hb5⟩;have FIN2:Hid _:=(E.out.later HBZ.out).later hb5;clear E HBZ hb5 WD
             go_wp2
             go_roundw
             case rel=>exact⟨k+1,z+1,_,hlt,by have:=HZ.out;omega,by go_num,rfl,FIN2.out⟩
             case measure=>simp[intOf];omega
  ·have g1:¬z<(N:Int):=by omega
   have hkN:k=N:=by omega
   subst hkN
   have E:Hid (jby s w (.returned (.string (bya K))) wo):=by
        obtain⟨W,b,Gw,G,A⟩:=HS.out;exact⟨K,rfl,⟨W,by rw[HC.out.2.2];exact A.tk⟩,A.bl⟩
   clear HS HC I
   go_wp2
   go_ret;exact E.out
end
section
open Go.RowKit
theorem q6k (l:∀i,i<19->qbr i) (s:ByteArray) (hs:s.size<=20000) (w:World) (gl:Gl w) (fm:q44 w):
 Calls Tryz.prog 6 #[.string s] w (jby s w):=by
 have g:=qu5 10 s (by omega) w gl
 have r:¬20000<(s.size:Int):=by omega
 have c:=λu=>q3b l s hs gl fm u;have j:=(qmz 10 s).1;have R:=qag.new (w:=w) (T:=9) ((qdj 10 s).map Value.string) rfl
 have d:q9z s=if 1<(qdj 10 s).length/\(qdj 10 s).getLast?=some ⟨#[]⟩then (qdj 10 s).length-1 else (qdj 10 s).length:=rfl
 generalize o:w.alloc (.cells ((qdj 10 s).map Value.string).toArray 9)=w1 at g c R
 generalize qdj 10 s=L at g c R j d
 generalize q9z s=N at c d
 clear o gl fm l;by_cases m:1<L.length
 ·obtain⟨y,k⟩:∃y,L[L.length-1]?=some y:=⟨_,List.getElem?_eq_getElem (by omega)⟩;have v:=R.cell (L.length-1) _ (show (L.map Value.string)[L.length-1]?=some (.string y) by rw[List.getElem?_map,k];rfl);rw[List.getLast?_eq_getElem?,k]at d
  generalize L.length=n at*
  obtain⟨z,p⟩:∃z:Int,(n:Int)-1=z:=⟨_,rfl⟩
  have g1:(1:Int)<n:=by omega
  have x:0<=z:=by omega
  have g3:z<n:=by omega
  have g4:z.toNat=n-1:=by omega
  have B:z<=n:=by omega
  have C:(n:Int)<=20001:=by omega
  have W1:wrap64 ((n:Int)-1)=z:=by rw[p];unfold wrap64;omega
  by_cases e:y=⟨#[]⟩
  ·subst e;rw[if_pos ⟨m,rfl⟩]at d;subst d;have h:Hid _:=c;clear c R k j hs;go_enter Tryz.func6,Tryz.ntmps6
   go_wp2_with fail
   refine g.mono ?_;rintro e w' ⟨rfl,rfl⟩;clear g
   go_upto_region 5 with fail
   iterate 18 go_step
   repeat (first|exact h.out (λn=>List.getD (undef::undef::undef::undef::undef::undef::undef::undef::undef::undef::undef::undef::undef::undef::undef::_::_::_::_::_::_::_::_::_::_::_::_::_::_::_::_::_::_::_::_::_::_::[]) n undef)|go_step)
  ·have D:y.toList.isEmpty=false:=by
        rw[qek];cases q:y.data.toList with
        |nil=>exact absurd (show y=⟨#[]⟩from(show y=bya y.data.toList from rfl).trans (by rw[q])) e
        |cons a b=>simp[toL,q]
   rw[if_neg (λq=>e (Option.some.inj q.2))]at d;subst d;have h:Hid _:=c;clear c R k j hs e;go_enter Tryz.func6,Tryz.ntmps6
   go_wp2_with fail
   refine g.mono ?_;rintro e w' ⟨rfl,rfl⟩;clear g
   go_upto_region 4 with fail
   iterate 18 go_step
   repeat (first|exact h.out (λn=>List.getD (undef::undef::undef::undef::undef::undef::undef::undef::undef::undef::undef::undef::undef::undef::undef::_::_::_::_::_::_::_::_::_::_::_::_::_::_::_::_::_::_::_::_::_::_::[]) n undef)|go_step)
 ·rw[if_neg (λq=>m q.1)]at d;subst d;have h:Hid _:=c
  have g1:¬(1:Int)<L.length:=by omega
  clear c R j hs;go_enter Tryz.func6,Tryz.ntmps6
  go_wp2_with fail
  refine g.mono ?_;rintro e w' ⟨rfl,rfl⟩;clear g
  go_upto_region 4 with fail
  iterate 12 go_step
  repeat (first|exact h.out (λn=>List.getD (undef::undef::undef::undef::undef::undef::undef::undef::undef::undef::undef::undef::undef::undef::undef::_::_::_::_::_::_::_::_::_::_::_::_::_::_::_::_::_::_::_::_::_::_::[]) n undef)|go_step)
end
section
open Go.RowKit
theorem q6f:qbr 3:=λ{w w2 n0 hb b j cap nc Gw G W a na l ns} u h hn hlen ht _ hN hb2=>by
 have R:=(h.hs.later hb2).rw;obtain rfl:=qwa hlen;have C:=jbo w2 R h.wi.wf h.wi.nt;have c:Hid (qfb w n0 hb b Gw G W j a cap l/\qc4 3 l=some []/\Below w.heap.size w w2):=⟨h,hn,hb2⟩;clear h hn hb2 hlen ht hN R
 conv=>arg 2;whnf
 unfold qd1
 go_wp2_with fail
 refine C.mono ?_;rintro e i ⟨rfl,W',d,f⟩;have g:Hid _:=c.out.1.fin c.out.2.1 c.out.2.2 ⟨rfl,d.out.1,rfl⟩ (λ_=>rfl) f (Below.refl _ _);clear d f C
 go_wp2
 go_ret2;exact g.out
theorem q2y:qbr 15:=λ{w w2 n0 hb b j cap nc Gw G W a na l ns} u h hn hlen ht _ hN hb2=>by
 have R:=(h.hs.later hb2).rw;obtain⟨x,rfl⟩:=qlx hlen;simp[qaw,qfy,thB,thC]at ht;obtain⟨k,rfl,i,d,m⟩:=qcq ht;obtain⟨g,rfl,p,q,r⟩:=hN.cell 0 _ rfl;have s:=hN.cap;have C:=q8f w2 R h.wi.wf i;have c:Hid (qfb w n0 hb b Gw G W j a cap l/\qc4 15 l=some [(k:Int)]/\Below w.heap.size w w2/\qbt (k:Int) W.n):=⟨h,hn,hb2,d⟩;clear h hn hb2 hlen ht hN R d m
 conv=>arg 2;whnf
 unfold qd1
 go_wp2_with fail
 refine C.mono ?_;rintro e t ⟨rfl,f⟩;have o:Hid _:=c.out.1.fin c.out.2.1 c.out.2.2.1 ⟨rfl,by rw[if_pos c.out.2.2.2];exact⟨rfl,rfl⟩⟩ (λ_=>rfl) f (Below.refl _ _);clear f C
 go_wp2
 go_ret2;exact o.out
theorem q69:qbr 10:=λ{w w2 n0 hb b j cap nc Gw G W a na l ns} u h hn hlen ht _ hN hb2=>by
 have R:=(h.hs.later hb2).rw;obtain⟨x,rfl⟩:=qlx hlen;simp[qaw,qfy,thB,thC]at ht;obtain⟨k,rfl,m,d,n⟩:=qcq ht;obtain⟨g,rfl,q,r,s⟩:=hN.cell 0 _ rfl;have t:=hN.cap;obtain⟨gr,f⟩:∃gr,W.net[k]?=some gr:=⟨_,List.getElem?_eq_getElem m⟩;have C:=q5g w2 R h.wi.wf.net f;have c:Hid (qfb w n0 hb b Gw G W j a cap l/\qc4 10 l=some [(k:Int)]/\Below w.heap.size w w2/\qbt (k:Int) W.net.length):=⟨h,hn,hb2,d⟩;clear h hn hb2 hlen ht hN R d n
 conv=>arg 2;whnf
 unfold qd1
 go_wp2_with fail
 refine C.mono ?_;rintro e v ⟨y,rfl,o,i⟩;have p:Hid _:=c.out.1.fin c.out.2.1 c.out.2.2.1 ⟨rfl,by rw[if_pos c.out.2.2.2];exact⟨rfl,rfl⟩⟩ (λ_=>rfl) i.out.2.2 (Below.refl _ _);clear i o C f
 go_wp2
 go_ret2;exact p.out
theorem q5x:qbr 16:=λ{w w2 n0 hb b j cap nc Gw G W a na l ns} u h hn hlen ht _ hN hb2=>by
 have R:=(h.hs.later hb2).rw;obtain⟨x,rfl⟩:=qlx hlen;simp[qaw,qfy,thB,thC]at ht;obtain⟨k,rfl,m,f,n⟩:=qcq ht;obtain⟨g,rfl,q,r,s⟩:=hN.cell 0 _ rfl;have t:=hN.cap;obtain⟨gr,d⟩:∃gr,W.net[k]?=some gr:=⟨_,List.getElem?_eq_getElem m⟩;have C:=q6v w2 R d;have o:Hid _:=d;have c:Hid (qfb w n0 hb b Gw G W j a cap l/\qc4 16 l=some [(k:Int)]/\Below w.heap.size w w2/\qbt (k:Int) W.net.length):=⟨h,hn,hb2,f⟩;clear h hn hb2 hlen ht hN R f n
 conv=>arg 2;whnf
 unfold qd1
 go_wp2_with fail
 refine C.mono ?_;rintro e v ⟨rfl,i⟩;have p:Hid _:=c.out.1.fin c.out.2.1 c.out.2.2.1 ⟨rfl,by rw[if_pos c.out.2.2.2];exact⟨⟨gr,o.out,rfl⟩,rfl⟩⟩ (λ_=>rfl) i (Below.refl _ _);clear i C d
 go_wp2
 go_ret2;exact p.out
theorem qwu:qbr 6:=λ{w w2 n0 hb b j cap nc Gw G W a na l ns} u h hn hlen ht _ hN hb2=>by
 have R:=(h.hs.later hb2).rw;obtain⟨x,rfl⟩:=qlx hlen;simp[qaw,qfy,thB,thC]at ht;obtain⟨k,rfl,r,i,s⟩:=qcq ht;obtain⟨g,rfl,v,z,A⟩:=hN.cell 0 _ rfl;have B:=hN.cap;obtain⟨gr,d⟩:∃gr,W.net[k]?=some gr:=⟨_,List.getElem?_eq_getElem r⟩;have C:=q5g w2 R h.wi.wf.net d;have f:Hid (W.net[k]?=some gr/\WfW W/\qk8 W):=⟨d,h.wi.wf,h.wi.nt⟩;have c:Hid (qfb w n0 hb b Gw G W j a cap l/\qc4 6 l=some [(k:Int)]/\Below w.heap.size w w2/\qbt (k:Int) W.net.length):=⟨h,hn,hb2,i⟩;clear h hn hb2 hlen ht hN R i s
 conv=>arg 2;whnf
 unfold qd1
 go_wp2_with fail
 refine C.mono ?_;rintro e D ⟨y,rfl,m,n⟩;have o:=qyb f.out.2.1 f.out.2.2 f.out.1 m n;clear n m C d
 go_wp2_with fail
 refine o.mono ?_;rintro e E ⟨rfl,W',p,q⟩;have t:Hid _:=c.out.1.fin c.out.2.1 c.out.2.2.1 ⟨rfl,by rw[if_pos c.out.2.2.2];exact⟨p.out,rfl⟩⟩ (λ_=>rfl) q (Below.refl _ _);clear p q o
 go_wp2
 go_ret2;exact t.out
end
section
open Go.Value Go.IntKind Go.RowKit
theorem qqc {b n:Nat} {wv:Value} {s:qbn} {G:Nat->Prop} {F:Nat->Option Obj} {S:qaf} (key:Int) (w:World) (h:qmo w b wv s) (j:RS w n G F S) (k:qcx S):
 Calls Tryz.prog 32 #[.pointer (some ⟨b,0,none⟩),.pointer (some ⟨n,0,none⟩),int i64 key] w λe w'=>e=.returned (.tuple #[.string (qb2 S s key).1,int i64 (qb2 S s key).2])/\Below w.heap.size w w':=by
 have H:Hid _:=h;have r:Hid (RS w n G F S/\qcx S):=⟨j,k⟩;have l:=h.box.cell 8 _ rfl;have c:=qna key w h;cases ho:s.opn
 ·rw[ho]at l
  have g:Hid (qb2 S s key=(⟨#[]⟩,6)):=by show _=_;unfold qb2;rw[ho];rfl
  clear h j k ho c;rw[g.out];go_enter Tryz.func32,Tryz.ntmps32
  go_wp2_with fail
  go_ret2;exact⟨rfl,Below.refl _ _⟩
 ·rw[ho]at l;cases hw:qf1 s.ws key with
  |none=>
   obtain⟨⟨⟨u,v,rs,y,p,z⟩,B⟩,q⟩:∃x,qfe S key s.s0 s.s1 s.s2 s.s3=x:=⟨_,rfl⟩
   have g:Hid (qb2 S s key=(p,B)):=by show _=_;unfold qb2;rw[ho,hw,q];rfl
   rw[hw,show qeg s.ws key=⟨0,⟨#[]⟩,false⟩ by unfold qeg;rw[hw];rfl]at c
   have I:Hid (∀w',Below w.heap.size w w'->Calls Tryz.prog 79 #[.pointer (some ⟨n,0,none⟩),int i64 key,.agg #[int i64 s.s0,int i64 s.s1,int i64 s.s2,int i64 s.s3]] w' λe J=>e=.returned (.tuple #[.agg #[int i64 u,int i64 v,int i64 rs,int i64 y,.string p,.bool z],int i64 B])/\Below w'.heap.size w' J):=λw' hb=>by
     have:=q46 key s.s0 s.s1 s.s2 s.s3 w' (r.out.1.later hb) r.out.2;rw[q]at this;exact this
   clear h j k ho hw q;rw[g.out];go_enter Tryz.func32,Tryz.ntmps32
   go_wp2_with fail
   refine c.mono ?_;rintro e C ⟨rfl,m⟩;rw[show wrV ⟨0,⟨#[]⟩,false⟩=.agg #[int i64 0,.string ⟨#[]⟩,.bool false]from rfl,show (none:Option Wr).isSome=false from rfl];have i:=boxed m (.cells #[int i64 0,.string ⟨#[]⟩,.bool false] 100);have o:=H.out.box.later i;have K:=o.cell 4 _ rfl;have L:=o.cell 5 _ rfl;have M:=o.cell 6 _ rfl;have N:=o.cell 7 _ rfl;have D:=I.out _ i;clear c l
   go_wp2_with fail
   refine D.mono ?_;rintro e Q ⟨rfl,O⟩;have P:=boxed (qab i O) (.cells #[int i64 u,int i64 v,int i64 rs,int i64 y,.string p,.bool z] 130);clear K L M N D
   go_wp2_with fail
   go_ret2;exact⟨rfl,P⟩
  |some x=>
   obtain⟨d,a,E⟩:=x;rw[hw,show qeg s.ws key=⟨d,a,E⟩ by unfold qeg;rw[hw];rfl]at c;cases E
   ·have g:Hid (qb2 S s key=(a,0)):=by show _=_;unfold qb2;rw[ho,hw];rfl
    clear h j k ho hw;rw[g.out];go_enter Tryz.func32,Tryz.ntmps32
    go_wp2_with fail
    refine c.mono ?_;rintro e C ⟨rfl,m⟩;rw[show wrV ⟨d,a,false⟩=.agg #[int i64 d,.string a,.bool false]from rfl,show (some (⟨d,a,false⟩:Wr)).isSome=true from rfl];have i:=boxed m (.cells #[int i64 d,.string a,.bool false] 100);clear c l
    go_wp2_with fail
    go_ret2;exact⟨rfl,i⟩
   ·have g:Hid (qb2 S s key=(⟨#[]⟩,8)):=by show _=_;unfold qb2;rw[ho,hw];rfl
    clear h j k ho hw;rw[g.out];go_enter Tryz.func32,Tryz.ntmps32
    go_wp2_with fail
    refine c.mono ?_;rintro e C ⟨rfl,m⟩;rw[show wrV ⟨d,a,true⟩=.agg #[int i64 d,.string a,.bool true]from rfl,show (some (⟨d,a,true⟩:Wr)).isSome=true from rfl];have i:=boxed m (.cells #[int i64 d,.string a,.bool true] 100);clear c l
    go_wp2_with fail
    go_ret2;exact⟨rfl,i⟩
end
section
open Tryz Go.Value Go.IntKind Go.RowKit
variable {d:ByteArray}
theorem jdo (h:d.toList.isEmpty=false):d.size≠0:=λe=>by
 rw[qek]at h;have:=qbg d;rw[e]at this;rw[List.length_eq_zero_iff.1 this]at h;cases h
theorem q96 (h:d.toList.isEmpty=true):d.size=0:=by
 rw[qek,List.isEmpty_iff]at h;rw[<-qbg,h];rfl
variable {b:Nat} {s:qbn}
theorem qst {w i j:World} {g c H:Nat} {a:Option Addr} {cap:Nat} {x:Wr} (h:qmo w b (.slice a s.ws.length cap) s) (hb:Below w.heap.size w i) (n:j.ownsRow 0 100 3 (.slice (some ⟨g,0,none⟩) (s.ws.length+1) c) (s.ws.length+1) (qhp s.ws++wrC x)) (gr:i.grownBy j (Value.slice a s.ws.length cap).ownBlock) (l:(Value.slice a s.ws.length cap).ownBlock=some g\/g=H) (q:i.heap.size<=H):
 qlj w b (.slice a s.ws.length cap) {s with ws:=s.ws++[x]} (j.setCell ⟨b,9,none⟩ (.slice (some ⟨g,0,none⟩) (s.ws.length+1) c)):=by
 have o:=h.box.later hb;have p:=o.grown gr (λe=>h.nb e.symm);have r:=h.box.lt
 have m:g≠b:=by
  rcases l with e|e
  ·intro f;rw[f]at e;exact h.nb e
  ·have:=hb.size;omega
 have R:=p.set 9 (.slice (some ⟨g,0,none⟩) (s.ws.length+1) c) (by simp[qbw]);refine⟨.slice (some ⟨g,0,none⟩) (s.ws.length+1) c,⟨R,?_,λe=>m (by simpa[Value.ownBlock]using e)⟩,λk e=>?_,?_⟩
 ·show World.ownsRow _ 0 _ 3 _ (s.ws++[x]).length (qhp (s.ws++[x]));rw[qlr,List.length_append];refine qad n (λk e=>?_)
  have e:g=k:=by simpa[Value.ownBlock]using e
  rw[<-e];exact Below.heap_setCell _ _ _ _ m
 ·have e:g=k:=by simpa[Value.ownBlock]using e
  rw[<-e];rcases l with f|f
  ·exact .inl f
  ·exact .inr (by have:=hb.size;omega)
 ·exact((qae.ofBelow hb).trans (qae.grown gr (λk e=>.inr e))).trans (qae.setCell _ _ _ (.inl rfl))
theorem qta {wv:Value} (x:Wr) (w:World) (h:qmo w b wv s) (hl:s.ws.length<=1000000):
 Calls prog 33 #[.pointer (some ⟨b,0,none⟩),wrV x] w λe w'=>e=.returned (int i64 (qf4 s x))/\qlj w b wv (qlk s x) w':=by
 have NO:∀w9 ev,qf4 s x=ev->ev≠0->Below w.heap.size w w9->Hid ((.returned (int i64 ev):Ending)=.returned (int i64 (qf4 s x))/\qlj w b wv (qlk s x) w9):=λw9 ev e1 e2 e3=>by
  show _/\_;rw[e1,show qlk s x=s by unfold qlk;rw[if_neg (by rw[e1];exact e2)]];exact⟨rfl,qlj.same h e3⟩
 obtain⟨a,cap,rfl,hWi⟩:=qdn h.row;obtain⟨c,i,k⟩:=x;have hb:=boxed (Below.refl _ w) (.cells #[int i64 c,.string i,.bool k] 100);have Y:=qag.new (w:=w) (T:=100) [int i64 c,.string i,.bool k] rfl;change qag (w.alloc (.cells #[int i64 c,.string i,.bool k] 100)) w.heap.size [int i64 c,.string i,.bool k]at Y;have HS:Hid _:=h;have HL:Hid _:=hl;have B:=h.box.later hb;have Z:Hid _:=NO;clear NO hWi;show Calls prog 33 #[.pointer (some ⟨b,0,none⟩),.agg #[int i64 c,.string i,.bool k]] w _;have k8:=B.cell 8 _ rfl;have x0:=Y.cell 0 _ rfl;have x1:=Y.cell 1 _ rfl;have x2:=Y.cell 2 _ rfl;cases ho:s.opn
 ·rw[ho]at k8
  have E:qf4 s ⟨c,i,k⟩=6:=by unfold qf4;rw[if_pos ho]
  have C:=(Z.out _ 6 E (by decide) hb).out;clear E ho B h Y Z hl;go_enter func33,ntmps33
  go_wp2_with fail
  go_ret;exact C
 ·rw[ho]at k8
  have n1:¬s.opn=false:=by rw[ho];decide
  have GO:Hid (∀j,Below (w.alloc (.cells #[int i64 c,.string i,.bool k] 100)).heap.size (w.alloc (.cells #[int i64 c,.string i,.bool k] 100)) j->qmo j b (.slice a s.ws.length cap) s/\qag j w.heap.size [int i64 c,.string i,.bool k]/\Below w.heap.size w j):=λj r=>⟨(HS.out.later hb).later r,Y.later r,qab hb r⟩;cases hin:inB c 0 7
  ·have n2:c<0\/8<=c:=by
     simp only[inB,Bool.and_eq_false_iff,decide_eq_false_iff_not]at hin;omega
   have E:qf4 s ⟨c,i,k⟩=2:=by unfold qf4;rw[if_neg n1,if_pos n2]
   have C:Hid (∀j,Below w.heap.size w j->(.returned (int i64 2):Ending)=.returned (int i64 (qf4 s ⟨c,i,k⟩))/\qlj w b (.slice a s.ws.length cap) (qlk s ⟨c,i,k⟩) j):=λj r=>(Z.out _ 2 E (by decide) r).out;have IN:=qax hin (w.alloc (.cells #[int i64 c,.string i,.bool k] 100));clear E ho B h Y Z hl n1 n2 hin;go_enter func33,ntmps33
   go_wp2_with fail
   refine IN.mono ?_;rintro e L ⟨rfl,M⟩;obtain⟨_,_,N⟩:=GO.out L M;clear k8 x0 x1 x2
   go_wp2_with fail
   go_ret;exact C.out _ N
  ·have n2:¬(c<0\/8<=c):=by
     simp only[inB,Bool.and_eq_true,decide_eq_true_eq]at hin;omega
   have HK:Hid (0<=c/\c<8):=⟨by omega,by omega⟩;have IN:=qax hin (w.alloc (.cells #[int i64 c,.string i,.bool k] 100));by_cases hlen:12<(i.size:Int)
   ·have E:qf4 s ⟨c,i,k⟩=4:=by unfold qf4;rw[if_neg n1,if_neg n2,if_pos (by show 12<i.size;omega)]
    have C:Hid (∀j,Below w.heap.size w j->(.returned (int i64 4):Ending)=.returned (int i64 (qf4 s ⟨c,i,k⟩))/\qlj w b (.slice a s.ws.length cap) (qlk s ⟨c,i,k⟩) j):=λj r=>(Z.out _ 4 E (by decide) r).out;clear E ho B h Y Z hl n1 n2 hin;go_enter func33,ntmps33
    go_wp2_with fail
    refine IN.mono ?_;rintro e L ⟨rfl,M⟩;obtain⟨_,n,N⟩:=GO.out L M;clear k8 x0 x1 x2;have G:=n.cell 1 _ rfl
    go_wp2_with fail
    go_ret;exact C.out _ N
   ·have n3:¬12<i.size:=by omega
    cases hgg:(k&&!i.toList.isEmpty)
    ·have HT:Hid (¬(k=true/\i.size≠0)):=by
        show ¬_;rintro ⟨e1,e2⟩;rw[e1]at hgg;exact e2 (q96 (by simpa using hgg))
     have OW:Hid (∀j,qmo j b (.slice a s.ws.length cap) s->Calls prog 78 #[.pointer (some ⟨b,0,none⟩),int i64 c] j λe w'=>e=.returned (.tuple #[wrV (qeg s.ws c),.bool (qf1 s.ws c).isSome])/\Below j.heap.size j w'):=λj r=>qna c j r;have ALL:Hid (∀j,qmo j b (.slice a s.ws.length cap) s->Calls prog 80 #[.pointer (some ⟨b,0,none⟩)] j λe w'=>∃v,e=.returned v/\w'.ownsRow j.heap.size 100 3 v (qb6 s.ws).length (qhp (qb6 s.ws))/\Below j.heap.size j w'):=λj r=>qq4 j r;obtain⟨⟨ok,D,F⟩,hoo⟩:∃y,qeg s.ws c=y:=⟨_,rfl⟩
     have HF:Hid (¬(qf1 s.ws c=none/\5<=(qb6 s.ws).length)->qf4 s ⟨c,i,k⟩=0/\qlk s ⟨c,i,k⟩={s with ws:=s.ws++[⟨c,i,k⟩]}):=λhno=>by
        have E:qf4 s ⟨c,i,k⟩=0:=by unfold qf4;rw[if_neg n1,if_neg n2,if_neg n3,if_neg HT.out,if_neg hno]
        exact⟨E,by unfold qlk;rw[if_pos E]⟩
     have HF2:Hid ((qf1 s.ws c=none/\5<=(qb6 s.ws).length)->qf4 s ⟨c,i,k⟩=12):=λhno=>by
        unfold qf4;rw[if_neg n1,if_neg n2,if_neg n3,if_neg HT.out,if_pos hno]
     have C:Hid (∀j,qf4 s ⟨c,i,k⟩=12->Below w.heap.size w j->(.returned (int i64 12):Ending)=.returned (int i64 (qf4 s ⟨c,i,k⟩))/\qlj w b (.slice a s.ws.length cap) (qlk s ⟨c,i,k⟩) j):=λj E r=>(Z.out _ 12 E (by decide) r).out;obtain⟨i0,hi,hz0,hz1,hz2⟩:=info_parts qpf;rw[hoo]at OW;clear ho B h Y Z hl n1 n2 n3 hin HT hoo;cases k
     ·clear hgg;go_enter func33,ntmps33
      go_wp2_with fail
      refine IN.mono ?_;rintro e L ⟨rfl,M⟩;obtain⟨O,n,N⟩:=GO.out L M;clear k8 x0 x1 x2 IN GO M;have I:=n.cell 0 _ rfl;have G:=n.cell 1 _ rfl;have J:=n.cell 2 _ rfl;have K:=OW.out L O;cases hw:qf1 s.ws c with
      |some y=>
       rw[hw,show (some y).isSome=true from rfl,show wrV ⟨ok,D,F⟩=.agg #[int i64 ok,.string D,.bool F]from rfl]at K;have P:Hid _:=HF.out (λe=>by rw[hw]at e;cases e.1);clear hw OW ALL C HF HF2
       go_wp2_with fail
       refine K.mono ?_;rintro e w2 ⟨rfl,Q⟩;have o:=boxed Q (.cells #[int i64 ok,.string D,.bool F] 100);have p:=O.later o;have q:=n.later o;have R:=qab N o;obtain⟨l,S⟩:∃l,w2.alloc (.cells #[int i64 ok,.string D,.bool F] 100)=l:=⟨_,rfl⟩;rw[S]at p q R;clear I G J K Q O n o
       go_wp2_with (rw[S])
       have m:qmo l.drew b (.slice a s.ws.length cap) s:=p.later ((Below.refl _ l).drew);have U:=m.row;have hbl:b<l.heap.size:=m.box.lt;have hxl:w.heap.size<l.heap.size:=q.lt;have z9:=p.box.cell 9 _ rfl;have g9:=p.box.free 9 (by simp[qbw]);have I:=q.cell 0 _ rfl;have G:=q.cell 1 _ rfl;have J:=q.cell 2 _ rfl
       go_region_law (refine step_append_lies _ rfl (.tmp 46) (.tmp 48) 88 rfl 0 100 i0 (.agg #[int i64 0,.string ⟨#[]⟩,.bool false]) 3 32 underlying88 hi hz0 hz1 hz2 rfl (by decide) (.slice a s.ws.length cap) s.ws.length (qhp s.ws) (by simp[Act.eval]) (U.alloc _) ⟨l.heap.size,0,none⟩ 1 1 (wrC ⟨c,i,false⟩) (by simp[Act.eval]) rfl (World.news_of_block (heap_alloc_new l.drew (.cells #[int i64 c,.string i,.bool false] 100))) (by intro u V;simp[wrC]at V;rcases V with rfl|rfl|rfl<;>rfl) (by decide) (by have:=HL.out;simp only[maxLen];omega) (by have:=HL.out;omega) (by simp) _ rfl ?_
                      intro g cap9 wE ownE W egE ltE;have H:=((m.box).boxed (.cells #[int i64 c,.string i,.bool false] 100)).grown W (λe=>m.nb e.symm);have e9:=H.cell 9 _ rfl
                      have h9:=H.free 9 (by simp[qbw]))
       all_goals
           have X:=qst HS.out (boxed ((qab R ((Below.refl _ l).drew))) (.cells #[int i64 c,.string i,.bool false] 100)) ownE W egE (by simp);clear H z9 g9 I G J m U
           go_wp2_with fail
           go_ret;refine⟨by rw[P.out.1];rfl,?_⟩;rw[P.out.2];exact X
      |none=>
       rw[hw,show (none:Option Wr).isSome=false from rfl,show wrV ⟨ok,D,F⟩=.agg #[int i64 ok,.string D,.bool F]from rfl]at K
       go_wp2_with fail
       refine K.mono ?_;rintro e w2 ⟨rfl,Q⟩;have o:=boxed Q (.cells #[int i64 ok,.string D,.bool F] 100);have p:=O.later o;have q:=n.later o;have R:=qab N o;obtain⟨l,S⟩:∃l,w2.alloc (.cells #[int i64 ok,.string D,.bool F] 100)=l:=⟨_,rfl⟩;rw[S]at p q R;have AL:=ALL.out l p;clear I G J K Q O n o
       go_wp2_with (rw[S])
       refine AL.mono ?_;rintro e z ⟨v,rfl,ownv,hb4⟩;obtain⟨va,vc,rfl,hWv⟩:=qdn ownv;have SA:=p.later hb4;have XA:=q.later hb4;have hbwA:=qab R hb4;clear AL hWv ownv p q;by_cases r:(5:Int)<=((qb6 s.ws).length:Int)
       ·have X:=C.out z (HF2.out ⟨hw,by omega⟩) hbwA;clear hw OW ALL C HF HF2
        go_wp2_with fail
        go_ret;exact X
       ·have P:Hid _:=HF.out (λe=>by have:=e.2;omega);clear hw OW ALL C HF HF2
        go_wp2_with fail
        have m:qmo z.drew b (.slice a s.ws.length cap) s:=SA.later ((Below.refl _ z).drew);have U:=m.row;have hbl:b<z.heap.size:=m.box.lt;have hxl:w.heap.size<z.heap.size:=XA.lt;have z9:=SA.box.cell 9 _ rfl;have g9:=SA.box.free 9 (by simp[qbw]);have I:=XA.cell 0 _ rfl;have G:=XA.cell 1 _ rfl;have J:=XA.cell 2 _ rfl
        go_region_law (refine step_append_lies _ rfl (.tmp 46) (.tmp 48) 88 rfl 0 100 i0 (.agg #[int i64 0,.string ⟨#[]⟩,.bool false]) 3 32 underlying88 hi hz0 hz1 hz2 rfl (by decide) (.slice a s.ws.length cap) s.ws.length (qhp s.ws) (by simp[Act.eval]) (U.alloc _) ⟨z.heap.size,0,none⟩ 1 1 (wrC ⟨c,i,false⟩) (by simp[Act.eval]) rfl (World.news_of_block (heap_alloc_new z.drew (.cells #[int i64 c,.string i,.bool false] 100))) (by intro u V;simp[wrC]at V;rcases V with rfl|rfl|rfl<;>rfl) (by decide) (by have:=HL.out;simp only[maxLen];omega) (by have:=HL.out;omega) (by simp) _ rfl ?_
                       intro g cap9 wE ownE W egE ltE;have H:=((m.box).boxed (.cells #[int i64 c,.string i,.bool false] 100)).grown W (λe=>m.nb e.symm);have e9:=H.cell 9 _ rfl
                       have h9:=H.free 9 (by simp[qbw]))
        all_goals
            have X:=qst HS.out (boxed ((qab hbwA ((Below.refl _ z).drew))) (.cells #[int i64 c,.string i,.bool false] 100)) ownE W egE (by simp);clear H z9 g9 I G J m U
            go_wp2_with fail
            go_ret;refine⟨by rw[P.out.1];rfl,?_⟩;rw[P.out.2];exact X
     ·have hee:i.toList.isEmpty=true:=by simpa using hgg
      clear hgg;go_enter func33,ntmps33
      go_wp2_with fail
      refine IN.mono ?_;rintro e L ⟨rfl,M⟩;obtain⟨O,n,N⟩:=GO.out L M;clear k8 x0 x1 x2 IN GO M;have I:=n.cell 0 _ rfl;have G:=n.cell 1 _ rfl;have J:=n.cell 2 _ rfl;have K:=OW.out L O;cases hw:qf1 s.ws c with
      |some y=>
       rw[hw,show (some y).isSome=true from rfl,show wrV ⟨ok,D,F⟩=.agg #[int i64 ok,.string D,.bool F]from rfl]at K;have P:Hid _:=HF.out (λe=>by rw[hw]at e;cases e.1);clear hw OW ALL C HF HF2
       go_wp2_with fail
       refine K.mono ?_;rintro e w2 ⟨rfl,Q⟩;have o:=boxed Q (.cells #[int i64 ok,.string D,.bool F] 100);have p:=O.later o;have q:=n.later o;have R:=qab N o;obtain⟨l,S⟩:∃l,w2.alloc (.cells #[int i64 ok,.string D,.bool F] 100)=l:=⟨_,rfl⟩;rw[S]at p q R;clear I G J K Q O n o
       go_wp2_with (rw[S])
       have m:qmo l.drew b (.slice a s.ws.length cap) s:=p.later ((Below.refl _ l).drew);have U:=m.row;have hbl:b<l.heap.size:=m.box.lt;have hxl:w.heap.size<l.heap.size:=q.lt;have z9:=p.box.cell 9 _ rfl;have g9:=p.box.free 9 (by simp[qbw]);have I:=q.cell 0 _ rfl;have G:=q.cell 1 _ rfl;have J:=q.cell 2 _ rfl
       go_region_law (refine step_append_lies _ rfl (.tmp 46) (.tmp 48) 88 rfl 0 100 i0 (.agg #[int i64 0,.string ⟨#[]⟩,.bool false]) 3 32 underlying88 hi hz0 hz1 hz2 rfl (by decide) (.slice a s.ws.length cap) s.ws.length (qhp s.ws) (by simp[Act.eval]) (U.alloc _) ⟨l.heap.size,0,none⟩ 1 1 (wrC ⟨c,i,true⟩) (by simp[Act.eval]) rfl (World.news_of_block (heap_alloc_new l.drew (.cells #[int i64 c,.string i,.bool true] 100))) (by intro u V;simp[wrC]at V;rcases V with rfl|rfl|rfl<;>rfl) (by decide) (by have:=HL.out;simp only[maxLen];omega) (by have:=HL.out;omega) (by simp) _ rfl ?_
                      intro g cap9 wE ownE W egE ltE;have H:=((m.box).boxed (.cells #[int i64 c,.string i,.bool true] 100)).grown W (λe=>m.nb e.symm);have e9:=H.cell 9 _ rfl
                      have h9:=H.free 9 (by simp[qbw]))
       all_goals
           have X:=qst HS.out (boxed ((qab R ((Below.refl _ l).drew))) (.cells #[int i64 c,.string i,.bool true] 100)) ownE W egE (by simp);clear H z9 g9 I G J m U
           go_wp2_with fail
           go_ret;refine⟨by rw[P.out.1];rfl,?_⟩;rw[P.out.2];exact X
      |none=>
       rw[hw,show (none:Option Wr).isSome=false from rfl,show wrV ⟨ok,D,F⟩=.agg #[int i64 ok,.string D,.bool F]from rfl]at K
       go_wp2_with fail
       refine K.mono ?_;rintro e w2 ⟨rfl,Q⟩;have o:=boxed Q (.cells #[int i64 ok,.string D,.bool F] 100);have p:=O.later o;have q:=n.later o;have R:=qab N o;obtain⟨l,S⟩:∃l,w2.alloc (.cells #[int i64 ok,.string D,.bool F] 100)=l:=⟨_,rfl⟩;rw[S]at p q R;have AL:=ALL.out l p;clear I G J K Q O n o
       go_wp2_with (rw[S])
       refine AL.mono ?_;rintro e z ⟨v,rfl,ownv,hb4⟩;obtain⟨va,vc,rfl,hWv⟩:=qdn ownv;have SA:=p.later hb4;have XA:=q.later hb4;have hbwA:=qab R hb4;clear AL hWv ownv p q;by_cases r:(5:Int)<=((qb6 s.ws).length:Int)
       ·have X:=C.out z (HF2.out ⟨hw,by omega⟩) hbwA;clear hw OW ALL C HF HF2
        go_wp2_with fail
        go_ret;exact X
       ·have P:Hid _:=HF.out (λe=>by have:=e.2;omega);clear hw OW ALL C HF HF2
        go_wp2_with fail
        have m:qmo z.drew b (.slice a s.ws.length cap) s:=SA.later ((Below.refl _ z).drew);have U:=m.row;have hbl:b<z.heap.size:=m.box.lt;have hxl:w.heap.size<z.heap.size:=XA.lt;have z9:=SA.box.cell 9 _ rfl;have g9:=SA.box.free 9 (by simp[qbw]);have I:=XA.cell 0 _ rfl;have G:=XA.cell 1 _ rfl;have J:=XA.cell 2 _ rfl
        go_region_law (refine step_append_lies _ rfl (.tmp 46) (.tmp 48) 88 rfl 0 100 i0 (.agg #[int i64 0,.string ⟨#[]⟩,.bool false]) 3 32 underlying88 hi hz0 hz1 hz2 rfl (by decide) (.slice a s.ws.length cap) s.ws.length (qhp s.ws) (by simp[Act.eval]) (U.alloc _) ⟨z.heap.size,0,none⟩ 1 1 (wrC ⟨c,i,true⟩) (by simp[Act.eval]) rfl (World.news_of_block (heap_alloc_new z.drew (.cells #[int i64 c,.string i,.bool true] 100))) (by intro u V;simp[wrC]at V;rcases V with rfl|rfl|rfl<;>rfl) (by decide) (by have:=HL.out;simp only[maxLen];omega) (by have:=HL.out;omega) (by simp) _ rfl ?_
                       intro g cap9 wE ownE W egE ltE;have H:=((m.box).boxed (.cells #[int i64 c,.string i,.bool true] 100)).grown W (λe=>m.nb e.symm);have e9:=H.cell 9 _ rfl
                       have h9:=H.free 9 (by simp[qbw]))
        all_goals
            have X:=qst HS.out (boxed ((qab hbwA ((Below.refl _ z).drew))) (.cells #[int i64 c,.string i,.bool true] 100)) ownE W egE (by simp);clear H z9 g9 I G J m U
            go_wp2_with fail
            go_ret;refine⟨by rw[P.out.1];rfl,?_⟩;rw[P.out.2];exact X
    ·simp only[Bool.and_eq_true,Bool.not_eq_true']at hgg;obtain⟨rfl,hee⟩:=hgg
     have E:qf4 s ⟨c,i,true⟩=1:=by unfold qf4;rw[if_neg n1,if_neg n2,if_neg n3,if_pos ⟨rfl,jdo hee⟩]
     have C:Hid (∀j,Below w.heap.size w j->(.returned (int i64 1):Ending)=.returned (int i64 (qf4 s ⟨c,i,true⟩))/\qlj w b (.slice a s.ws.length cap) (qlk s ⟨c,i,true⟩) j):=λj r=>(Z.out _ 1 E (by decide) r).out;clear E ho B h Y Z hl n1 n2 hin n3;go_enter func33,ntmps33
     go_wp2_with fail
     refine IN.mono ?_;rintro e L ⟨rfl,M⟩;obtain⟨_,n,N⟩:=GO.out L M;clear k8 x0 x1 x2;have I:=n.cell 0 _ rfl;have G:=n.cell 1 _ rfl;have J:=n.cell 2 _ rfl
     go_wp2_with fail
     go_ret;exact C.out _ N
end
section
open Go.RowKit
section
variable {w w':World} {b k:Nat} {M:RoM} {W:WoS} {G:Nat->Prop} {Gs:Nat->Nat->Prop}
theorem RWo.session (h:RWo w b M W Gs) (g:∀k,G k↔qmp b M (W.n+W.c) Gs k) (d:k<W.c):∃wv,qmo w (M.bs k) wv (W.ses k)/\∀a w',qlj w (M.bs k) wv a w'->qfc w b G (qb1 W k a) w'/\qae (Gs (W.n+k)) w w':=by
 obtain⟨wv,i,e⟩:=h.sess d;refine⟨wv,i,λa w' f=>⟨h.stepC g d (f.left e),?_⟩⟩;obtain⟨_,_,_,j⟩:=f.left e;exact j
theorem q82 (h:RWo w b M W Gs) (d:∀k,G k↔qmp b M (W.n+W.c) Gs k) (a:k<W.c) (g:W.at_ k<W.n):Calls Tryz.prog 31 #[.pointer (some ⟨M.bs k,0,none⟩),.pointer (some ⟨M.bp (W.at_ k),0,none⟩)] w λe w'=>e=.returned (.int .i64 (qps (W.S (W.at_ k)) (W.ses k)))/\qfc w b G (qb1 W k (qpb (W.S (W.at_ k)) (W.ses k))) w'/\qae (Gs (W.n+k)) w w':=by
 obtain⟨wv,i,j⟩:=h.session d a;refine(quz w i (h.site g) (λe=>?_)).mono λe w' ⟨l,m⟩=>⟨l,j _ _ m⟩;obtain⟨p,q,o⟩:=h.sess a;exact h.fam.apart (W.at_ k) (W.n+k) (M.bs k) (by omega) (by omega) (by omega) e ((o _).2 (.inl rfl))
theorem qyi (h:RWo w b M W Gs) (a:∀k,G k↔qmp b M (W.n+W.c) Gs k) (d:k<W.c) (x:Go.Proofs.YtoanjdndmlffdaaGreatDoor.Wr) (g:(W.ses k).ws.length<=1000000):Calls Tryz.prog 33 #[.pointer (some ⟨M.bs k,0,none⟩),wrV x] w λe w'=>e=.returned (.int .i64 (qf4 (W.ses k) x))/\qfc w b G (qb1 W k (qlk (W.ses k) x)) w'/\qae (Gs (W.n+k)) w w':=by
 obtain⟨wv,i,j⟩:=h.session a d;exact(qta x w i g).mono λe w' ⟨l,m⟩=>⟨l,j _ _ m⟩
theorem q59 (h:RWo w b M W Gs) (a:∀k,G k↔qmp b M (W.n+W.c) Gs k) (d:k<W.c):Calls Tryz.prog 35 #[.pointer (some ⟨M.bs k,0,none⟩)] w λe w'=>e=.returned (.int .i64 (qsu (W.ses k)))/\qfc w b G (qb1 W k (qpr (W.ses k))) w'/\qae (Gs (W.n+k)) w w':=by
 obtain⟨wv,g,i⟩:=h.session a d;exact(qjj w g).mono λe w' ⟨j,l⟩=>⟨j,i _ _ l⟩
theorem jbp (h:RWo w b M W Gs) (a:k<W.c) (d:W.at_ k<W.n) (g:qcx (W.S (W.at_ k))) (key:Int):Calls Tryz.prog 32 #[.pointer (some ⟨M.bs k,0,none⟩),.pointer (some ⟨M.bp (W.at_ k),0,none⟩),.int .i64 key] w λe w'=>e=.returned (.tuple #[.string (qb2 (W.S (W.at_ k)) (W.ses k) key).1,.int .i64 (qb2 (W.S (W.at_ k)) (W.ses k) key).2])/\Below w.heap.size w w':=by
 obtain⟨wv,i,_⟩:=h.session (G:=qmp b M (W.n+W.c) Gs) (λ_=>Iff.rfl) a;exact qqc key w i (h.site d) g
theorem RWo.laterW (h:RWo w b M W Gs) (hb:Below w.heap.size w w'):RWo w' b M W Gs:=h.later hb
structure jea (w:World) (b:Nat) (M:RoM) (W:WoS) (k:Nat) (F:Nat->Prop) (cg ca ag aa sg sa:Nat):Prop where
 c2:w.cell? ⟨b,2,none⟩=some (.slice (some ⟨cg,0,none⟩) W.c ca)
 l2:W.c<=ca
 c3:w.cell? ⟨b,3,none⟩=some (.slice (some ⟨ag,0,none⟩) W.c aa)
 l3:W.c<=aa
 c0:w.cell? ⟨b,0,none⟩=some (.slice (some ⟨sg,0,none⟩) W.n sa)
 l0:W.n<=sa
 x2:w.cell? ⟨cg,k,none⟩=some (.pointer (some ⟨M.bs k,0,none⟩))
 x3:w.cell? ⟨ag,k,none⟩=some (.int .i64 (W.at_ k))
 x0:w.cell? ⟨sg,W.at_ k,none⟩=some (.pointer (some ⟨M.bp (W.at_ k),0,none⟩))
 fb:F b
 f2:F cg
 f3:F ag
 f0:F sg
theorem RWo.cliAt (h:RWo w b M W Gs) (f:k<W.c) (v:W.at_ k<W.n):∃x e y z sg sa,jea w b M W k (qak b M) x e y z sg sa:=by
 obtain⟨a,e,i,r⟩:=qai h.cr;obtain⟨d,A,j,l⟩:=qai h.ar;obtain⟨s,sa,m,o⟩:=qai h.sr;have p:=h.box.cell 2 _ rfl;have t:=h.box.cell 3 _ rfl;have u:=h.box.cell 0 _ rfl;rw[i]at p;rw[j]at t;rw[m]at u;rcases r.held with q|⟨g,rfl,E,B⟩
 ·omega
 ·rcases l.held with q|⟨g',rfl,F,C⟩
  ·omega
  ·rcases o.held with q|⟨g3,rfl,H,D⟩
   ·omega
   ·exact⟨g,e,g',A,g3,sa,p,r.len,t,l.len,u,o.len,B k _ (qr9 f),C k _ (qkz f),D _ _ (qr9 v),by simp[qak,qeq],by simp[qak,qeq,i,Value.ownBlock],by simp[qak,qeq,j,Value.ownBlock],by simp[qak,qeq,m,Value.ownBlock]⟩
end
end
section
open Go.RowKit
theorem q43:qbr 2:=λ{w w2 n0 hb b j cap nc Gw G W a na l ns} u h hn hlen ht _ hN hb2=>by
 obtain⟨M,o,R,p⟩:=(h.hs.later hb2).rw;have s:=h.hs.rw.lt;obtain⟨x,rfl⟩:=qlx hlen;simp[qaw,qfy,thB,thC]at ht;obtain⟨k,rfl,r,t,E⟩:=qcq ht;obtain⟨g,rfl,P,F,y⟩:=hN.cell 0 _ rfl;have Q:=hN.cap;have z:=h.wi.wf.at_ k r;obtain⟨H,T,I,U,sg,sa,C⟩:=R.cliAt r z
 have B:∀q,(λq=>qak b M q\/q=g) q->q<w2.heap.size/\¬o (W.n+k) q:=λq e=>by
  rcases e with e|rfl
  ·exact⟨R.ltF q e,(R.fam.free q e).2 _ (by omega)⟩
  ·exact⟨F,λe=>by have:=s q ((p q).2 (.inr ⟨_,by omega,e⟩));omega⟩
 have d:∀(q:Addr) (v:Value),(λq=>qak b M q\/q=g) q.block->w2.cell? q=some v->∀w',qba (λq=>qak b M q\/q=g) w2 w'->w'.cell? q=some v:=λq v J e w' kp=>(World.cell?_of_block (w:=w2) (a:=q) (kp.block q.block J)).trans e;have V:=d ⟨b,2,none⟩ _ (.inl C.fb) C.c2;have X:=d ⟨H,k,none⟩ _ (.inl C.f2) C.x2;have Y:=d ⟨g,0,none⟩ _ (.inr rfl) y;have Z:=d ⟨b,0,none⟩ _ (.inl C.fb) C.c0;have K3:=d ⟨b,3,none⟩ _ (.inl C.fb) C.c3;have X0:=d ⟨sg,W.at_ k,none⟩ _ (.inl C.f0) C.x0;have X3:=d ⟨I,k,none⟩ _ (.inl C.f3) C.x3;have g1:=C.l0;have g3:=C.l3;have K:Hid (Calls Tryz.prog 31 #[.pointer (some ⟨M.bs k,0,none⟩),.pointer (some ⟨M.bp (W.at_ k),0,none⟩)] w2.drew λe w'=>e=.returned (.int .i64 (qps (W.S (W.at_ k)) (W.ses k)))/\qfc w2.drew b Gw (qb1 W k (qpb (W.S (W.at_ k)) (W.ses k))) w'/\qae (o (W.n+k)) w2.drew w'):=q82 (R.laterW (Below.refl _ _).drew) p r z;have i:Hid (qfb w n0 hb b Gw G W j a cap l/\qc4 2 l=some [(k:Int)]/\Below w.heap.size w w2/\qbt (k:Int) W.c/\∀q,(λq=>qak b M q\/q=g) q->q<w2.heap.size/\¬o (W.n+k) q):=⟨h,hn,hb2,t,B⟩;have g2:=C.l2;have L:qba (λq=>qak b M q\/q=g) w2 w2:=qba.refl _ _;have KD:=qbx L;clear h hn hb2 hlen ht hN R t E C d y B s p
 conv=>arg 2;whnf
 unfold qd1
 go_upto_region 24 with fail
 go_region_held3 (λw'=>qba (λq=>qak b M q\/q=g) w2 w') (repeat (first|(with_reducible assumption)|(with_reducible refine qbx ?_))) (first
  |(go_at_call 31
    with_reducible refine K.out.mono ?_
    rintro e N ⟨rfl,D,m⟩;have KB:qba (λq=>qak b M q\/q=g) w2 N:=⟨m.os,m.tape,m.output,m.size,λq e=>m.block q (i.out.2.2.2.2 q e).1 (i.out.2.2.2.2 q e).2⟩;have O:Hid _:=i.out.1.fin i.out.2.1 (qab i.out.2.2.1 (Below.refl _ _).drew) ⟨rfl,by rw[if_pos i.out.2.2.2.1];exact⟨rfl,rfl⟩⟩ (λ_=>rfl) D (Below.refl _ _)
    clear D m))
 all_goals
  go_wp2
  go_ret2;exact O.out
theorem q37:qbr 0:=λ{w w2 n0 hb b j cap nc Gw G W a na l ns} u h hn hlen ht _ hN hb2=>by
 obtain⟨M,o,R,p⟩:=(h.hs.later hb2).rw;have s:=h.hs.rw.lt;obtain⟨x,rfl⟩:=qlx hlen;simp[qaw,qfy,thB,thC]at ht;obtain⟨k,rfl,r,t,D⟩:=qcq ht;obtain⟨g,rfl,O,E,y⟩:=hN.cell 0 _ rfl;have P:=hN.cap;have F:=h.wi.wf.at_ k r;obtain⟨H,Q,S,T,sg,sa,C⟩:=R.cliAt r F
 have z:∀q,(λq=>qak b M q\/q=g) q->q<w2.heap.size/\¬o (W.n+k) q:=λq e=>by
  rcases e with e|rfl
  ·exact⟨R.ltF q e,(R.fam.free q e).2 _ (by omega)⟩
  ·exact⟨E,λe=>by have:=s q ((p q).2 (.inr ⟨_,by omega,e⟩));omega⟩
 have m:∀(q:Addr) (v:Value),(λq=>qak b M q\/q=g) q.block->w2.cell? q=some v->∀w',qba (λq=>qak b M q\/q=g) w2 w'->w'.cell? q=some v:=λq v I e w' kp=>(World.cell?_of_block (w:=w2) (a:=q) (kp.block q.block I)).trans e;have U:=m ⟨b,2,none⟩ _ (.inl C.fb) C.c2;have V:=m ⟨H,k,none⟩ _ (.inl C.f2) C.x2;have X:=m ⟨g,0,none⟩ _ (.inr rfl) y;have J:Hid (Calls Tryz.prog 35 #[.pointer (some ⟨M.bs k,0,none⟩)] w2.drew λe w'=>e=.returned (.int .i64 (qsu (W.ses k)))/\qfc w2.drew b Gw (qb1 W k (qpr (W.ses k))) w'/\qae (o (W.n+k)) w2.drew w'):=q59 (R.laterW (Below.refl _ _).drew) p r;have d:Hid (qfb w n0 hb b Gw G W j a cap l/\qc4 0 l=some [(k:Int)]/\Below w.heap.size w w2/\qbt (k:Int) W.c/\∀q,(λq=>qak b M q\/q=g) q->q<w2.heap.size/\¬o (W.n+k) q):=⟨h,hn,hb2,t,z⟩;have Y:=C.l2;have K:qba (λq=>qak b M q\/q=g) w2 w2:=qba.refl _ _;have Z:=qbx K;clear h hn hb2 hlen ht hN R t D C m y z s p
 conv=>arg 2;whnf
 unfold qd1
 go_upto_region 38 with fail
 go_region_held3 (λw'=>qba (λq=>qak b M q\/q=g) w2 w') (repeat (first|(with_reducible assumption)|(with_reducible refine qbx ?_))) (first
  |(go_at_call 35
    with_reducible refine J.out.mono ?_
    rintro e L ⟨rfl,B,i⟩;have KB:qba (λq=>qak b M q\/q=g) w2 L:=⟨i.os,i.tape,i.output,i.size,λq e=>i.block q (d.out.2.2.2.2 q e).1 (d.out.2.2.2.2 q e).2⟩;have N:Hid _:=d.out.1.fin d.out.2.1 (qab d.out.2.2.1 (Below.refl _ _).drew) ⟨rfl,by rw[if_pos d.out.2.2.2.1];exact⟨rfl,rfl⟩⟩ (λ_=>rfl) B (Below.refl _ _)
    clear B i))
 all_goals
  go_wp2
  go_ret2;exact N.out
theorem q3m:qbr 18:=λ{w w2 n0 hb b j cap nc Gw G W a na l ns} u h hn hlen ht _ hN hb2=>by
 obtain⟨M,B,R,y⟩:=(h.hs.later hb2).rw;have D:=h.hs.rw.lt;obtain⟨x,key,rfl⟩:=qpl hlen;obtain⟨l0,l1,d,rfl⟩:=q7u hn;obtain⟨i,s,rfl,E,F⟩:=h.st.cell 2 d rfl;have H:w2.cell? ⟨i,s+2,none⟩=some (.string d):=(hb2.cell (p:=⟨i,s+2,none⟩) E).trans F;have ac:3<=cap:=h.st.cap;have I:¬Gw i:=λe=>h.sn i s rfl ((h.g i).2 (.inr e));simp[qaw,qfy,thB,thC]at ht;obtain⟨k,rfl,z,J,P⟩:=qcq ht;obtain⟨g,rfl,ad,Q,K⟩:=hN.cell 0 _ rfl;obtain⟨g',t,_,_,L⟩:=hN.cell 1 key rfl;injection t with t;injection t with t;subst t;have ae:=hN.cap;have S:=h.wi.wf.at_ k z;obtain⟨T,ca,ag,aa,sg,sa,C⟩:=R.cliAt z S
 have N:∀q,(λq=>qak b M q\/q=g\/q=i) q->q<w2.heap.size/\¬B (W.n+k) q:=λq e=>by
  rcases e with e|rfl|rfl
  ·exact⟨R.ltF q e,(R.fam.free q e).2 _ (by omega)⟩
  ·exact⟨Q,λe=>by have:=D q ((y q).2 (.inr ⟨_,by omega,e⟩));omega⟩
  ·exact⟨Nat.lt_of_lt_of_le E hb2.size,λe=>I ((y q).2 (.inr ⟨_,by omega,e⟩))⟩
 have m:∀(q:Addr) (v:Value),(λq=>qak b M q\/q=g\/q=i) q.block->w2.cell? q=some v->∀w',qba (λq=>qak b M q\/q=g\/q=i) w2 w'->w'.cell? q=some v:=λq v U e w' kp=>(World.cell?_of_block (w:=w2) (a:=q) (kp.block q.block U)).trans e;have K2:=m ⟨b,2,none⟩ _ (.inl C.fb) C.c2;have X2:=m ⟨T,k,none⟩ _ (.inl C.f2) C.x2;have N0:=m ⟨g,0,none⟩ _ (.inr (.inl rfl)) K;have N1:=m ⟨g,1,none⟩ _ (.inr (.inl rfl)) L;have D2:=m ⟨i,s+2,none⟩ _ (.inr (.inr rfl)) H;have V:Hid (Calls Tryz.prog 33 #[.pointer (some ⟨M.bs k,0,none⟩),.agg #[.int .i64 key,.string d,.bool false]] w2.drew λe w'=>e=.returned (.int .i64 (qf4 (W.ses k) ⟨key,d,false⟩))/\qfc w2.drew b Gw (qb1 W k (qlk (W.ses k) ⟨key,d,false⟩)) w'/\qae (B (W.n+k)) w2.drew w'):=qyi (R.laterW (Below.refl _ _).drew) y z ⟨key,d,false⟩ (h.few z);have o:Hid (qfb w n0 hb b Gw G W j (some ⟨i,s,none⟩) cap [l0,l1,d]/\qc4 18 [l0,l1,d]=some [(k:Int),key]/\Below w.heap.size w w2/\qbt (k:Int) W.c/\∀q,(λq=>qak b M q\/q=g\/q=i) q->q<w2.heap.size/\¬B (W.n+k) q):=⟨h,hn,hb2,J,N⟩;have g2:=C.l2;have X:qba (λq=>qak b M q\/q=g\/q=i) w2 w2:=qba.refl _ _;have KD:=qbx X;clear h hn hb2 hlen ht hN R J P C m K L N D y F H I
 conv=>arg 2;whnf
 unfold qd1
 go_upto_region 29 with fail
 go_region_held3 (λw'=>qba (λq=>qak b M q\/q=g\/q=i) w2 w') (repeat (first|(with_reducible assumption)|(with_reducible refine qbx ?_))) (first
  |(go_at_call 33
    with_reducible refine V.out.mono ?_
    rintro e Y ⟨rfl,O,r⟩;have KB:qba (λq=>qak b M q\/q=g\/q=i) w2 Y:=⟨r.os,r.tape,r.output,r.size,λq e=>r.block q (o.out.2.2.2.2 q e).1 (o.out.2.2.2.2 q e).2⟩;have Z:Hid _:=o.out.1.fin o.out.2.1 (qab o.out.2.2.1 (Below.refl _ _).drew) ⟨rfl,by rw[if_pos o.out.2.2.2.1];exact⟨rfl,rfl⟩⟩ (λ_=>rfl) O (Below.refl _ _)
    clear O r))
 all_goals
  go_wp2
  go_ret2;exact Z.out
theorem q62:qbr 7:=λ{w w2 n0 hb b j cap nc Gw G W a na l ns} u h hn hlen ht _ hN hb2=>by
 obtain⟨M,r,R,s⟩:=(h.hs.later hb2).rw;have t:=h.hs.rw.lt;obtain⟨x,key,rfl⟩:=qpl hlen;simp[qaw,qfy,thB,thC]at ht;obtain⟨k,rfl,p,y,F⟩:=qcq ht;obtain⟨g,rfl,Q,H,z⟩:=hN.cell 0 _ rfl;obtain⟨g',m,_,_,B⟩:=hN.cell 1 key rfl;injection m with m;injection m with m;subst m;have S:=hN.cap;have I:=h.wi.wf.at_ k p;obtain⟨J,T,U,V,sg,sa,C⟩:=R.cliAt p I
 have D:∀q,(λq=>qak b M q\/q=g) q->q<w2.heap.size/\¬r (W.n+k) q:=λq e=>by
  rcases e with e|rfl
  ·exact⟨R.ltF q e,(R.fam.free q e).2 _ (by omega)⟩
  ·exact⟨H,λe=>by have:=t q ((s q).2 (.inr ⟨_,by omega,e⟩));omega⟩
 have o:∀(q:Addr) (v:Value),(λq=>qak b M q\/q=g) q.block->w2.cell? q=some v->∀w',qba (λq=>qak b M q\/q=g) w2 w'->w'.cell? q=some v:=λq v K e w' kp=>(World.cell?_of_block (w:=w2) (a:=q) (kp.block q.block K)).trans e;have X:=o ⟨b,2,none⟩ _ (.inl C.fb) C.c2;have Y:=o ⟨J,k,none⟩ _ (.inl C.f2) C.x2;have Z:=o ⟨g,0,none⟩ _ (.inr rfl) z;have N1:=o ⟨g,1,none⟩ _ (.inr rfl) B;have L:Hid (Calls Tryz.prog 33 #[.pointer (some ⟨M.bs k,0,none⟩),.agg #[.int .i64 key,.string ⟨#[]⟩,.bool true]] w2.drew λe w'=>e=.returned (.int .i64 (qf4 (W.ses k) ⟨key,⟨#[]⟩,true⟩))/\qfc w2.drew b Gw (qb1 W k (qlk (W.ses k) ⟨key,⟨#[]⟩,true⟩)) w'/\qae (r (W.n+k)) w2.drew w'):=qyi (R.laterW (Below.refl _ _).drew) s p ⟨key,⟨#[]⟩,true⟩ (h.few p);have d:Hid (qfb w n0 hb b Gw G W j a cap l/\qc4 7 l=some [(k:Int),key]/\Below w.heap.size w w2/\qbt (k:Int) W.c/\∀q,(λq=>qak b M q\/q=g) q->q<w2.heap.size/\¬r (W.n+k) q):=⟨h,hn,hb2,y,D⟩;have g2:=C.l2;have N:qba (λq=>qak b M q\/q=g) w2 w2:=qba.refl _ _;have KD:=qbx N;clear h hn hb2 hlen ht hN R y F C o z B D t s
 conv=>arg 2;whnf
 unfold qd1
 go_upto_region 31 with fail
 go_region_held3 (λw'=>qba (λq=>qak b M q\/q=g) w2 w') (repeat (first|(with_reducible assumption)|(with_reducible refine qbx ?_))) (first
  |(go_at_call 33
    with_reducible refine L.out.mono ?_
    rintro e O ⟨rfl,E,i⟩;have KB:qba (λq=>qak b M q\/q=g) w2 O:=⟨i.os,i.tape,i.output,i.size,λq e=>i.block q (d.out.2.2.2.2 q e).1 (d.out.2.2.2.2 q e).2⟩;have P:Hid _:=d.out.1.fin d.out.2.1 (qab d.out.2.2.1 (Below.refl _ _).drew) ⟨rfl,by rw[if_pos d.out.2.2.2.1];exact⟨rfl,rfl⟩⟩ (λ_=>rfl) E (Below.refl _ _)
    clear E i))
 all_goals
  go_wp2
  go_ret2;exact P.out
end
open Go.RowKit
theorem quu (s:ByteArray) (hs:20000<s.size) (h:s.size<=1000000) (w:World) (g:Gl w):
 Calls Tryz.prog 5 #[.string s] w λe w'=>e=.returned (.string (bya [101,114,114,111,114,32,52,10]))/\Below w.heap.size w w':=by
 have a:=quf 4 ⟨by decide,by decide⟩ w g
 have i:20000<(s.size:Int):=by omega
 have b:qpn 4=[101,114,114,111,114,32,52]:=by unfold qpn;simp[Lib.itoa,Lib.decDigits]
 rw[b]at a;have j:=λw=>qnh (P:=Tryz.prog) (bya [101,114,114,111,114,32,52]) ⟨#[10]⟩ (by decide) w
 have c:Hid (bya [101,114,114,111,114,32,52]++⟨#[10]⟩=bya [101,114,114,111,114,32,52,10]):=by
  show _=_;rw[show (⟨#[10]⟩:ByteArray)=bya [10]from rfl,qbo];rfl
 clear hs b g;go_enter Tryz.func5,Tryz.ntmps5
 go_wp2_with fail
 refine a.mono ?_;rintro e k ⟨rfl,d⟩
 go_wp2
 rw[c.out];go_ret;exact⟨rfl,d⟩
end Go.Proofs.YtoanjdndmlffdaaGreatDoor
