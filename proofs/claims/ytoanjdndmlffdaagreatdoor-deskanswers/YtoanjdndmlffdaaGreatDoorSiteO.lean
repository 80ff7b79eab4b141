import Derived.Test.YtoanjdndmlffdaaGreatDoorSiteM
import Derived.RegionDies
set_option maxHeartbeats 8000000
set_option maxRecDepth 100000
namespace Go.Proofs.YtoanjdndmlffdaaGreatDoor
section
open Go.RowKit
structure jan (W:WoS) (k at_ p0 p1 p2 p3 s0 s1 s2 s3:Int) (op:Bool) (er:Int):Prop where
 cmd:qaa 4 W [k] ⟨#[]⟩ W er (if er=0 then qv [at_]++[44,32]++qv [p0,p1,p2,p3]++if op=true then [44,32]++qv [s0,s1,s2,s3]else []else [])
 wf:∀x∈[at_,p0,p1,p2,p3,s0,s1,s2,s3],wfI x
theorem j1 {x:Int} (h:qag x):wfI x:=⟨by have:=h.1;omega,by have:=h.2;omega⟩
theorem qq2 {b:Nat} {G:Nat->Prop} {W:WoS} (k:Int) (m:DkI W):∃at_ p0 p1 p2 p3 s0 s1 s2 s3 n er,jan W k at_ p0 p1 p2 p3 s0 s1 s2 s3 n er/\∀w,PW w b G W->Ca 101 #[PP b,U k] w (Rn (.tuple #[U at_,.agg #[U p0,U p1,U p2,U p3],.agg #[U s0,U s1,U s2,U s3],.bool n,jc er]) w):=by
 obtain⟨j,o⟩:=m.pl;by_cases g:ye k W.c
 ·obtain⟨i,rfl,hi,e⟩:=zq g;have d:=m.ses i hi;have p:=o.wf.at_ i hi;have q:=o.wf.n4;refine⟨_,_,_,_,_,_,_,_,_,_,0,⟨⟨rfl,by rw[if_pos g];exact⟨rfl,rfl⟩⟩,λx f=>?_⟩,λw h=>q26 w h hi⟩;simp only[jdd,List.not_mem_nil,or_false]at f;rcases f with rfl|rfl|rfl|rfl|rfl|rfl|rfl|rfl|rfl
  ·exact⟨by omega,by omega⟩
  ·exact j1 d.p0
  ·exact j1 d.p1
  ·exact j1 d.p2
  ·exact j1 d.p3
  ·exact j1 d.s0
  ·exact j1 d.s1
  ·exact j1 d.s2
  exact j1 d.s3
 refine⟨0,0,0,0,0,0,0,0,0,false,2,⟨⟨rfl,by rw[if_neg g];exact⟨rfl,rfl⟩⟩,λx f=>?_⟩,λw h=>qtc k w h g⟩;simp at f;subst f;exact⟨by decide,by decide⟩
section
variable {cb mb b j cap:Nat} {Gw G:Nat->Prop} {W:WoS} {a:Option Addr} {l:List ByteArray}
theorem q23 (w:World) (h:vk w cb mb b Gw G W j a cap l) (c:ju 1 l=none):Ca 50 #[PP cb,.slice a l.length cap] w (jm 4 W l w cb mb G):=by
 have g:=hd1 h
 have i:Hid (∀w',Bw w w'->Ca 95 #[.slice a l.length cap] w' λe w2=>e=qc7 3/\Bw w' w2):=λw' d=>(qi1 h.sm w' (h.gl.later d) (h.st.later d)).mono λe w2 ⟨k,m⟩=>by
  rcases m with ⟨v,n,_⟩|⟨_,p⟩
  ·rw[n.out]at c;cases c
  exact⟨p,k⟩
 have f:=h.ck.cell0;have q:=hd1 c;have t:=λo=>cell_later (boxed (jcc _ w) o) f;have u:=λo r=>cell_later (boxed (boxed (jcc _ w) o) r) f;clear h c;go_enter Tryz.func50,Tryz.ntmps50
 go_wp2
 go_region_dies
 all_goals
  refine(i.out _ (by repeat (first|(with_reducible exact jcc _ _)|(with_reducible refine boxed ?_ _)|(with_reducible refine jc6 ?_)))).mono ?_;rintro e x ⟨rfl,s⟩;exact⟨rfl,g.out.no (by decide) q.out (qa (by repeat (first|(with_reducible exact jcc _ _)|(with_reducible refine boxed ?_ _)|(with_reducible refine jc6 ?_))) s)⟩
end
end
section
open Go.RowKit
section
variable {cb mb b j cap:Nat} {Gw G:Nat->Prop} {W:WoS} {a:Option Addr} {l:List ByteArray}
theorem qys (w:World) (h:vk w cb mb b Gw G W j a cap l) {r:List Int} (f:ju 1 l=some r):Ca 50 #[PP cb,.slice a l.length cap] w (jm 4 W l w cb mb G):=by
 have m:Hid (vk w cb mb b Gw G W j a cap l):=h
 obtain⟨v,rfl⟩:∃v,r=[v]:=by
  unfold ju at f;split at f
  ·rename_i q;exact List.length_eq_one_iff.1 ((qbb f).trans q)
  cases f
 have X:Hid (∀w',Bw w w'->Ca 95 #[.slice a l.length cap] w' λe w2=>e=.returned (U v)/\Bw w' w2):=λw' n=>(qi1 h.sm w' (h.gl.later n) (h.st.later n)).mono λe w2 ⟨D,g⟩=>by
  rcases g with ⟨u,J,he⟩|⟨J,_⟩
  ·have:=J.out;rw[f]at this;injection this with this;injection this with this;rw[this];exact⟨he,D⟩
  have:=J.out;rw[f]at this;cases this
 obtain⟨at_,p0,p1,p2,p3,s0,s1,s2,s3,E,er,Y,Z⟩:=qq2 (b:=b) (G:=Gw) v h.di;have OP:Hid (∀w',Bw w w'->Ca 101 #[PP b,U v] w' λe w2=>e=.returned (.tuple #[U at_,.agg #[U p0,U p1,U p2,U p3],.agg #[U s0,U s1,U s2,U s3],.bool E,jc er])/\Bw w' w2):=λw' n=>Z w' (h.ck.later n).pw;have p:Hid (jan W v at_ p0 p1 p2 p3 s0 s1 s2 s3 E er/\ju 1 l=some [v]):=⟨Y,f⟩;have c0:=h.ck.cell0;have X0:=λ(w':World) (h:Bw w w')=>cell_later h c0;clear h f Z Y c0;go_enter Tryz.func50,Tryz.ntmps50
 go_wp2
 go_cut [5,6,7,8,9] (λt5 t6 t7 t8 t9 K=>∃s t:Nat,t5=U at_/\t6=.pointer (PT s)/\t7=.pointer (PT t)/\t8=.bool E/\t9=jc er/\Bw w K/\qo K s p0 p1 p2 p3/\qo K t s0 s1 s2 s3)
 case first=>
  go_region_held3 (λw'=>Bw w w') ((repeat (first|(with_reducible assumption)|(with_reducible refine boxed ?_ _)|(with_reducible refine jc6 ?_)|(with_reducible refine jdz ?_ (by first|(simp;done)|(simp;omega)) _)|(with_reducible exact jcc _ _))))
   (first|(go_at_call 95;refine(X.out _ (by with_reducible assumption)).mono ?_;rintro e wa ⟨rfl,y⟩;have hS:Bw w wa:=qa (by with_reducible assumption) y;have hla:=hS.size;obtain⟨hc1,hf1⟩:=qdb y;have hz1:=blt y;have n1:=bne y;have m1:=jbf y)|(go_at_call 101;refine(OP.out _ (by with_reducible assumption)).mono ?_;rintro e wb ⟨rfl,z⟩;have hSb:Bw w wb:=qa (by with_reducible assumption) z;have hlb:=hSb.size;have hab:Bw wa wb:=(by first|exact z|exact qa (boxed (jcc _ _) _) z|exact qa (boxed (boxed (jcc _ _) _) _) z);have h12:=qa y hab;obtain⟨hc2,hf2⟩:=qdb z;obtain⟨hc3,hf3⟩:=qdb h12;have hz2:=blt z;have hz3:=blt h12))
  all_goals
   go_wp2
   go_meet
   case rel=>
        refine⟨_,_,rfl,rfl,rfl,rfl,rfl,by assumption,?_,?_⟩
        ·(repeat (first|(with_reducible refine qo.newest ?_;(first|rfl|(simp;done)))|(with_reducible refine qo.boxed ?_ _)|(with_reducible refine qo.set (a0:=0) (a1:=0) (a2:=0) (a3:=0) ?_)|(with_reducible refine qo.far4 ?_ ?_;rotate_left;(first|(simp;done)|(simp;omega)|omega))));all_goals (constructor<;>go_simp)
        (repeat (first|(with_reducible refine qo.newest ?_;(first|rfl|(simp;done)))|(with_reducible refine qo.boxed ?_ _)|(with_reducible refine qo.set (a0:=0) (a1:=0) (a2:=0) (a3:=0) ?_)|(with_reducible refine qo.far4 ?_ ?_;rotate_left;(first|(simp;done)|(simp;omega)|omega))));all_goals (constructor<;>go_simp)
 obtain⟨s,t,rfl,rfl,rfl,rfl,rfl,L,R6,R7⟩:=hcut;have B:Hid (Bw w wc/\qo wc s p0 p1 p2 p3/\qo wc t s0 s1 s2 s3):=⟨L,R6,R7⟩;have MU:=qda er wc (m.out.gl.later L);clear L R6 R7 X0 X OP
 go_wp2_with fail
 refine MU.mono ?_;rintro e d ⟨C,(⟨F,rfl⟩|⟨F,rfl⟩)⟩
 rotate_left
 ·exact⟨rfl,m.out.told (by decide) p.out.2 p.out.1.cmd (qa B.out.1 C) (.inr ⟨F,rfl⟩)⟩
 have M:=qa B.out.1 C;have i:=p.out.1.wf;have N:Bw w ((d.alloc (.cells #[U at_] 3)).drew):=(boxed M _).drew;have O:=qb1 (b:=d.heap.size) (o:=0) (cap:=1) (l:=[at_]) (by simp) (by simp) (λx c=>i x (by simp at c;simp[c])) ((d.alloc (.cells #[U at_] 3)).drew) (m.out.gl.later N) (by simp) (qee (w:=d) (T:=3) [at_])
 dsimp only[List.length_cons,List.length_nil,Nat.reduceAdd]at O
 have Q:Hid (∀w',Bw w w'->Bw d w'->Ca 102 #[.slice (PT s) 4 4] w' λe w2=>e=.returned (.string (bya (qv [p0,p1,p2,p3])))/\Bw w' w2):=λw' D g=>qb1 (b:=s) (o:=0) (cap:=4) (l:=[p0,p1,p2,p3]) (by simp) (by simp) (λx c=>i x (by simp at c ⊢;rcases c with e|e|e|e<;>simp[e])) w' (m.out.gl.later D) (jci (B.out.2.1.later C).lt g.size) (qm2 ((B.out.2.1.later C).later g));have R:Hid (∀w',Bw w w'->Bw d w'->Ca 102 #[.slice (PT t) 4 4] w' λe w2=>e=.returned (.string (bya (qv [s0,s1,s2,s3])))/\Bw w' w2):=λw' D g=>qb1 (b:=t) (o:=0) (cap:=4) (l:=[s0,s1,s2,s3]) (by simp) (by simp) (λx c=>i x (by simp at c ⊢;rcases c with e|e|e|e<;>simp[e])) w' (m.out.gl.later D) (jci (B.out.2.2.later C).lt g.size) (qm2 ((B.out.2.2.later C).later g))
 have l1:(qv [at_]).length<=22:=by have:=ze (l:=[at_]) (λx c=>i x (by simp at c;simp[c]));simpa using this
 have l2:(qv [p0,p1,p2,p3]).length<=88:=by have:=ze (l:=[p0,p1,p2,p3]) (λx c=>i x (by simp at c ⊢;rcases c with e|e|e|e<;>simp[e]));simpa using this
 have l3:(qv [s0,s1,s2,s3]).length<=88:=by have:=ze (l:=[s0,s1,s2,s3]) (λx c=>i x (by simp at c ⊢;rcases c with e|e|e|e<;>simp[e]));simpa using this
 have A1:=λw=>qfi (P:=Tryz.prog) (bya (qv [at_])) ⟨#[44,32]⟩ (by simp[zo];omega) w;have A2:=λw=>qfi (P:=Tryz.prog) (bya (qv [at_])++⟨#[44,32]⟩) (bya (qv [p0,p1,p2,p3])) (by simp[zo];omega) w;have A3:=λw=>qfi (P:=Tryz.prog) ⟨#[44,32]⟩ (bya (qv [s0,s1,s2,s3])) (by simp[zo];omega) w;have A4:=λw=>qfi (P:=Tryz.prog) (bya (qv [at_])++⟨#[44,32]⟩++bya (qv [p0,p1,p2,p3])) (⟨#[44,32]⟩++bya (qv [s0,s1,s2,s3])) (by simp[zo];omega) w;clear l1 l2 l3;have H:Hid (∀w',Bw w w'->jm 4 W l w cb mb G (.returned (.string (bya (qv [at_]++[44,32]++qv [p0,p1,p2,p3]++if E=true then [44,32]++qv [s0,s1,s2,s3]else [])))) w'):=λw' n=>m.out.told (by decide) p.out.2 p.out.1.cmd n (.inl ⟨F,by rw[if_pos F]⟩);have HX3:Hid (Bw w d):=M;clear F M i MU p;have hw3:Bw d ((d.alloc (.cells #[U at_] 3)).drew):=(boxed (jcc _ d) _).drew
 go_wp2
 go_region_with (first|(go_at_call 102;(with_reducible refine O.mono ?_);rintro e S ⟨rfl,hb4⟩;have hb4w:Bw w S:=qa N hb4;have hb43:Bw d S:=qa hw3 hb4;have BL2:=Q.out S hb4w hb43)|(go_at_call 102;(with_reducible refine BL2.mono ?_);rintro e I ⟨rfl,hb5⟩;have V:Bw w I:=qa hb4w hb5;have hb53:Bw d I:=qa hb43 hb5))
 all_goals
  clear O BL2 N hw3;cases E
  ·have k:=H.out I V;rw[if_neg (by simp)]at k
   rw[show bya (qv [at_]++[44,32]++qv [p0,p1,p2,p3]++[])=bya (qv [at_])++⟨#[44,32]⟩++bya (qv [p0,p1,p2,p3]) by
        rw[show (⟨#[44,32]⟩:ByteArray)=bya [44,32]from rfl,jz,jz];simp]at k
   clear Q R H A1 A2 A3 A4
   go_wp2
   go_ret;exact k
  have BL3:=R.out I V hb53
  go_wp2_with fail
  refine BL3.mono ?_;rintro e w6 ⟨rfl,hb6⟩;have k:=H.out w6 (qa V hb6);rw[if_pos (by trivial)]at k
  rw[show bya (qv [at_]++[44,32]++qv [p0,p1,p2,p3]++([44,32]++qv [s0,s1,s2,s3]))=bya (qv [at_])++⟨#[44,32]⟩++bya (qv [p0,p1,p2,p3])++(⟨#[44,32]⟩++bya (qv [s0,s1,s2,s3])) by
   rw[show (⟨#[44,32]⟩:ByteArray)=bya [44,32]from rfl,jz,jz,jz,jz]]at k
  clear Q R H BL3
  go_wp2
  go_ret;exact k
theorem q3r (w:World) (h:vk w cb mb b Gw G W j a cap l):Ca 50 #[PP cb,.slice a l.length cap] w (jm 4 W l w cb mb G):=by
 cases hn:ju 1 l with
 |none=>exact q23 w h hn
 |some r=>exact qys w h hn
end
end
section
open Go.RowKit
structure qhm (w:World) (b:Nat) (vs:List Value):Prop where
 cell:∀j v,vs[j]?=some v->w.cell? (AD b j)=some v
 lt:b<w.heap.size
variable {w w':World} {b:Nat} {vs:List Value}
theorem qhm.kept (h:qhm w b vs) (e:w'.heap[b]?=w.heap[b]?) (c:w.heap.size<=w'.heap.size):qhm w' b vs:=
 ⟨λj v d=>by rw[jch (w:=w) e];exact h.cell j v d,jci h.lt c⟩
theorem qhm.later (h:qhm w b vs) (c:Bw w w'):qhm w' b vs:=h.kept (c.block b h.lt) c.size
theorem qhm.far (h:qhm w b vs) (p:Addr) (u:Value) (c:p.block≠b):qhm (w.setCell p u) b vs:=h.kept (jce _ _ _ _ (Ne.symm c)) (by simp[World.setCell])
theorem qhm.boxed (h:qhm w b vs) (o:Obj):qhm (w.alloc o) b vs:=h.kept (jdg _ _ _ h.lt) (by simp)
theorem qhm.drew (h:qhm w b vs):qhm w.drew b vs:=h.kept rfl (jcd _)
structure jbx (W:WoS) (k a0 a1 a2 a3 wn vn er:Int) (tx:List ByteArray):Prop where
 cmd:qaa 14 W [k] ⟨#[]⟩ W er (if er=0 then qv [a0,a1,a2,a3]++[44,32]++qv [wn,vn]++[44,32]++Lib.join (tx.map (·.data.toList)) [32]else [])
 wf:∀x∈[a0,a1,a2,a3,wn,vn],wfI x
 tl:tx.length=8
 ts:∀x∈tx,x.size<=13
def jae (w w':World) (tx:List ByteArray) (v:Value):Prop:=∃tb tc,v=.slice (PT tb) 8 tc/\8<=tc/\qhm w' tb (tx.map Value.string)/\w.heap.size<=tb
theorem qno {a0 a1 a2 a3:Int} {l:List Hd} {key:Int} (h:∀x∈l,qau x.v=true):(qdf a0 a1 a2 a3 l key).size<=13:=by
 unfold qdf;split
 ·have:=qnf (key:=key) (a0:=a0) (a1:=a1) (a2:=a2) (a3:=a3) h;rw[jc4];show 1+_<=13;omega
 exact jcw _
theorem q0p {G:Nat->Prop} {W:WoS} (k:Int) (B:DkI W):∃a0 a1 a2 a3 r s er t,jbx W k a0 a1 a2 a3 r s er t/\∀w,PW w b G W->Ca 114 #[PP b,U k] w λe w'=>∃v,e=.returned (.tuple #[.agg #[U a0,U a1,U a2,U a3],U r,v,U s,jc er])/\Hid (er=0->jae w w' t v)/\Bw w w':=by
 obtain⟨j,o⟩:=B.pl;by_cases m:ye k W.n
 ·obtain⟨i,rfl,hi,e⟩:=zq m;have d:=o.wf.inv i hi;have L:=o.wf.wt i hi;have M:=d.len;have N:=d.log;refine⟨_,_,_,_,_,_,0,(List.range 8).map (λ(q:Nat)=>qdf (W.S i).a0 (W.S i).a1 (W.S i).a2 (W.S i).a3 (W.S i).l q),⟨⟨rfl,by rw[if_pos m,if_pos rfl];exact⟨by unfold qmb qc0;rw[List.map_map];rfl,rfl⟩⟩,λx c=>?_,by simp,λx c=>?_⟩,λw h=>(jab w h o.wf hi).mono λe w' ⟨v,p,f,C⟩=>⟨v,p,λ_=>?_,C⟩⟩
  ·simp only[jdd,List.not_mem_nil,or_false]at c;rcases c with rfl|rfl|rfl|rfl|rfl|rfl
   ·exact j1 d.a0
   ·exact j1 d.a1
   ·exact j1 d.a2
   ·exact j1 d.a3
   ·exact⟨by omega,by omega⟩
   exact⟨by omega,by omega⟩
  ·obtain⟨q,_,rfl⟩:=jcz.1 c;exact qno d.ok
  obtain⟨u,z,rfl,D,E⟩:=f.form (by decide);have F:=f.cells (g:=u) rfl
  have H:8<=z:=by
   rcases f.2 with ⟨h,_⟩|⟨g',O,cur,I,_,_,J,_⟩
   ·cases h
   cases I;exact J
  refine⟨u,z,rfl,H,⟨λq y A=>?_,E⟩,D⟩;rw[List.map_map]at A;have:=F q y A;rcases Nat.eq_zero_or_pos q with rfl|K
  ·simpa[Addr.add]using this
  simpa[Addr.add,Nat.ne_of_gt K]using this
 refine⟨0,0,0,0,0,0,2,List.replicate 8 ⟨#[]⟩,⟨⟨rfl,by rw[if_neg m];exact⟨rfl,rfl⟩⟩,λx c=>?_,rfl,λx c=>?_⟩,λw h=>(qxw k w h m).mono λe w' ⟨p,f⟩=>⟨_,p,λe=>(by cases e),f⟩⟩
 ·simp at c;subst c;exact⟨by decide,by decide⟩
 rw[(List.mem_replicate.1 c).2];decide
section
variable {cb mb b j cap:Nat} {Gw G:Nat->Prop} {W:WoS} {a:Option Addr} {l:List ByteArray}
theorem q8r (w:World) (h:vk w cb mb b Gw G W j a cap l) (c:ju 1 l=none):Ca 60 #[PP cb,.slice a l.length cap] w (jm 14 W l w cb mb G):=by
 have f:=hd1 h
 have g:Hid (∀w',Bw w w'->Ca 95 #[.slice a l.length cap] w' λe w2=>e=qc7 3/\Bw w' w2):=λw' d=>(qi1 h.sm w' (h.gl.later d) (h.st.later d)).mono λe w2 ⟨i,k⟩=>by
  rcases k with ⟨v,m,_⟩|⟨_,n⟩
  ·rw[m.out]at c;cases c
  exact⟨n,i⟩
 have p:=h.ck.cell0;have q:=hd1 c;have s:=λo=>cell_later (boxed (jcc _ w) o) p;clear h c;go_enter Tryz.func60,Tryz.ntmps60
 go_wp2
 go_region_dies
 all_goals
  refine(g.out _ (by repeat (first|(with_reducible exact jcc _ _)|(with_reducible refine boxed ?_ _)|(with_reducible refine jc6 ?_)))).mono ?_;rintro e t ⟨rfl,r⟩;exact⟨rfl,f.out.no (by decide) q.out (qa (by repeat (first|(with_reducible exact jcc _ _)|(with_reducible refine boxed ?_ _)|(with_reducible refine jc6 ?_))) r)⟩
end
end
section
open Go.RowKit
section
variable {cb mb b j cap:Nat} {Gw G:Nat->Prop} {W:WoS} {a:Option Addr} {l:List ByteArray}
theorem q65 (w:World) (h:vk w cb mb b Gw G W j a cap l) {r:List Int} (k:ju 1 l=some r):Ca 60 #[PP cb,.slice a l.length cap] w (jm 14 W l w cb mb G):=by
 have z:Hid (vk w cb mb b Gw G W j a cap l):=h
 obtain⟨v,rfl⟩:∃v,r=[v]:=by
  unfold ju at k;split at k
  ·rename_i q;exact List.length_eq_one_iff.1 ((qbb k).trans q)
  cases k
 have R:Hid (∀w',Bw w w'->Ca 95 #[.slice a l.length cap] w' λe w2=>e=.returned (U v)/\Bw w' w2):=λw' t=>(qi1 h.sm w' (h.gl.later t) (h.st.later t)).mono λe w2 ⟨h1,B⟩=>by
  rcases B with ⟨u,M,he⟩|⟨M,_⟩
  ·have:=M.out;rw[k]at this;injection this with this;injection this with this;rw[this];exact⟨he,h1⟩
  have:=M.out;rw[k]at this;cases this
 obtain⟨a0,a1,a2,a3,c,d,er,i,S,V⟩:=q0p (b:=b) (G:=Gw) v h.di;have X:Hid (∀w',Bw w w'->Ca 114 #[PP b,U v] w' λe w2=>∃v,e=.returned (.tuple #[.agg #[U a0,U a1,U a2,U a3],U c,v,U d,jc er])/\Hid (er=0->jae w' w2 i v)/\Bw w' w2):=λw' t=>V w' (h.ck.later t).pw;have g:Hid (jbx W v a0 a1 a2 a3 c d er i/\ju 1 l=some [v]):=⟨S,k⟩;have Y:=h.ck.cell0;have X0:=λ(w':World) (h:Bw w w')=>cell_later h Y;clear h k V S Y;go_enter Tryz.func60,Tryz.ntmps60
 go_wp2
 go_cut [5,6,7,8,9] (λt5 t6 t7 t8 t9 N=>∃C:Nat,t5=.pointer (PT C)/\t6=U c/\t8=U d/\t9=jc er/\Bw w N/\qo N C a0 a1 a2 a3/\Hid (er=0->∃n p,t7=.slice (PT n) 8 p/\8<=p/\qhm N n (i.map Value.string)))
 case first=>
  go_region_held3 (λw'=>Bw w w') ((repeat (first|(with_reducible assumption)|(with_reducible refine boxed ?_ _)|(with_reducible refine jc6 ?_)|(with_reducible refine jdz ?_ (by first|(simp;done)|(simp;omega)) _)|(with_reducible exact jcc _ _))))
   (first|(go_at_call 95;refine(R.out _ (by with_reducible assumption)).mono ?_;rintro e Z ⟨rfl,s⟩;have hS:Bw w Z:=qa (by with_reducible assumption) s;have hla:=hS.size;obtain⟨hc1,hf1⟩:=qdb s;have hz1:=blt s;have n1:=bne s;have m1:=jbf s)|(go_at_call 114;refine(X.out _ (by with_reducible assumption)).mono ?_;rintro e wb ⟨v7,rfl,hT,D⟩;have hSb:Bw w wb:=qa (by with_reducible assumption) D;have hlb:=hSb.size;have hab:Bw Z wb:=(by first|exact D|exact qa (boxed (jcc _ _) _) D);have h12:=qa s hab;obtain⟨hc2,hf2⟩:=qdb D;obtain⟨hc3,hf3⟩:=qdb h12;have hz2:=blt D;have hz3:=blt h12))
  all_goals
   go_wp2
   go_meet
   case rel=>
        refine⟨_,rfl,rfl,rfl,rfl,by assumption,?_,?_⟩
        ·(repeat (first|(with_reducible refine qo.newest ?_;(first|rfl|(simp;done)))|(with_reducible refine qo.boxed ?_ _)|(with_reducible refine qo.set (a0:=0) (a1:=0) (a2:=0) (a3:=0) ?_)|(with_reducible refine qo.far4 ?_ ?_;rotate_left;(first|(simp;done)|(simp;omega)|omega))));all_goals (constructor<;>go_simp)
        intro m;obtain⟨n,p,e1,e2,e3,e4⟩:=hT.out m;have e5:=e3.lt;have q1:=s.size
        try simp at e4
        try simp at q1
        refine⟨n,p,e1,e2,?_⟩
        repeat (first|(with_reducible exact e3)|(with_reducible refine qhm.boxed ?_ _)|(with_reducible refine qhm.drew ?_)|(with_reducible refine qhm.far ?_ _ _ ?_;rotate_left;(first|(simp;done)|(simp;omega)|omega)))
 obtain⟨C,rfl,rfl,rfl,rfl,O,R5,HT⟩:=hcut;have K:Hid (Bw w wc/\qo wc C a0 a1 a2 a3):=⟨O,R5⟩;have MU:=qda er wc (z.out.gl.later O);clear O R5 X0 R X
 go_wp2_with fail
 refine MU.mono ?_;rintro e E ⟨F,(⟨m,rfl⟩|⟨m,rfl⟩)⟩
 rotate_left
 ·exact⟨rfl,z.out.told (by decide) g.out.2 g.out.1.cmd (qa K.out.1 F) (.inr ⟨m,rfl⟩)⟩
 obtain⟨n,p,rfl,h8,hR⟩:=HT.out m;have L:=qa K.out.1 F;have H:=g.out.1.wf;have Q:=qb1 (b:=C) (o:=0) (cap:=4) (l:=[a0,a1,a2,a3]) (by simp) (by simp) (λx f=>H x (by simp at f ⊢;rcases f with e|e|e|e<;>simp[e])) E (z.out.gl.later L) (K.out.2.later F).lt (qm2 (K.out.2.later F));have BLB:Hid (∀w',Bw E w'->Ca 102 #[.slice (PT w'.heap.size) 2 2] (w'.alloc (.cells #[U c,U d] 3)) λe w2=>e=.returned (.string (bya (qv [c,d])))/\Below (w'.alloc (.cells #[U c,U d] 3)).heap.size (w'.alloc (.cells #[U c,U d] 3)) w2):=λw' B=>qb1 (b:=w'.heap.size) (o:=0) (cap:=2) (l:=[c,d]) (by simp) (by simp) (λx f=>H x (by simp at f ⊢;rcases f with e|e<;>simp[e])) _ (z.out.gl.later (boxed (qa L B) _)) (by simp) (qee (w:=w') (T:=3) [c,d])
 have JN:Hid (∀w',Bw E w'->Ca 42 #[.slice (PT n) 8 p,.string ⟨#[32]⟩] w' λe w2=>e=.returned (.string (bya (Lib.join (i.map (·.data.toList)) [32])))/\Bw w' w2):=λw' B=>by
  have hr:=(hR.later F).later B
  have J:=jd1 n 0 p i ⟨#[32]⟩ w' (λq y I=>by rw[Nat.zero_add];exact hr.cell q _ (by rw[jcv,I];rfl)) hr.lt (by rw[g.out.1.tl];decide) (by rw[g.out.1.tl];exact h8) (by
   have:=qgl 13 (i.map (·.data.toList)) (λy I=>by obtain⟨x,f,rfl⟩:=jcz.1 I;exact g.out.1.ts x f);rw[jdh,g.out.1.tl]at this
   exact jcn this (by decide))
  rw[g.out.1.tl]at J;exact J
 have l1:(qv [a0,a1,a2,a3]).length<=88:=by have:=ze (l:=[a0,a1,a2,a3]) (λx f=>H x (by simp at f ⊢;rcases f with e|e|e|e<;>simp[e]));simpa using this
 have l2:(qv [c,d]).length<=44:=by have:=ze (l:=[c,d]) (λx f=>H x (by simp at f ⊢;rcases f with e|e<;>simp[e]));simpa using this
 have l3:(Lib.join (i.map (·.data.toList)) [32]).length<=112:=by
  have:=qgl 13 (i.map (·.data.toList)) (λy I=>by obtain⟨x,f,rfl⟩:=jcz.1 I;exact g.out.1.ts x f);rw[jdh,g.out.1.tl]at this;exact this
 have A1:=λw=>qfi (P:=Tryz.prog) (bya (qv [a0,a1,a2,a3])) ⟨#[44,32]⟩ (by simp[zo];omega) w;have A2:=λw=>qfi (P:=Tryz.prog) (bya (qv [a0,a1,a2,a3])++⟨#[44,32]⟩) (bya (qv [c,d])) (by simp[zo];omega) w;have A3:=λw=>qfi (P:=Tryz.prog) (bya (qv [a0,a1,a2,a3])++⟨#[44,32]⟩++bya (qv [c,d])) ⟨#[44,32]⟩ (by simp[zo];omega) w;have A4:=λw=>qfi (P:=Tryz.prog) (bya (qv [a0,a1,a2,a3])++⟨#[44,32]⟩++bya (qv [c,d])++⟨#[44,32]⟩) (bya (Lib.join (i.map (·.data.toList)) [32])) (by simp[zo];omega) w;have HF:Hid (∀w',Bw w w'->jm 14 W l w cb mb G (.returned (.string (bya (qv [a0,a1,a2,a3]++[44,32]++qv [c,d]++[44,32]++Lib.join (i.map (·.data.toList)) [32])))) w'):=λw' t=>z.out.told (by decide) g.out.2 g.out.1.cmd t (.inl ⟨m,by rw[if_pos m]⟩);have HX3:Hid (Bw w E):=L
 dsimp only[List.length_cons,List.length_nil,Nat.reduceAdd]at Q
 clear l1 l2 l3 m L H MU g HT hR
 go_wp2_with fail
 refine Q.mono ?_;rintro e w4 ⟨rfl,hb4⟩;have BL2:=BLB.out w4 hb4
 go_wp2_with fail
 refine BL2.mono ?_;rintro e w5 ⟨rfl,hb5⟩;have hb53:Bw E w5:=qa (boxed hb4 _) hb5;have U:=JN.out w5 hb53
 go_wp2_with fail
 refine U.mono ?_;rintro e w6 ⟨rfl,hb6⟩;have HF0:=HF.out w6 (qa (qa HX3.out hb53) hb6)
 rw[show bya (qv [a0,a1,a2,a3]++[44,32]++qv [c,d]++[44,32]++Lib.join (i.map (·.data.toList)) [32])=bya (qv [a0,a1,a2,a3])++⟨#[44,32]⟩++bya (qv [c,d])++⟨#[44,32]⟩++bya (Lib.join (i.map (·.data.toList)) [32]) by
  rw[show (⟨#[44,32]⟩:ByteArray)=bya [44,32]from rfl,jz,jz,jz,jz]]at HF0
 clear BLB JN HF Q BL2 U
 go_wp2
 go_ret;exact HF0
theorem q9k (w:World) (h:vk w cb mb b Gw G W j a cap l):Ca 60 #[PP cb,.slice a l.length cap] w (jm 14 W l w cb mb G):=by
 cases hn:ju 1 l with
 |none=>exact q8r w h hn
 |some r=>exact q65 w h hn
end
end
section
open Go.RowKit
structure jb3 (W:WoS) (k site seq wall count d0 d1 d2 d3 er:Int) (W':WoS) (told:List UInt8):Prop where
 cmd:qaa 5 W [k] ⟨#[]⟩ W' er told
 yes:er=0->told=if seq=0 then [110,111,116,104,105,110,103]else qv [site,seq,wall,count]++[58,32]++qv [d0,d1,d2,d3]
 wf:∀x∈[site,seq,wall,count,d0,d1,d2,d3],wfI x
theorem jaq {t:TxP} (h:okT t=true):∀x∈[t.site,t.seq,t.wall,t.count,t.d0,t.d1,t.d2,t.d3],wfI x:=by
 simp only[okT,jt,jb,qi,jct,jk,decide_eq_true_eq]at h;intro x c;simp only[jdd,List.not_mem_nil,or_false]at c
 rcases c with rfl|rfl|rfl|rfl|rfl|rfl|rfl|rfl<;>exact⟨by omega,by omega⟩
variable {W:WoS}
theorem q61 {k:Nat} (i:DkI W) (g:k<W.c):∀x∈[(wcT W k).site,(wcT W k).seq,(wcT W k).wall,(wcT W k).count,(wcT W k).d0,(wcT W k).d1,(wcT W k).d2,(wcT W k).d3],wfI x:=by
 obtain⟨j,d⟩:=i.pl;by_cases q:0<(wcT W k).seq
 ·exact jaq (d.told g q).1
 have z:wcT W k=⟨0,0,0,0,0,0,0,0,[]⟩:=by
  unfold wcT qce at q ⊢;split at q
  ·rename_i e;rw[if_pos e]
  rename_i e;rw[if_neg e];unfold qha at q ⊢;split at q
  ·rename_i f
   exfalso
   apply q
   have:=qis (ws:=jh (W.ses k).ws) (d.wf.inv _ (d.wf.at_ k g)) f;simp only[okT,jt,jct,jk]at this;have:=this.1.1.1.1.2.1;omega
  rename_i f;rw[if_neg f]
 rw[z];intro x h;simp at h;subst h;exact⟨by decide,by decide⟩
theorem qrx {b:Nat} {G:Nat->Prop} (k:Int) (o:DkI W):∃p r wall s u v y z er W' told,jb3 W k p r wall s u v y z er W' told/\∀w,PW w b G W->Ca 103 #[PP b,U k] w λe w'=>∃C n wc,e=.returned (.tuple #[.agg (List.toArray (T9 p r wall s u v y z C n wc)),jc er])/\vh w b G W' w':=by
 obtain⟨j,A⟩:=o.pl;by_cases d:ye k W.c
 ·obtain⟨i,rfl,hi,e⟩:=zq d
  refine⟨_,_,_,_,_,_,_,_,_,_,_,⟨by
   show qaa 5 W [(i:Int)] ⟨#[]⟩ (wcW W i) (wcE W i) (qgx W i);unfold qaa;simp only;rw[if_pos d]
   exact⟨rfl,rfl,rfl⟩,λ_=>rfl,q61 o hi⟩,λw h=>(q04 w h A.wf hi (λq=>(A.told hi q).1)).mono λe w' ⟨m,f,g,D⟩=>?_⟩
  obtain⟨_,E,p1,p2,p3,_⟩:=D.out;refine⟨m.wa,m.t.ws.length,m.wc,?_,E,p1,p2,p3⟩;rw[f];unfold txV;rw[g]
 refine⟨0,0,0,0,0,0,0,0,2,W,[],⟨by
  show if ye k W.c then _ else _
  rw[if_neg d]
  exact⟨rfl,rfl,rfl⟩,λe=>(by cases e),λx B=>?_⟩,λw h=>(qsr k w h d).mono λe w' ⟨f,g⟩=>⟨none,0,0,f,vh.same h g⟩⟩
 simp at B;subst B;exact⟨by decide,by decide⟩
section
variable {cb mb b j cap:Nat} {Gw G:Nat->Prop} {W:WoS} {a:Option Addr} {l:List ByteArray}
theorem vk.opAt {w o s p:World} {W':WoS} {i:Nat} (h:vk w cb mb b Gw G W j a cap l) (f:Bw w o) (t:vh o b Gw W' s) (B:w.heap.size<=i) (C:i<o.heap.size) (c:qc (λk=>k=i) s p):qbi (ckP cb mb W') w G p/\Gl p:=by
 obtain⟨r,p1,p2,d⟩:=t;have n:=h.ck.later f;have lc:=n.ltc;have u:=n.map.lt;have D:=h.ck.ltc;have E:=h.ck.map.lt
 have v:¬r i:=λe=>by
  rcases p2 i e with q|q
  ·have:=h.ck.pw.lt i q;omega
  omega
 have F:=d.size;refine⟨⟨λk=>k=cb\/k=mb\/r k,⟨b,r,⟨(c.block cb (by omega) (by omega)).trans ((d.block cb lc h.ck.n2).trans n.box),(n.map.kept (d.block mb u h.ck.n3)).kept (c.block mb (by omega) (by omega)),p1.kept (λk e=>c.block k (p1.lt k e) (λx=>v (x▸e))) c.size,h.ck.n1,λe=>?_,λe=>?_⟩,λ_=>jdl⟩,λk m=>?_,?_⟩,?_⟩
 ·rcases p2 cb e with q|q
  ·exact h.ck.n2 q
  omega
 ·rcases p2 mb e with q|q
  ·exact h.ck.n3 q
  omega
 ·rcases m with rfl|rfl|e
  ·exact .inl ((h.g k).2 (.inl rfl))
  ·exact .inl ((h.g k).2 (.inr (.inl rfl)))
  rcases p2 k e with q|q
  ·exact .inl ((h.g k).2 (.inr (.inr q)))
  exact .inr (jcn f.size q)
 ·refine⟨c.os.trans (d.os.trans f.os),c.tape.trans (d.tape.trans f.tape),c.output.trans (d.output.trans f.output),jcn f.size (jcn d.size c.size),λk m y=>?_⟩;have z:=jci m f.size;rw[c.block k (by omega) (by omega),d.block k z (λe=>y ((h.g k).2 (.inr (.inr e)))),f.block k m]
 have A:=h.gl.later f;have H:=h.gl.sz;refine A.kept (λk m=>?_) (jcn d.size c.size);rw[c.block k (by omega) (by omega),d.block k (by omega) (λe=>h.gn k m ((h.g k).2 (.inr (.inr e))))]
theorem q2v (w:World) (h:vk w cb mb b Gw G W j a cap l) (c:ju 1 l=none):Ca 51 #[PP cb,.slice a l.length cap] w (jm 5 W l w cb mb G):=by
 have f:=hd1 h
 have g:Hid (∀w',Bw w w'->Ca 95 #[.slice a l.length cap] w' λe w2=>e=qc7 3/\Bw w' w2):=λw' d=>(qi1 h.sm w' (h.gl.later d) (h.st.later d)).mono λe w2 ⟨i,k⟩=>by
  rcases k with ⟨v,m,_⟩|⟨_,n⟩
  ·rw[m.out]at c;cases c
  exact⟨n,i⟩
 have p:=h.ck.cell0;have q:=hd1 c;have s:=λo=>cell_later (boxed (jcc _ w) o) p;clear h c;go_enter Tryz.func51,Tryz.ntmps51
 go_wp2
 go_region_dies
 all_goals
  refine(g.out _ (by repeat (first|(with_reducible exact jcc _ _)|(with_reducible refine boxed ?_ _)|(with_reducible refine jc6 ?_)))).mono ?_;rintro e t ⟨rfl,r⟩;exact⟨rfl,f.out.no (by decide) q.out (qa (by repeat (first|(with_reducible exact jcc _ _)|(with_reducible refine boxed ?_ _)|(with_reducible refine jc6 ?_))) r)⟩
end
end
section
theorem q7d {a b c d:Int} (h:∀x∈[a,b,c,d],wfI x):(qv [a,b,c,d]).length<=88:=by have:=ze h;simpa using this
variable {W W':WoS} {t:List UInt8}
theorem qaa.len {i:Nat} {l:List Int} {d:ByteArray} {er:Int} (g:DkI W) (h:qaa i W l d W' er t) (v:er=0):t.length<=400:=by
 have n:=h;unfold qaa at h;split at h
 case h_5 k=>
  obtain⟨at_,p0,p1,p2,p3,s0,s1,s2,s3,I,e,C,_⟩:=qq2 (b:=0) (G:=λ_=>False) k g;rw[(qaa.det (n.data (d':=⟨#[]⟩) (by decide)) C.cmd).2.2];split
  ·have l1:(qv [at_]).length<=22:=by have:=ze (l:=[at_]) (λx f=>C.wf x (by simp at f;simp[f]));simpa using this
   have p:=q7d (a:=p0) (b:=p1) (c:=p2) (d:=p3) (λx f=>C.wf x (by simp at f ⊢;rcases f with e|e|e|e<;>simp[e]));have o:=q7d (a:=s0) (b:=s1) (c:=s2) (d:=s3) (λx f=>C.wf x (by simp at f ⊢;rcases f with e|e|e|e<;>simp[e]))
   split<;>simp only[jcl,List.length_cons,List.length_nil]<;>omega
  simp
 case h_6 k=>
  obtain⟨a,b,c,d,w,z,A,B,e,J,told,C,_⟩:=qrx (b:=0) (G:=λ_=>False) k g;obtain⟨_,D,E⟩:=qaa.det (n.data (d':=⟨#[]⟩) (by decide)) C.cmd;rw[E,C.yes (D▸v)];have p:=q7d (a:=a) (b:=b) (c:=c) (d:=d) (λx f=>C.wf x (by simp at f ⊢;rcases f with e|e|e|e<;>simp[e]));have o:=q7d (a:=w) (b:=z) (c:=A) (d:=B) (λx f=>C.wf x (by simp at f ⊢;rcases f with e|e|e|e<;>simp[e]));split
  ·decide
  simp only[jcl,List.length_cons,List.length_nil];omega
 case h_12=>
  obtain⟨j,m⟩:=g.pl;have:=m.wf.net;rw[h.1]
  have l1:=ze (l:=[(W.net.length:Int),W.lost]) (λx f=>by
   simp at f;rcases f with rfl|rfl
   ·exact⟨by omega,by omega⟩
   exact g.lost)
  simp at l1;omega
 case h_14 k key=>
  have h:=h.2;split at h
  ·rename_i q;obtain⟨i,rfl,hi,e⟩:=zq q;obtain⟨j,m⟩:=g.pl;have:=qjc (S:=W.S (W.at_ i)) (s:=W.ses i) (key:=key) (g.ses i hi) (m.wf.inv _ (m.wf.at_ i hi));rw[h.1,e];rw[Lib.size_eq]at this;simp only[jcl,List.length_cons,List.length_nil];omega
  rw[h.1];simp
 case h_15 k=>
  obtain⟨a0,a1,a2,a3,r,u,e,F,C,_⟩:=q0p (b:=0) (G:=λ_=>False) k g;rw[(qaa.det (n.data (d':=⟨#[]⟩) (by decide)) C.cmd).2.2];split
  ·have p:=q7d (a:=a0) (b:=a1) (c:=a2) (d:=a3) (λx f=>C.wf x (by simp at f ⊢;rcases f with e|e|e|e<;>simp[e]))
   have l1:(qv [r,u]).length<=44:=by have:=ze (l:=[r,u]) (λx f=>C.wf x (by simp at f ⊢;rcases f with e|e<;>simp[e]));simpa using this
   have o:=qgl 13 (F.map (·.data.toList)) (λy H=>by obtain⟨x,f,rfl⟩:=jcz.1 H;exact C.ts x f);rw[jdh,C.tl]at o;simp only[jcl,List.length_cons,List.length_nil];omega
  simp
 case h_20=>exact h.elim
 all_goals (rw[h.1];decide)
theorem qas.len {c:ByteArray} (d:DkI W) (h:qas W c W' t):t.length<=400:=by
 have er:∀n:Int,Few n->(qgt n).length<=400:=λn b=>by
  have:=Lib.itoa_length_le n b.wf.1 b.wf.2;unfold qgt;simp only[jcl,List.length_cons,List.length_nil];omega
 unfold qas at h;split at h
 ·rw[h.2];decide
 split at h
 ·rw[h.2];exact er 3 jaf
 obtain⟨e,u,a,rfl⟩:=h;split
 ·rename_i f;unfold qc2 at a;split at a
  ·rw[a.2.2];simp
  exact a.len d f
 exact er e a.few
theorem qas.keeps {b:ByteArray} (a:DkI W) (h:qas W b W' t):DkI W':=by
 unfold qas at h;split at h
 ·rw[h.1];exact a
 split at h
 ·rw[h.1];exact a
 obtain⟨e,u,c,_⟩:=h;exact a.does c
end
theorem qd8.len {W A:WoS} {l:List ByteArray} {s:List UInt8} (b:DkI W) (h:qd8 W l s A):s.length<=401*l.length/\DkI A:=by
 induction h with
 |nil=>exact⟨by simp,b⟩
 |snoc h1 h2 ih=>
  obtain⟨c,a⟩:=ih;have:=h2.len a;refine⟨?_,h2.keeps a⟩;simp only[jcl,List.length_cons,List.length_nil];omega
theorem qvc (s:List UInt8):(qao s).length<=s.length+1/\∀x∈qao s,x.length<=s.length:=by
 induction s with
 |nil=>simp[qao]
 |cons c r ih=>
  rw[qg4];by_cases e:c=10
  ·rw[if_pos e];refine⟨by simp only[List.length_cons];have:=ih.1;omega,λx a=>?_⟩;rcases jdd.1 a with rfl|q
   ·simp
   have:=ih.2 x q;simp only[List.length_cons];omega
  rw[if_neg e];cases h:qao r with
  |nil=>exact absurd h (qrs r)
  |cons y z=>
   rw[h]at ih;refine⟨by have:=ih.1;simp only[List.length_cons]at this ⊢;omega,λx a=>?_⟩;rcases jdd.1 a with rfl|q
   ·have:=ih.2 y (by simp);simp only[List.length_cons];omega
   have:=ih.2 x (by simp[q]);simp only[List.length_cons];omega
theorem q4v (s:List UInt8):(Lib.trimSuffix s [10]).length<=s.length:=by
 unfold Lib.trimSuffix;split
 ·simp
 exact jcd _
theorem qu7 (s:List UInt8):(qfq s).length<=s.length+1/\∀x∈qfq s,x.length<=s.length:=by
 have h:=qvc (Lib.trimSuffix s [10]);have:=q4v s;exact⟨by have:=h.1;unfold qfq;omega,λx a=>jcn (h.2 x a) this⟩
open Go.RowKit
theorem qti (s:ByteArray) (c:20000<s.size) (h:s.size<=1000000) (w:World) (g:Gl w):
 Ca 5 #[.string s] w (Rn (.string (bya [101,114,114,111,114,32,52,10])) w):=by
 have a:=qq7 4 ⟨by decide,by decide⟩ w g
 have i:20000<(s.size:Int):=by omega
 have b:qgt 4=[101,114,114,111,114,32,52]:=by unfold qgt;simp[Lib.itoa,Lib.decDigits]
 rw[b]at a;have j:=λw=>qfi (P:=Tryz.prog) (bya [101,114,114,111,114,32,52]) ⟨#[10]⟩ (by decide) w
 have d:Hid (bya [101,114,114,111,114,32,52]++⟨#[10]⟩=bya [101,114,114,111,114,32,52,10]):=by
  show _=_;rw[show (⟨#[10]⟩:ByteArray)=bya [10]from rfl,jz];rfl
 clear c b g;go_enter Tryz.func5,Tryz.ntmps5
 go_wp2_with fail
 refine a.mono ?_;rintro e k ⟨rfl,f⟩
 go_wp2
 rw[d.out];go_ret;exact⟨rfl,f⟩
end Go.Proofs.YtoanjdndmlffdaaGreatDoor
