import Derived.Test.YtbfkeoagmajcpaaGreatDoorSiteK
set_option maxHeartbeats 8000000
set_option maxRecDepth 100000
set_option linter.defProp false
namespace Go.Proofs.YtbfkeoagmajcpaaGreatDoor
open _root_.Go.Proofs.Tryz Go.RowKit
variable {A M N b cb j mb:Nat} {G Gw O:Np} {W:WoS} {a:Oa} {l:List By}
section
def q8p (w:Wl) (h:vk w A N b O G W j a M l):Ca 59 #[PP A,.slice a l.length M] w (jm 7 W l w A N G):=by
 have c:=hd1 h;have r:=qls h.sm w h.gl h.st;clear h;go_enter func59,ntmps59;go_wp2_with fail
 refine r.mono ?_;rintro e s ⟨d,(⟨u,v,k,rfl⟩|⟨k,rfl⟩)⟩
 .have t:=(c.out.ck.later d).cell0;have o:=q9z u v s (c.out.ck.later d).pw;go_wp2_with fail
  refine o.mono ?_;rintro e z ⟨C,B,p,rfl,m⟩;have q:=qda B z (c.out.gl2 d m);have n:Hid (∀e f,Bw z f->qlx B (qn 7) e->jm 7 W l w A N G e f):=λe f g x=>c.out.yes oj k.out d (p.data oj) m g x;clear p m t o
  go_wp2_with fail
  refine q.mono ?_;rintro e f ⟨g,(⟨i,rfl⟩|⟨i,rfl⟩)⟩
  .have y:=n.out _ _ g (.inl ⟨i,rfl⟩);clear i n q;go_wp2;go_ret;exact y
  exact⟨rfl,n.out _ _ g (.inr ⟨i,rfl⟩)⟩
 exact⟨rfl,c.out.no oj k.out d⟩
def q8k (w:Wl) (h:vk w A N b O G W j a M l):Ca 55 #[PP A,.slice a l.length M] w (jm 3 W l w A N G):=by
 have c:=hd1 h;have m:=qpc h.sm w h.gl h.st;clear h;go_enter func55,ntmps55;go_wp2_with fail
 refine m.mono ?_;rintro e n ⟨d,(⟨f,rfl⟩|⟨f,rfl⟩)⟩
 .have o:=(c.out.ck.later d).cell0;have g:=q71 n (c.out.ck.later d).pw c.out.wi.wf;go_wp2_with fail
  refine g.mono ?_;rintro e q ⟨rfl,r,i,k⟩;have p:jm 3 W l w A N G (.returned (.string (bya (qn 3)))) q:=c.out.yes (ns:=[]) oj f.out d ⟨rfl,i.out.1,rfl⟩ k (jcc _ _) (.inl ⟨rfl,rfl⟩);clear i k o g;go_wp2;go_ret;exact p
 exact⟨rfl,c.out.no oj f.out d⟩
end
def qz4 (A:Nat) (mv:Vl) (n c:Int) (w:Wl) (e:Ending) (w':Wl):Prop:=
 (((1<=n/\n<=4)/\(0<=c/\c<=6))/\e=.returned (.tuple #[])/\∃b' G',w'.heap[A]?=some (.cells #[PP b',mv] 82 (0,0))/\PW w' b' G' (qcb n.toNat c.toNat)/\(∀k,G' k->w.heap.size<=k)/\qc (λk=>k=A) w w')
 \/(¬((1<=n/\n<=4)/\(0<=c/\c<=6))/\e=qc7 2/\Bw w w')
def qkq {A:Nat} {p v:Vl} (n c:Int) (w:Wl) (s:w.heap[A]?=some (.cells #[p,v] 82 (0,0))) (g:Gl w):
 Ca 39 #[PP A,U n,U c] w (qz4 A v n c w):=by
 have B:=(jcs.1 s).1;by_cases h:(1<=n/\n<=4)/\(0<=c/\c<=6)
 .obtain⟨i,rfl⟩:∃i:Nat,n=i:=⟨n.toNat,oe⟩;obtain⟨k,rfl⟩:∃k:Nat,c=k:=⟨c.toNat,oe⟩;have t:=jbc (n:=i) (c:=k) oe oe oe w;have f:=hd3 h s g;clear h s g;go_enter func39,ntmps39;go_wp2_with fail
  refine t.mono ?_;rintro e x ⟨rfl,E,C,y,d⟩;have D:=(d.block A B).trans f.out.2.1;have m:=qda 0 x (f.out.2.2.later d);rw[show jc 0=Value.nilIface from rfl]at m;go_wp2_with fail
  refine m.mono ?_;rintro e R ⟨o,(⟨_,rfl⟩|⟨z,_⟩)⟩
  .have u:=(o.block A (jci B d.size)).trans D;have K:R.cell? (AD A 0)=some p:=by rw[Lib.cell_of_heap u];rfl
   have L:=Lib.frozen_of_heap u 0
   have F:Hid (qz4 A v i k w (.returned (.tuple #[])) (R.setCell (AD A 0) (PP w.heap.size))):=by
        have r:=qa d o;refine .inl ⟨f.out.1,rfl,w.heap.size,E,by simp[World.setCell,Array.getElem?_modify,u],?_,y,r.os,r.tape,r.output,by simp[World.setCell];exact r.size,λq H I=>(jce _ _ _ _ I).trans (r.block q H)⟩;rw[Int.toNat_natCast,Int.toNat_natCast];exact(C.later o).kept (λq e=>jce _ _ _ _ (λJ=>by have:=y q e;have:q=A:=J;omega)) oF
   clear u o D d C y m t;go_wp2;go_end0;exact F.out
  exact absurd rfl z
 have t:=q2a h w;have f:=hd2 h g;clear h s g;go_enter func39,ntmps39;go_wp2_with fail
 refine t.mono ?_;rintro e x ⟨rfl,d⟩;have m:=qda 2 x (f.out.2.later d);generalize jc 2=ev at m;go_wp2_with fail
 refine m.mono ?_;rintro e R ⟨o,(⟨z,_⟩|⟨_,rfl⟩)⟩
 .exact absurd z oj
 exact⟨rfl,.inr ⟨f.out.1,rfl,qa d o⟩⟩
section
def q4x (w:Wl) (h:vk w A N b O G W j a M l):Ca 69 #[PP A,.slice a l.length M] w (jm 17 W l w A N G):=by
 have c:=hd1 h;have x:=qls h.sm w h.gl h.st;clear h;go_enter func69,ntmps69;go_wp2_with fail
 refine x.mono ?_;rintro e y ⟨d,(⟨u,v,m,rfl⟩|⟨m,rfl⟩)⟩
 .have q:=qkq u v y (c.out.ck.later d).box (c.out.gl.later d);go_wp2_with fail
  refine q.mono ?_;rintro e F (⟨o,rfl,z,r,s,t,n,f⟩|⟨o,rfl,B⟩)
  .have C:jm 17 W l w A N G (.returned (.string (bya (qn 17)))) F:=by
        have i:=c.out.ck.later d;have lc:=i.ltc;have D:=i.map.lt;refine⟨qcb u.toNat v.toNat,0,qn 17,by unfold qc2;rw[if_neg oj,show ju (qqi 17) l=some [u,v]from m.out];exact⟨rfl,by rw[if_pos o];exact⟨rfl,rfl⟩⟩,.inl ⟨rfl,rfl⟩,λk=>k=A\/k=N\/r k,⟨z,r,⟨s,i.map.kept (f.block N D (λe=>i.n1 e.symm)),t,i.n1,λe=>by have:=n A e;omega,λe=>by have:=n N e;omega⟩,λ_=>jdl⟩,λk p=>?_,(qc.ofBelow d).trans ⟨f.os,f.tape,f.output,f.size,λk p E=>f.block k p (λe=>E ((c.out.g k).2 (.inl e)))⟩⟩;obtain rfl|rfl|e:=p
        .exact .inl ((c.out.g k).2 (.inl rfl))
        .exact .inl ((c.out.g k).2 (.inr (.inl rfl)))
        exact .inr (jcn d.size (n k e))
   clear s t n f q;go_wp2;go_ret;exact C
  exact⟨rfl,c.out.yes (W':=W) (er:=2) (told:=qn 17) oj m.out d ⟨rfl,by rw[if_neg o];exact⟨rfl,rfl⟩⟩ (vh.same (c.out.ck.later d).pw (jcc _ _)) B (.inr ⟨oj,rfl⟩)⟩
 exact⟨rfl,c.out.no oj m.out d⟩
end
section
variable {Z:Nat}
def qu0 {w w':Wl} (h:vk w Z mb b Gw G W j a A l) (c:(if l.length=3 then ju 2 (l.take 2)else none)=none) (d:Bw w w'):jm 18 W l w Z mb G (qc7 3) w':=
 ⟨W,3,[],by unfold qc2;rw[if_pos rfl,c];exact⟨rfl,rfl,rfl⟩,.inr ⟨oj,rfl⟩,h.ck.same h.g d⟩
def qvr {r:List By} (h:r.length=3):∃x y z,r=[x,y,z]:=by
 match r,h with
 |[x,y,z],_=>exact⟨x,y,z,rfl⟩
def q6z (w:Wl) (h:vk w Z mb b Gw G W j a A l):Ca 70 #[PP Z,.slice a l.length A] w (jm 18 W l w Z mb G):=by
 by_cases m:l.length=3
 .obtain⟨x,y,z,rfl⟩:=qvr m;clear m;have d:=hd1 h;obtain⟨B,C,rfl,P,Q⟩:=h.st.cell 2 z rfl;have X:3<=A:=h.st.cap;have H:qfj w (some (AD B C)) A [x,y]:=⟨by have:=h.st.cap;simp at this ⊢;omega,λq s f=>h.st.cell q s (by
   match q,f with
   |0,f=>exact f
   |1,f=>exact f)⟩
  have I:=qls (l:=[x,y]) (λs J=>h.sm s (by simp at J ⊢;obtain rfl|rfl:=J<;>simp)) w h.gl H;clear h H;dsimp only[List.length_cons,List.length_nil,Nat.reduceAdd]at I ⊢;go_enter func70,ntmps70;go_wp2_with fail
  refine I.mono ?_;rintro e n ⟨k,(⟨u,v,D,rfl⟩|⟨D,rfl⟩)⟩;rotate_left
  .exact⟨rfl,qu0 d.out (by rw[if_pos (show [x,y,z].length=3 from rfl)];exact D.out) k⟩
  have R:n.drew.cell? (AD Z 0)=some (PP b):=(d.out.ck.later k).cell0;have S:n.drew.cell? (AD B (C+2))=some (.string z):=(k.cell (p:=AD B (C+2)) P).trans Q;have L:=q48 u v z n.drew ((d.out.ck.later k).pw.later (jcc _ n).drew);have M:=k.drew;go_wp2;refine wp_region_any oh ?_;change wpAny _ _ _ _ _ _ _ (World.drew _);refine Wf 0 ?_;go_simp;refine Wf 1 ?_;go_simp;refine Wf 2 ?_;go_simp;refine Wf 4 ?_;go_simp;refine Wf 5 ?_;go_simp;refine Wf 6 ?_;go_simp;refine Wf 7 ?_;go_simp;refine wpAny_ready (rs:=[3,8]) oh oi ?_;refine AllReady.cons rfl (λK c=>?_) (AllReady.cons rfl (λK c=>?_) AllReady.nil);go_simp;refine c _ _ ?_;clear c K;refine wpAny_ready (rs:=[8]) oh oi ?_;refine AllReady.cons rfl (λK c=>?_) AllReady.nil;go_simp;refine c _ _ ?_;clear c K;refine Wf 9 ?_;go_simp;rotate_left;go_simp;refine c _ _ ?_;clear c K;refine Wf 9 ?_;go_simp;refine wpAny_ready (rs:=[3]) oh oi ?_;refine AllReady.cons rfl (λK c=>?_) AllReady.nil;go_simp;refine c _ _ ?_;clear c K;all_goals
   refine wpAny_ready (rs:=[10]) oh oi ?_;refine AllReady.cons rfl (λK c=>?_) AllReady.nil;rw[if_pos (by rfl)];refine qbu 90 #[PP b,U u,.agg #[U v,.string z,.bool false]] o9 L ?_;rintro e w2 ⟨W',er,N,rfl,E⟩;have O:=qda er w2 (d.out.gl2 M E);have F:Hid (∀e o,Bw w2 o->qlx er (qn 18) e->jm 18 W [x,y,z] w Z mb G e o):=λe o r T=>⟨W',er,qn 18,by unfold qc2;rw[if_pos rfl,if_pos (show [x,y,z].length=3 from rfl),show ju 2 (List.take 2 [x,y,z])=some [u,v]from D.out];exact N,T,qe3.after (d.out.ck.op d.out.g M E) r⟩;clear N E R S L;refine .inl ⟨_,rfl,?_⟩
   go_simp;refine c _ _ ?_;clear c K;refine wpAny_ready (rs:=[11]) oh oi ?_;refine AllReady.cons rfl (λK c=>?_) AllReady.nil;rw[if_pos (by rfl)];refine qbu 72 #[jc er] o9 O ?_;rintro e o ⟨r,(⟨t,rfl⟩|⟨t,rfl⟩)⟩;rotate_left
   .exact .inr ⟨_,rfl,rfl,F.out _ _ r (.inr ⟨t,rfl⟩)⟩
   have V:=F.out _ _ r (.inl ⟨t,rfl⟩);clear t F O;refine .inl ⟨_,rfl,?_⟩;go_simp;refine c _ _ ?_;clear c K;refine wpAny_done oh ?_ _;go_wp2;go_ret;exact V
 have d:=hd2 h (show l.length≠3 from m);have Y:¬(l.length:Int)=3:=oe;clear h m;go_enter func70,ntmps70;go_wp2;exact⟨rfl,qu0 d.out.1 (by rw[if_neg d.out.2]) (jcc _ _)⟩
end
section
def qys (w:Wl) (h:vk w cb mb b Gw G W j a A l) {r:List Int} (f:ju 1 l=some r):Ca 56 #[PP cb,.slice a l.length A] w (jm 4 W l w cb mb G):=by
 have m:Hid (vk w cb mb b Gw G W j a A l):=h;obtain⟨v,rfl⟩:∃v,r=[v]:=by
  unfold ju at f;split at f
  .rename_i q;exact List.length_eq_one_iff.1 ((qbb f).trans q)
  cases f
 have X:Hid (∀w',Bw w w'->Ca 80 #[.slice a l.length A] w' λe w2=>e=.returned (U v)/\Bw w' w2):=λw' n=>(qi1 h.sm w' (h.gl.later n) (h.st.later n)).mono λe w2 ⟨D,g⟩=>by
  obtain⟨u,J,he⟩|⟨J,_⟩:=g
  .have:=J.out;rw[f]at this;injection this with this;injection this with this;rw[this];exact⟨he,D⟩
  have:=J.out;rw[f]at this;cases this
 obtain⟨at_,p0,p1,p2,p3,s0,s1,s2,s3,E,er,Y,Z⟩:=qq2 (b:=b) (G:=Gw) v h.di;have OP:Hid (∀w',Bw w w'->Ca 86 #[PP b,U v] w' λe w2=>e=.returned (.tuple #[U at_,.agg #[U p0,U p1,U p2,U p3],.agg #[U s0,U s1,U s2,U s3],.bool E,jc er])/\Bw w' w2):=λw' n=>Z w' (h.ck.later n).pw;have p:Hid (jan W v at_ p0 p1 p2 p3 s0 s1 s2 s3 E er/\ju 1 l=some [v]):=⟨Y,f⟩;have c0:=h.ck.cell0;have X0:=λ(w':Wl) (h:Bw w w')=>cell_later h c0;clear h f Z Y c0;go_enter func56,ntmps56
 go_wp2;go_cut [5,6,7,8,9] (λt5 t6 t7 t8 t9 K=>∃s t:Nat,t5=U at_/\t6=.pointer (PT s)/\t7=.pointer (PT t)/\t8=.bool E/\t9=jc er/\Bw w K/\qo K s p0 p1 p2 p3/\qo K t s0 s1 s2 s3)
 case first=>
  go_region_held3 (λw'=>Bw w w') ((repeat (first|(with_reducible assumption)|(with_reducible refine boxed ?_ _)|(with_reducible refine jc6 ?_)|(with_reducible refine jdz ?_ (by first|(simp;done)|(simp;omega)) _)|(with_reducible exact jcc _ _))))
   (first|(go_at_call 80;refine(X.out _ oG).mono ?_;rintro e wa ⟨rfl,y⟩;have hS:Bw w wa:=qa oG y;have hla:=hS.size;obtain⟨hc1,hf1⟩:=qdb y;have hz1:=blt y;have n1:=bne y;have m1:=jbf y)|(go_at_call 86;refine(OP.out _ oG).mono ?_;rintro e wb ⟨rfl,z⟩;have hSb:Bw w wb:=qa oG z;have hlb:=hSb.size;have hab:Bw wa wb:=(by first|exact z|exact qa (boxed (jcc _ _) _) z|exact qa (boxed (boxed (jcc _ _) _) _) z);have h12:=qa y hab;obtain⟨hc2,hf2⟩:=qdb z;obtain⟨hc3,hf3⟩:=qdb h12;have hz2:=blt z;have hz3:=blt h12))
  all_goals
   go_wp2;go_meet
   case rel=>
        refine⟨_,_,rfl,rfl,rfl,rfl,rfl,mj,?_,?_⟩
        ·(repeat (first|(with_reducible refine qo.newest ?_;(first|rfl|(simp;done)))|(with_reducible refine qo.boxed ?_ _)|(with_reducible refine qo.set (a0:=0) (a1:=0) (a2:=0) (a3:=0) ?_)|(with_reducible refine qo.far4 ?_ ?_;rotate_left;(first|(simp;done)|(simp;omega)|omega))));all_goals (constructor<;>go_simp)
        (repeat (first|(with_reducible refine qo.newest ?_;(first|rfl|(simp;done)))|(with_reducible refine qo.boxed ?_ _)|(with_reducible refine qo.set (a0:=0) (a1:=0) (a2:=0) (a3:=0) ?_)|(with_reducible refine qo.far4 ?_ ?_;rotate_left;(first|(simp;done)|(simp;omega)|omega))));all_goals (constructor<;>go_simp)
 obtain⟨s,t,rfl,rfl,rfl,rfl,rfl,L,R6,R7⟩:=hcut;have B:Hid (Bw w wc/\qo wc s p0 p1 p2 p3/\qo wc t s0 s1 s2 s3):=⟨L,R6,R7⟩;have MU:=qda er wc (m.out.gl.later L);clear L R6 R7 X0 X OP;go_wp2_with fail
 refine MU.mono ?_;rintro e d ⟨C,(⟨F,rfl⟩|⟨F,rfl⟩)⟩;rotate_left
 .exact⟨rfl,m.out.told oj p.out.2 p.out.1.cmd (qa B.out.1 C) (.inr ⟨F,rfl⟩)⟩
 have M:=qa B.out.1 C;have i:=p.out.1.wf;have N:Bw w ((d.alloc (.cells #[U at_] 3)).drew):=(boxed M _).drew;have O:=qb1 (b:=d.heap.size) (o:=0) (cap:=1) (l:=[at_]) oi oi (λx c=>i x (by simp at c;simp[c])) ((d.alloc (.cells #[U at_] 3)).drew) (m.out.gl.later N) oi (qee (w:=d) (T:=3) [at_]);dsimp only[List.length_cons,List.length_nil,Nat.reduceAdd]at O;have Q:Hid (∀w',Bw w w'->Bw d w'->Ca 87 #[.slice (PT s) 4 4] w' λe w2=>e=.returned (.string (bya (qv [p0,p1,p2,p3])))/\Bw w' w2):=λw' D g=>qb1 (b:=s) (o:=0) (cap:=4) (l:=[p0,p1,p2,p3]) oi oi (λx c=>i x (by simp at c ⊢;obtain e|e|e|e:=c<;>simp[e])) w' (m.out.gl.later D) (jci (B.out.2.1.later C).lt g.size) (qm2 ((B.out.2.1.later C).later g));have R:Hid (∀w',Bw w w'->Bw d w'->Ca 87 #[.slice (PT t) 4 4] w' λe w2=>e=.returned (.string (bya (qv [s0,s1,s2,s3])))/\Bw w' w2):=λw' D g=>qb1 (b:=t) (o:=0) (cap:=4) (l:=[s0,s1,s2,s3]) oi oi (λx c=>i x (by simp at c ⊢;obtain e|e|e|e:=c<;>simp[e])) w' (m.out.gl.later D) (jci (B.out.2.2.later C).lt g.size) (qm2 ((B.out.2.2.later C).later g))
 have l1:(qv [at_]).length<=22:=by have:=ze (l:=[at_]) (λx c=>i x (by simp at c;simp[c]));simpa using this
 have l2:(qv [p0,p1,p2,p3]).length<=88:=by have:=ze (l:=[p0,p1,p2,p3]) (λx c=>i x (by simp at c ⊢;obtain e|e|e|e:=c<;>simp[e]));simpa using this
 have l3:(qv [s0,s1,s2,s3]).length<=88:=by have:=ze (l:=[s0,s1,s2,s3]) (λx c=>i x (by simp at c ⊢;obtain e|e|e|e:=c<;>simp[e]));simpa using this
 have A1:=λw=>qfi (P:=prog) (bya (qv [at_])) ⟨#[44,32]⟩ mh w;have A2:=λw=>qfi (P:=prog) (bya (qv [at_])++⟨#[44,32]⟩) (bya (qv [p0,p1,p2,p3])) mh w;have A3:=λw=>qfi (P:=prog) ⟨#[44,32]⟩ (bya (qv [s0,s1,s2,s3])) mh w;have A4:=λw=>qfi (P:=prog) (bya (qv [at_])++⟨#[44,32]⟩++bya (qv [p0,p1,p2,p3])) (⟨#[44,32]⟩++bya (qv [s0,s1,s2,s3])) mh w;clear l1 l2 l3;have H:Hid (∀w',Bw w w'->jm 4 W l w cb mb G (.returned (.string (bya (qv [at_]++[44,32]++qv [p0,p1,p2,p3]++if E=true then [44,32]++qv [s0,s1,s2,s3]else [])))) w'):=λw' n=>m.out.told oj p.out.2 p.out.1.cmd n (.inl ⟨F,by rw[if_pos F]⟩);have HX3:Hid (Bw w d):=M;clear F M i MU p;have hw3:Bw d ((d.alloc (.cells #[U at_] 3)).drew):=(boxed (jcc _ d) _).drew
 go_wp2;go_region_with (first|(go_at_call 87;(with_reducible refine O.mono ?_);rintro e S ⟨rfl,hb4⟩;have hb4w:Bw w S:=qa N hb4;have hb43:Bw d S:=qa hw3 hb4;have BL2:=Q.out S hb4w hb43)|(go_at_call 87;(with_reducible refine BL2.mono ?_);rintro e I ⟨rfl,hb5⟩;have V:Bw w I:=qa hb4w hb5;have hb53:Bw d I:=qa hb43 hb5))
 all_goals
  clear O BL2 N hw3;cases E
  .have k:=H.out I V;rw[if_neg oi]at k
   rw[show bya (qv [at_]++[44,32]++qv [p0,p1,p2,p3]++[])=bya (qv [at_])++⟨#[44,32]⟩++bya (qv [p0,p1,p2,p3]) by
        rw[show (⟨#[44,32]⟩:By)=bya [44,32]from rfl,jz,jz];simp]at k
   clear Q R H A1 A2 A3 A4;go_wp2;go_ret;exact k
  have BL3:=R.out I V hb53;go_wp2_with fail
  refine BL3.mono ?_;rintro e w6 ⟨rfl,hb6⟩;have k:=H.out w6 (qa V hb6);rw[if_pos mq]at k;rw[show bya (qv [at_]++[44,32]++qv [p0,p1,p2,p3]++([44,32]++qv [s0,s1,s2,s3]))=bya (qv [at_])++⟨#[44,32]⟩++bya (qv [p0,p1,p2,p3])++(⟨#[44,32]⟩++bya (qv [s0,s1,s2,s3])) by
   rw[show (⟨#[44,32]⟩:By)=bya [44,32]from rfl,jz,jz,jz,jz]]at k
  clear Q R H BL3;go_wp2;go_ret;exact k
def q3r (w:Wl) (h:vk w cb mb b Gw G W j a A l):Ca 56 #[PP cb,.slice a l.length A] w (jm 4 W l w cb mb G):=by
 cases hn:ju 1 l with
 |none=>exact q23 w h hn
 |some r=>exact qys w h hn
end
section
def q65 (w:Wl) (h:vk w cb mb b Gw G W j a A l) {r:List Int} (k:ju 1 l=some r):Ca 66 #[PP cb,.slice a l.length A] w (jm 14 W l w cb mb G):=by
 have z:Hid (vk w cb mb b Gw G W j a A l):=h;obtain⟨v,rfl⟩:∃v,r=[v]:=by
  unfold ju at k;split at k
  .rename_i q;exact List.length_eq_one_iff.1 ((qbb k).trans q)
  cases k
 have R:Hid (∀w',Bw w w'->Ca 80 #[.slice a l.length A] w' λe w2=>e=.returned (U v)/\Bw w' w2):=λw' t=>(qi1 h.sm w' (h.gl.later t) (h.st.later t)).mono λe w2 ⟨h1,B⟩=>by
  obtain⟨u,M,he⟩|⟨M,_⟩:=B
  .have:=M.out;rw[k]at this;injection this with this;injection this with this;rw[this];exact⟨he,h1⟩
  have:=M.out;rw[k]at this;cases this
 obtain⟨a0,a1,a2,a3,c,d,er,i,S,V⟩:=q0p (b:=b) (G:=Gw) v h.di;have X:Hid (∀w',Bw w w'->Ca 100 #[PP b,U v] w' λe w2=>∃v,e=.returned (.tuple #[.agg #[U a0,U a1,U a2,U a3],U c,v,U d,jc er])/\Hid (er=0->jae w' w2 i v)/\Bw w' w2):=λw' t=>V w' (h.ck.later t).pw;have g:Hid (jbx W v a0 a1 a2 a3 c d er i/\ju 1 l=some [v]):=⟨S,k⟩;have Y:=h.ck.cell0;have X0:=λ(w':Wl) (h:Bw w w')=>cell_later h Y;clear h k V S Y;go_enter func66,ntmps66
 go_wp2;go_cut [5,6,7,8,9] (λt5 t6 t7 t8 t9 N=>∃C:Nat,t5=.pointer (PT C)/\t6=U c/\t8=U d/\t9=jc er/\Bw w N/\qo N C a0 a1 a2 a3/\Hid (er=0->∃n p,t7=.slice (PT n) 8 p/\8<=p/\qhm N n (i.map Value.string)))
 case first=>
  go_region_held3 (λw'=>Bw w w') ((repeat (first|(with_reducible assumption)|(with_reducible refine boxed ?_ _)|(with_reducible refine jc6 ?_)|(with_reducible refine jdz ?_ (by first|(simp;done)|(simp;omega)) _)|(with_reducible exact jcc _ _))))
   (first|(go_at_call 80;refine(R.out _ oG).mono ?_;rintro e Z ⟨rfl,s⟩;have hS:Bw w Z:=qa oG s;have hla:=hS.size;obtain⟨hc1,hf1⟩:=qdb s;have hz1:=blt s;have n1:=bne s;have m1:=jbf s)|(go_at_call 100;refine(X.out _ oG).mono ?_;rintro e wb ⟨v7,rfl,hT,D⟩;have hSb:Bw w wb:=qa oG D;have hlb:=hSb.size;have hab:Bw Z wb:=(by first|exact D|exact qa (boxed (jcc _ _) _) D);have h12:=qa s hab;obtain⟨hc2,hf2⟩:=qdb D;obtain⟨hc3,hf3⟩:=qdb h12;have hz2:=blt D;have hz3:=blt h12))
  all_goals
   go_wp2;go_meet
   case rel=>
        refine⟨_,rfl,rfl,rfl,rfl,mj,?_,?_⟩
        ·(repeat (first|(with_reducible refine qo.newest ?_;(first|rfl|(simp;done)))|(with_reducible refine qo.boxed ?_ _)|(with_reducible refine qo.set (a0:=0) (a1:=0) (a2:=0) (a3:=0) ?_)|(with_reducible refine qo.far4 ?_ ?_;rotate_left;(first|(simp;done)|(simp;omega)|omega))));all_goals (constructor<;>go_simp)
        intro m;obtain⟨n,p,e1,e2,e3,e4⟩:=hT.out m;have e5:=e3.lt;have q1:=s.size;try simp at e4
        try simp at q1
        refine⟨n,p,e1,e2,?_⟩;repeat (first|(with_reducible exact e3)|(with_reducible refine qhm.boxed ?_ _)|(with_reducible refine qhm.drew ?_)|(with_reducible refine qhm.far ?_ _ _ ?_;rotate_left;(first|(simp;done)|(simp;omega)|omega)))
 obtain⟨C,rfl,rfl,rfl,rfl,O,R5,HT⟩:=hcut;have K:Hid (Bw w wc/\qo wc C a0 a1 a2 a3):=⟨O,R5⟩;have MU:=qda er wc (z.out.gl.later O);clear O R5 X0 R X;go_wp2_with fail
 refine MU.mono ?_;rintro e E ⟨F,(⟨m,rfl⟩|⟨m,rfl⟩)⟩;rotate_left
 .exact⟨rfl,z.out.told oj g.out.2 g.out.1.cmd (qa K.out.1 F) (.inr ⟨m,rfl⟩)⟩
 obtain⟨n,p,rfl,h8,hR⟩:=HT.out m;have L:=qa K.out.1 F;have H:=g.out.1.wf;have Q:=qb1 (b:=C) (o:=0) (cap:=4) (l:=[a0,a1,a2,a3]) oi oi (λx f=>H x oU) E (z.out.gl.later L) (K.out.2.later F).lt (qm2 (K.out.2.later F));have BLB:Hid (∀w',Bw E w'->Ca 87 #[.slice (PT w'.heap.size) 2 2] (w'.alloc (.cells #[U c,U d] 3)) λe w2=>e=.returned (.string (bya (qv [c,d])))/\Below (w'.alloc (.cells #[U c,U d] 3)).heap.size (w'.alloc (.cells #[U c,U d] 3)) w2):=λw' B=>qb1 (b:=w'.heap.size) (o:=0) (cap:=2) (l:=[c,d]) oi oi (λx f=>H x (by simp at f ⊢;obtain e|e:=f<;>simp[e])) _ (z.out.gl.later (boxed (qa L B) _)) oi (qee (w:=w') (T:=3) [c,d])
 have JN:Hid (∀w',Bw E w'->Ca 92 #[.slice (PT n) 8 p,.string ⟨#[32]⟩] w' λe w2=>e=.returned (.string (bya (Lib.join (i.map (·.data.toList)) [32])))/\Bw w' w2):=λw' B=>by
  have hr:=(hR.later F).later B;have J:=jd1 n 0 p i ⟨#[32]⟩ w' (λq y I=>by rw[mF];exact hr.cell q _ (by rw[jcv,I];rfl)) hr.lt (by rw[g.out.1.tl];decide) (by rw[g.out.1.tl];exact h8) (by
   have:=qgl 13 (i.map (·.data.toList)) (λy I=>by obtain⟨x,f,rfl⟩:=jcz.1 I;exact g.out.1.ts x f);rw[jdh,g.out.1.tl]at this;exact jcn this oj)
  rw[g.out.1.tl]at J;exact J
 have l1:(qv [a0,a1,a2,a3]).length<=88:=by have:=ze (l:=[a0,a1,a2,a3]) (λx f=>H x oU);simpa using this
 have l2:(qv [c,d]).length<=44:=by have:=ze (l:=[c,d]) (λx f=>H x (by simp at f ⊢;obtain e|e:=f<;>simp[e]));simpa using this
 have l3:(Lib.join (i.map (·.data.toList)) [32]).length<=112:=by
  have:=qgl 13 (i.map (·.data.toList)) (λy I=>by obtain⟨x,f,rfl⟩:=jcz.1 I;exact g.out.1.ts x f);rw[jdh,g.out.1.tl]at this;exact this
 have A1:=λw=>qfi (P:=prog) (bya (qv [a0,a1,a2,a3])) ⟨#[44,32]⟩ mh w;have A2:=λw=>qfi (P:=prog) (bya (qv [a0,a1,a2,a3])++⟨#[44,32]⟩) (bya (qv [c,d])) mh w;have A3:=λw=>qfi (P:=prog) (bya (qv [a0,a1,a2,a3])++⟨#[44,32]⟩++bya (qv [c,d])) ⟨#[44,32]⟩ mh w;have A4:=λw=>qfi (P:=prog) (bya (qv [a0,a1,a2,a3])++⟨#[44,32]⟩++bya (qv [c,d])++⟨#[44,32]⟩) (bya (Lib.join (i.map (·.data.toList)) [32])) mh w;have HF:Hid (∀w',Bw w w'->jm 14 W l w cb mb G (.returned (.string (bya (qv [a0,a1,a2,a3]++[44,32]++qv [c,d]++[44,32]++Lib.join (i.map (·.data.toList)) [32])))) w'):=λw' t=>z.out.told oj g.out.2 g.out.1.cmd t (.inl ⟨m,by rw[if_pos m]⟩);have HX3:Hid (Bw w E):=L
 dsimp only[List.length_cons,List.length_nil,Nat.reduceAdd]at Q;clear l1 l2 l3 m L H MU g HT hR;go_wp2_with fail
 refine Q.mono ?_;rintro e w4 ⟨rfl,hb4⟩;have BL2:=BLB.out w4 hb4;go_wp2_with fail
 refine BL2.mono ?_;rintro e w5 ⟨rfl,hb5⟩;have hb53:Bw E w5:=qa (boxed hb4 _) hb5;have U:=JN.out w5 hb53;go_wp2_with fail
 refine U.mono ?_;rintro e w6 ⟨rfl,hb6⟩;have HF0:=HF.out w6 (qa (qa HX3.out hb53) hb6);rw[show bya (qv [a0,a1,a2,a3]++[44,32]++qv [c,d]++[44,32]++Lib.join (i.map (·.data.toList)) [32])=bya (qv [a0,a1,a2,a3])++⟨#[44,32]⟩++bya (qv [c,d])++⟨#[44,32]⟩++bya (Lib.join (i.map (·.data.toList)) [32]) by
  rw[show (⟨#[44,32]⟩:By)=bya [44,32]from rfl,jz,jz,jz,jz]]at HF0
 clear BLB JN HF Q BL2 U;go_wp2;go_ret;exact HF0
def q9k (w:Wl) (h:vk w cb mb b Gw G W j a A l):Ca 66 #[PP cb,.slice a l.length A] w (jm 14 W l w cb mb G):=by
 cases hn:ju 1 l with
 |none=>exact q8r w h hn
 |some r=>exact q65 w h hn
end
def jal (cb:Nat) (w w':Wl):Prop:=∃mb G,qvq cb mb (qcb 2 2) w' G/\(∀k,G k->w.heap.size<=k)/\Bw w w'/\Gl w'
def qsk (w:Wl) (g:Gl w):Ca 13 #[] w λe w'=>∃A,e=.returned (PP A)/\jal A w w':=by
 have i:=hd1 g;have o:=boxed (jcc w.heap.size w) (.cells #[.pointer none,.map none] 82);have p:=q02 w.heap.size (w.alloc (.cells #[.pointer none,.map none] 82));clear g;go_enter func13,ntmps13;go_wp2_with fail
 refine p.mono ?_;rintro e d ⟨rfl,f,j⟩;have r:(w.alloc (.cells #[.pointer none,.map none] 82)).heap.size=w.heap.size+1:=oi;rw[r]at f;have h:=(j.block w.heap.size (by rw[r];omega)).trans (by show (w.heap.push _)[w.heap.size]?=_;exact Array.getElem?_push_size);have C:d.cell? (AD w.heap.size 1)=some (.map none):=by rw[Lib.cell_of_heap h];rfl
 have J:=Lib.frozen_of_heap h 1;have s:(d.setCell (AD w.heap.size 1) (.map (some (w.heap.size+1)))).heap[w.heap.size]?=some (.cells #[.pointer none,.map (some (w.heap.size+1))] 82 (0,0)):=by simp[World.setCell,Array.getElem?_modify,h]
 have t:=qa o j;have l:Bw w (d.setCell (AD w.heap.size 1) (.map (some (w.heap.size+1)))):=jdz t (jcd _) _;have K:=f.lt;have u:=qkq 2 2 _ s (i.out.later l);have v:=hd2 (show zm (d.setCell (AD w.heap.size 1) (.map (some (w.heap.size+1)))) (w.heap.size+1) w.heap.size 19 from f.kept (jce _ _ _ _ (by show w.heap.size+1≠w.heap.size;omega))) l;clear t l h s o j f p;go_wp2_with fail
 refine u.mono ?_;rintro e D (⟨x,rfl,E,n,y,z,B,a⟩|⟨x,_⟩);rotate_left
 .exact absurd oe x
 have F:Hid (jal w.heap.size w D):=by
  obtain⟨m,b⟩:=v.out;have H:=b.size;have G:=m.lt;have q:∀k,n k->w.heap.size+1<k:=λk c=>by have:=B k c;omega
  refine⟨w.heap.size+1,λk=>k=w.heap.size\/k=w.heap.size+1\/n k,⟨E,n,⟨y,m.kept (a.block _ G oe),z,oe,λe=>by have:=q _ e;omega,λe=>by have:=q _ e;omega⟩,λ_=>jdl⟩,λk c=>?_,?_,?_⟩
  .obtain rfl|rfl|e:=c
   .exact jcd _
   .omega
   have:=q k e;omega
  .exact⟨a.os.trans b.os,a.tape.trans b.tape,a.output.trans b.output,jcn b.size a.size,λk c=>(a.block k oe oe).trans (b.block k c)⟩
  have I:=i.out.sz;exact(i.out.later b).kept (λk c=>a.block k oe oe) a.size
 clear y z B a u v C J;go_wp2;go_ret;exact⟨_,rfl,F.out⟩
def q60 (s:By) (w:Wl):Ca 14 #[.string s] w λe w'=>e=.returned (.func (.func 40) #[] #[PP w.heap.size])/\w'=w.alloc (.cells #[.string s] 9):=by
 have hmf:∀(fn:Fn) (first a:Av) (w:Wl),(Instr.makeFunc fn first a).run prog w=.ok (.func fn first a) w:=λ_ _ _ _=>rfl;go_enter func14,ntmps14
 go_wp2;go_ret;exact⟨rfl,rfl⟩
def jam (s:List UInt8) (pre:List By) (rest:List UInt8) (more:Bool):Prop:=rest.length<=s.length/\(qfq s).map bya=pre++if more=true then (qao rest).map bya else []
def q6r:Vl->Nat
 |.string b=>b.size
 |_=>0
def jao:Vl->Nat
 |.bool true=>1
 |_=>0
def qym (n:Nat) (hn:1<=n) (s:By) (M:s.size<=20000) (B:Nat) (w:Wl) (N:B<w.heap.size) (t:w.cell? (AD B 0)=some (.string s)):
 q6w Fence.wide n prog 40 #[PP B] (λx:By=>#[.string x]) ((qfq s.data.toList).map bya) Gl w:=λl J W v O P C Q=>by
 have R:=(v.cell (p:=AD B 0) N).trans t;have S:s.data.toList.length<=20000:=by rw[<-Lib.size_eq];exact M
 have D:=jd7 s ⟨#[10]⟩ W oe;refine callsIn_of_wp func40 rfl trivial ?_ rfl;simp only[ntmps40,List.size_toArray,List.length_cons,List.length_nil,Nat.reduceAdd,Nat.reduceSub,Array.replicate_succ,Array.replicate_zero,List.push_toArray,List.append_toArray,jda,jdj];gi_wp2_with (refine⟨trivial,?_⟩;gi_at_call 41;refine(callsIn_wide.2 D).mono ?_;rintro e w' ⟨rfl,rfl⟩)
 clear D R v t;have T:=hd1 S;gi_loopw [3,4] (λd g wr=>∃(a:List By) (r:List UInt8) (m:Bool),d=.string ⟨r.toArray⟩/\g=.bool m/\Hid (jam s.data.toList a r m)/\J a wr) (λd g _=>q6r d+jao g)
 case atStart=>exact⟨[],_,true,rfl,rfl,⟨by unfold Lib.trimSuffix;split<;>simp,by simp[qfq]⟩,Q⟩
 obtain⟨a,r,m,rfl,rfl,b,h⟩:=hrel;cases m with
 |false=>
  gi_wp2
  go_end0;have e:=b.out.2;simp only[Bool.false_eq_true,if_false,jdx]at e;rw[e];exact⟨⟨_,rfl⟩,h⟩
 |true=>
  obtain⟨k,E⟩:=(O _ _ h).ml;have i:=jer ⟨r.toArray⟩ ⟨#[10]⟩ k wr (by have:=b.out.1;have:=T.out;show r.toArray.size<_;simp;omega) E;obtain⟨⟨x,y,f⟩,c⟩:∃z,Lib.cut r [10]=z:=⟨_,rfl⟩;have j:=qxi r;have o:=q4q r;rw[c]at j o;replace i:Ca 42 #[.string ⟨r.toArray⟩,.string ⟨#[10]⟩] wr λe w'=>e=.returned (.tuple #[.string ⟨x.toArray⟩,.string ⟨y.toArray⟩,.bool f])/\∃q,w'=wr.drewN q:=i.mono λe w' ⟨F,q,V⟩=>by
   have X:Lib.cut (⟨r.toArray⟩:By).data.toList (⟨#[10]⟩:By).data.toList=(x,y,f):=c;rw[X]at F;exact⟨F,q,V⟩
  have Y:=b.out.1;have e:=b.out.2;rw[if_pos rfl,j]at e;have G:Hid (∃rest,(qfq s.data.toList).map bya=a++bya x::rest/\jam s.data.toList (a++[bya x]) y f/\y.length+(if f=true then 1 else 0)<r.length+1):=by
   cases f with
   |true=>
    have l1:=o rfl;simp only at l1;simp only[if_true]at e ⊢;exact⟨(qao y).map bya,mi,⟨oe,by rw[e];simp⟩,oe⟩
   |false=>
    simp only[Bool.false_eq_true,if_false]at e ⊢;have Z:y=[]:=by
     have q:(Lib.cut r [10]).2.2=false:=by rw[c]
     have:(Lib.cut r [10]).2.1=[]:=by
         unfold Lib.cut at q ⊢;split at q
         .cases q
         rename_i u;rw[if_neg u]
     rw[c]at this;exact this
    subst Z;exact⟨[],mi,⟨oi,by rw[e];simp⟩,oi⟩
  obtain⟨rest,H,I,K⟩:=G.out;have L:=hd2 I K;have YY:Hid (∀q,YieldAt Fence.wide (n-1) prog l #[.string ⟨x.toArray⟩] (wr.drewN q) λe W'=>e=.returned (.bool true)/\J (a++[bya x]) W'):=λq=>C a (bya x) rest (wr.drewN q) (P _ _ _ h ⟨rfl,rfl,rfl,jcd _,λ_ _=>rfl⟩) H;clear C Y e H I K G b j o E c
  gi_wp2_with (refine⟨trivial,?_⟩;gi_at_call 42;refine(callsIn_wide.2 i).mono ?_;rintro e w' ⟨rfl,q,rfl⟩)
  obtain⟨fn,tmps,assign,body,A,hR⟩:=YY.out q;rw[A];gi_wp2
  refine hR.mono ?_;rintro e W3 ⟨rfl,hJ3⟩;gi_wp2
  go_roundw
  case rel=>exact⟨_,y,f,rfl,rfl,L.out.1,hJ3⟩
  have:=L.out.2;cases f<;>simp[q6r,jao,Lib.size_eq]at this ⊢<;>omega
end Go.Proofs.YtbfkeoagmajcpaaGreatDoor
