import Derived.Test.YtoanjdndmlffdaaGreatDoorSiteN
import Derived.Test.YtoanjdndmlffdaaGreatDoorHsD6
set_option maxHeartbeats 8000000
set_option maxRecDepth 1000000
namespace Go.Proofs.YtoanjdndmlffdaaGreatDoor
section
open Go.RowKit
theorem q2p:yt 2:=λ{w w2 n0 hb b j cap nc Gw G W a na l ns} u h hn hlen ht _ hN hb2=>by
 obtain⟨M,A,R,i⟩:=(h.hs.later hb2).rw;have o:=h.hs.rw.lt;obtain⟨x,rfl⟩:=qit hlen;simp[qx,qb8,thB,thC]at ht;obtain⟨k,rfl,m,p,B⟩:=qac ht;obtain⟨g,rfl,O,D,r⟩:=hN.cell 0 _ rfl;have P:=hN.cap;have s:=h.wi.wf.at_ k m;obtain⟨E,Q,F,T,H,sa,C⟩:=R.cliAt m s
 have t:∀q,(λq=>ql b M q\/q=g) q->q<w2.heap.size/\¬A (W.n+k) q:=λq e=>by
  rcases e with e|rfl
  ·exact⟨R.ltF q e,(R.fam.free q e).2 _ (by omega)⟩
  exact⟨D,λe=>by have:=o q ((i q).2 (.inr ⟨_,by omega,e⟩));omega⟩
 have c:∀(q:Addr) (v:Value),(λq=>ql b M q\/q=g) q.block->w2.cell? q=some v->∀w',jg (λq=>ql b M q\/q=g) w2 w'->w'.cell? q=some v:=λq v I e w' J=>(jch (w:=w2) (a:=q) (J.block q.block I)).trans e;have V:=c (AD b 2) _ (.inl C.fb) C.c2;have X:=c (AD E k) _ (.inl C.f2) C.x2;have Y:=c (AD g 0) _ (.inr rfl) r;have Z:=c (AD b 0) _ (.inl C.fb) C.c0;have K3:=c (AD b 3) _ (.inl C.fb) C.c3;have X0:=c (AD H (W.at_ k)) _ (.inl C.f0) C.x0;have X3:=c (AD F k) _ (.inl C.f3) C.x3;have g1:=C.l0;have g3:=C.l3;have K:=hd1 (q4k (R.laterW (jcc _ _).drew) i m s);have d:=hd5 h hn hb2 p t;have g2:=C.l2;have L:jg (λq=>ql b M q\/q=g) w2 w2:=jg.refl _ _;have KD:=vy L;clear h hn hb2 hlen ht hN R p B C c r t o i
 conv=>arg 2;whnf
 unfold qa3
 go_upto_region 24 with fail
 go_region_held3 (λw'=>jg (λq=>ql b M q\/q=g) w2 w') (repeat (first|(with_reducible assumption)|(with_reducible refine vy ?_))) (first
  |(go_at_call 31
    with_reducible refine K.out.mono ?_
    rintro e y ⟨rfl,z,f⟩;have KB:jg (λq=>ql b M q\/q=g) w2 y:=⟨f.os,f.tape,f.output,f.size,λq e=>f.block q (d.out.2.2.2.2 q e).1 (d.out.2.2.2.2 q e).2⟩;have N:Hid (vl 2 W l w hb G (.returned (.tuple #[.string (bya (qn 2)),U (qhl (W.S (W.at_ k)) (W.ses k))])) y):=d.out.1.fin d.out.2.1 (qa d.out.2.2.1 (jcc _ _).drew) ⟨rfl,by rw[if_pos d.out.2.2.2.1];exact⟨rfl,rfl⟩⟩ (λ_=>rfl) z (jcc _ _)
    clear z f))
 all_goals
  go_wp2
  go_ret2;exact N.out
theorem q2i:yt 0:=λ{w w2 n0 hb b j cap nc Gw G W a na l ns} u h hn hlen ht _ hN hb2=>by
 obtain⟨M,z,R,i⟩:=(h.hs.later hb2).rw;have o:=h.hs.rw.lt;obtain⟨x,rfl⟩:=qit hlen;simp[qx,qb8,thB,thC]at ht;obtain⟨k,rfl,m,p,A⟩:=qac ht;obtain⟨g,rfl,L,B,r⟩:=hN.cell 0 _ rfl;have N:=hN.cap;have D:=h.wi.wf.at_ k m;obtain⟨E,O,P,Q,S,sa,C⟩:=R.cliAt m D
 have s:∀q,(λq=>ql b M q\/q=g) q->q<w2.heap.size/\¬z (W.n+k) q:=λq e=>by
  rcases e with e|rfl
  ·exact⟨R.ltF q e,(R.fam.free q e).2 _ (by omega)⟩
  exact⟨B,λe=>by have:=o q ((i q).2 (.inr ⟨_,by omega,e⟩));omega⟩
 have f:∀(q:Addr) (v:Value),(λq=>ql b M q\/q=g) q.block->w2.cell? q=some v->∀w',jg (λq=>ql b M q\/q=g) w2 w'->w'.cell? q=some v:=λq v F e w' H=>(jch (w:=w2) (a:=q) (H.block q.block F)).trans e;have T:=f (AD b 2) _ (.inl C.fb) C.c2;have V:=f (AD E k) _ (.inl C.f2) C.x2;have X:=f (AD g 0) _ (.inr rfl) r;have I:=hd1 (q66 (R.laterW (jcc _ _).drew) i m);have c:=hd5 h hn hb2 p s;have Y:=C.l2;have J:jg (λq=>ql b M q\/q=g) w2 w2:=jg.refl _ _;have Z:=vy J;clear h hn hb2 hlen ht hN R p A C f r s o i
 conv=>arg 2;whnf
 unfold qa3
 go_upto_region 38 with fail
 go_region_held3 (λw'=>jg (λq=>ql b M q\/q=g) w2 w') (repeat (first|(with_reducible assumption)|(with_reducible refine vy ?_))) (first
  |(go_at_call 35
    with_reducible refine I.out.mono ?_
    rintro e t ⟨rfl,y,d⟩;have KB:jg (λq=>ql b M q\/q=g) w2 t:=⟨d.os,d.tape,d.output,d.size,λq e=>d.block q (c.out.2.2.2.2 q e).1 (c.out.2.2.2.2 q e).2⟩;have K:Hid (vl 0 W l w hb G (.returned (.tuple #[.string (bya (qn 0)),U (qi5 (W.ses k))])) t):=c.out.1.fin c.out.2.1 (qa c.out.2.2.1 (jcc _ _).drew) ⟨rfl,by rw[if_pos c.out.2.2.2.1];exact⟨rfl,rfl⟩⟩ (λ_=>rfl) y (jcc _ _)
    clear y d))
 all_goals
  go_wp2
  go_ret2;exact K.out
theorem q3c:yt 18:=λ{w w2 n0 hb b j cap nc Gw G W a na l ns} u h hn hlen ht _ hN hb2=>by
 obtain⟨M,y,R,r⟩:=(h.hs.later hb2).rw;have z:=h.hs.rw.lt;obtain⟨x,key,rfl⟩:=qk0 hlen;obtain⟨N,l1,d,rfl⟩:=q68 hn;obtain⟨c,t,rfl,A,B⟩:=h.st.cell 2 d rfl;have D:=(hb2.cell (p:=AD c (t+2)) A).trans B;have ac:3<=cap:=h.st.cap;have E:¬Gw c:=λe=>h.sn c t rfl ((h.g c).2 (.inr e));simp[qx,qb8,thB,thC]at ht;obtain⟨k,rfl,s,F,O⟩:=qac ht;obtain⟨g,rfl,ad,P,H⟩:=hN.cell 0 _ rfl;obtain⟨g',o,_,_,I⟩:=hN.cell 1 key rfl;injection o with o;injection o with o;subst o;have ae:=hN.cap;have Q:=h.wi.wf.at_ k s;obtain⟨S,ca,ag,aa,sg,sa,C⟩:=R.cliAt s Q
 have J:∀q,(λq=>ql b M q\/q=g\/q=c) q->q<w2.heap.size/\¬y (W.n+k) q:=λq e=>by
  rcases e with e|rfl|rfl
  ·exact⟨R.ltF q e,(R.fam.free q e).2 _ (by omega)⟩
  ·exact⟨P,λe=>by have:=z q ((r q).2 (.inr ⟨_,by omega,e⟩));omega⟩
  exact⟨jci A hb2.size,λe=>E ((r q).2 (.inr ⟨_,by omega,e⟩))⟩
 have f:∀(q:Addr) (v:Value),(λq=>ql b M q\/q=g\/q=c) q.block->w2.cell? q=some v->∀w',jg (λq=>ql b M q\/q=g\/q=c) w2 w'->w'.cell? q=some v:=λq v T e w' V=>(jch (w:=w2) (a:=q) (V.block q.block T)).trans e;have K2:=f (AD b 2) _ (.inl C.fb) C.c2;have X2:=f (AD S k) _ (.inl C.f2) C.x2;have N0:=f (AD g 0) _ (.inr (.inl rfl)) H;have N1:=f (AD g 1) _ (.inr (.inl rfl)) I;have D2:=f (AD c (t+2)) _ (.inr (.inr rfl)) D;have X:Hid (Ca 33 #[PP (M.bs k),.agg #[U key,.string d,.bool false]] w2.drew λe w'=>e=.returned (U (qaj (W.ses k) ⟨key,d,false⟩))/\qae w2.drew b Gw (vf W k (qd2 (W.ses k) ⟨key,d,false⟩)) w'/\qc (y (W.n+k)) w2.drew w'):=qvm (R.laterW (jcc _ _).drew) r s ⟨key,d,false⟩ (h.few s);have i:=hd5 h hn hb2 F J;have g2:=C.l2;have Y:jg (λq=>ql b M q\/q=g\/q=c) w2 w2:=jg.refl _ _;have KD:=vy Y;clear h hn hb2 hlen ht hN R F O C f H I J z r B D E
 conv=>arg 2;whnf
 unfold qa3
 go_upto_region 29 with fail
 go_region_held3 (λw'=>jg (λq=>ql b M q\/q=g\/q=c) w2 w') (repeat (first|(with_reducible assumption)|(with_reducible refine vy ?_))) (first
  |(go_at_call 33
    with_reducible refine X.out.mono ?_
    rintro e K ⟨rfl,L,m⟩;have KB:jg (λq=>ql b M q\/q=g\/q=c) w2 K:=⟨m.os,m.tape,m.output,m.size,λq e=>m.block q (i.out.2.2.2.2 q e).1 (i.out.2.2.2.2 q e).2⟩;have Z:Hid (vl 18 W [N,l1,d] w hb G (.returned (.tuple #[.string (bya (qn 18)),U (qaj (W.ses k) ⟨key,d,false⟩)])) K):=i.out.1.fin i.out.2.1 (qa i.out.2.2.1 (jcc _ _).drew) ⟨rfl,by rw[if_pos i.out.2.2.2.1];exact⟨rfl,rfl⟩⟩ (λ_=>rfl) L (jcc _ _)
    clear L m))
 all_goals
  go_wp2
  go_ret2;exact Z.out
theorem q5k:yt 7:=λ{w w2 n0 hb b j cap nc Gw G W a na l ns} u h hn hlen ht _ hN hb2=>by
 obtain⟨M,p,R,o⟩:=(h.hs.later hb2).rw;have r:=h.hs.rw.lt;obtain⟨x,key,rfl⟩:=qk0 hlen;simp[qx,qb8,thB,thC]at ht;obtain⟨k,rfl,m,s,D⟩:=qac ht;obtain⟨g,rfl,O,E,t⟩:=hN.cell 0 _ rfl;obtain⟨g',f,_,_,y⟩:=hN.cell 1 key rfl;injection f with f;injection f with f;subst f;have P:=hN.cap;have F:=h.wi.wf.at_ k m;obtain⟨H,Q,S,T,V,sa,C⟩:=R.cliAt m F
 have z:∀q,(λq=>ql b M q\/q=g) q->q<w2.heap.size/\¬p (W.n+k) q:=λq e=>by
  rcases e with e|rfl
  ·exact⟨R.ltF q e,(R.fam.free q e).2 _ (by omega)⟩
  exact⟨E,λe=>by have:=r q ((o q).2 (.inr ⟨_,by omega,e⟩));omega⟩
 have i:∀(q:Addr) (v:Value),(λq=>ql b M q\/q=g) q.block->w2.cell? q=some v->∀w',jg (λq=>ql b M q\/q=g) w2 w'->w'.cell? q=some v:=λq v I e w' J=>(jch (w:=w2) (a:=q) (J.block q.block I)).trans e;have X:=i (AD b 2) _ (.inl C.fb) C.c2;have Y:=i (AD H k) _ (.inl C.f2) C.x2;have Z:=i (AD g 0) _ (.inr rfl) t;have N1:=i (AD g 1) _ (.inr rfl) y;have K:Hid (Ca 33 #[PP (M.bs k),.agg #[U key,.string ⟨#[]⟩,.bool true]] w2.drew λe w'=>e=.returned (U (qaj (W.ses k) ⟨key,⟨#[]⟩,true⟩))/\qae w2.drew b Gw (vf W k (qd2 (W.ses k) ⟨key,⟨#[]⟩,true⟩)) w'/\qc (p (W.n+k)) w2.drew w'):=qvm (R.laterW (jcc _ _).drew) o m ⟨key,⟨#[]⟩,true⟩ (h.few m);have c:=hd5 h hn hb2 s z;have g2:=C.l2;have L:jg (λq=>ql b M q\/q=g) w2 w2:=jg.refl _ _;have KD:=vy L;clear h hn hb2 hlen ht hN R s D C i t y z r o
 conv=>arg 2;whnf
 unfold qa3
 go_upto_region 31 with fail
 go_region_held3 (λw'=>jg (λq=>ql b M q\/q=g) w2 w') (repeat (first|(with_reducible assumption)|(with_reducible refine vy ?_))) (first
  |(go_at_call 33
    with_reducible refine K.out.mono ?_
    rintro e A ⟨rfl,B,d⟩;have KB:jg (λq=>ql b M q\/q=g) w2 A:=⟨d.os,d.tape,d.output,d.size,λq e=>d.block q (c.out.2.2.2.2 q e).1 (c.out.2.2.2.2 q e).2⟩;have N:Hid (vl 7 W l w hb G (.returned (.tuple #[.string (bya (qn 7)),U (qaj (W.ses k) ⟨key,⟨#[]⟩,true⟩)])) A):=c.out.1.fin c.out.2.1 (qa c.out.2.2.1 (jcc _ _).drew) ⟨rfl,by rw[if_pos c.out.2.2.2.1];exact⟨rfl,rfl⟩⟩ (λ_=>rfl) B (jcc _ _)
    clear B d))
 all_goals
  go_wp2
  go_ret2;exact N.out
end
section
open Go.RowKit
theorem q91:yt 1:=λ{w w2 n0 hb b j cap nc Gw G W a na l ns} u h hn hlen ht hne hN hb2=>by
 have R:=(h.hs.later hb2).rw;have p:=h.hs.rw.lt;obtain⟨x,y,rfl⟩:=qk0 hlen;simp[qx,qb8,thB,thC]at ht;obtain⟨k,rfl,B,r,_⟩:=qac ht.1;obtain⟨o,rfl,K,s,_⟩:=qac ht.2;obtain⟨g,rfl,L,C,t⟩:=hN.cell 0 _ rfl;obtain⟨g',d,_,_,z⟩:=hN.cell 1 _ rfl;injection d with d;injection d with d;subst d;have M:=hN.cap;have A:=hne rfl _ _ rfl;have i:∀(q:Addr) (v:Value),q.block=g->w2.cell? q=some v->∀w',jg (λq=>q=g) w2 w'->w'.cell? q=some v:=λq v D e w' E=>(jch (w:=w2) (a:=q) (E.block q.block D)).trans e;have N:=i (AD g 0) _ rfl t;have O:=i (AD g 1) _ rfl z;have F:Hid (Ca 36 #[PP b,U k,U o] w2.drew λe w'=>e=.returned (.tuple #[])/\qae w2.drew b Gw (qme W k o) w'):=q5z w2.drew (R.later (jcc _ _).drew) B;have c:=hd6 h hn hb2 (show (ye (k:Int) W.n/\ye (o:Int) W.n/\(k:Int)≠o)from⟨r,s,A⟩) C (show ¬Gw g from λe=>by have:=p g e;omega);have H:jg (λq=>q=g) w2 w2:=jg.refl _ _;have P:=vy H;clear h hn hb2 hlen ht hN R r s i t z p hne A
 conv=>arg 2;whnf
 unfold qa3
 go_upto_region 48 with fail
 go_region_held3 (λw'=>jg (λq=>q=g) w2 w') (repeat (first|(with_reducible assumption)|(with_reducible refine vy ?_))) (first
  |(go_at_call 36
    with_reducible refine F.out.mono ?_
    rintro e I ⟨rfl,m⟩
    have Q:jg (λq=>q=g) w2 I:=by
     obtain⟨_,_,_,f⟩:=m;exact⟨f.os,f.tape,f.output,f.size,λq e=>by rw[e];exact f.block g c.out.2.2.2.2.1 c.out.2.2.2.2.2⟩
    have J:=hd1 (c.out.1.fin c.out.2.1 (qa c.out.2.2.1 (jcc _ _).drew) ⟨rfl,by rw[if_pos c.out.2.2.2.1];exact⟨rfl,rfl⟩⟩ (λ_=>rfl) m (jcc _ _))
    clear m))
 all_goals
  go_wp2
  go_ret2;exact J.out
theorem q7l:yt 11:=λ{w w2 n0 hb b j cap nc Gw G W a na l ns} u h hn hlen ht _ hN hb2=>by
 obtain rfl:=qsd hlen;obtain⟨a0,p,a2,q,r,s,k,m,t,v,y⟩:=(h.hs.later hb2).rw.lens;have z:=h.wi.wf.net;have d:Bw w ((w2.alloc (.cells #[U W.net.length,U W.lost] 3)).drew):=(boxed hb2 _).drew
 have g:=qb7 (b:=w2.heap.size) (o:=0) (cap:=2) (l:=[(W.net.length:Int),W.lost]) (by simp) (by simp) (λx i=>by
  simp at i;rcases i with rfl|rfl
  ·exact⟨by omega,by omega⟩
  exact h.di.lost) ((w2.alloc (.cells #[U W.net.length,U W.lost] 3)).drew) (h.gl.later d) (by simp) (qee (w:=w2) (T:=3) [(W.net.length:Int),W.lost])
 have n:Hid (∀c,Below ((w2.alloc (.cells #[U W.net.length,U W.lost] 3)).drew).heap.size ((w2.alloc (.cells #[U W.net.length,U W.lost] 3)).drew) c->vl 11 W l w hb G (.returned (.tuple #[.string (bya (qv [(W.net.length:Int),W.lost])),U 0])) c):=λc f=>h.tell hn (qa d f) ⟨rfl,rfl,rfl⟩ (λ_=>rfl)
 dsimp only[List.length_cons,List.length_nil,Nat.reduceAdd]at g
 clear h hn hb2 hlen ht hN d k m
 conv=>arg 2;whnf
 unfold qa3
 go_upto_region 60 with fail
 go_region_with (first|(go_at_call 17;refine g.mono ?_;rintro e c ⟨rfl,f⟩))
 all_goals
  go_wp2
  go_ret2;exact n.out _ f
theorem q4y:yt 13:=λ{w w2 n0 hb b j cap nc Gw G W a na l ns} u h hn hlen ht _ hN hb2=>by
 obtain⟨M,E,R,D⟩:=(h.hs.later hb2).rw;obtain⟨x,key,rfl⟩:=qk0 hlen;simp[qx,qb8,thB,thC]at ht;obtain⟨k,rfl,d,r,_⟩:=qac ht;obtain⟨g,rfl,F,H,s⟩:=hN.cell 0 _ rfl;obtain⟨g',c,_,_,t⟩:=hN.cell 1 _ rfl;injection c with c;injection c with c;subst c;have I:=hN.cap;have m:=h.wi.wf.at_ k d;have n:=h.wi.wf.inv _ m;obtain⟨J,K,L,N,O,sa,C⟩:=R.cliAt d m;have o:=qjc (key:=key) (h.di.ses k d) n;have Q:=qb.one;have p:Hid (∀x:qb w2,Ca 32 #[PP (M.bs k),.pointer (some (AD (M.bp (W.at_ k)) 0)),U key] x.val λe w'=>e=.returned (.tuple #[.string (vi (W.S (W.at_ k)) (W.ses k) key).1,U (vi (W.S (W.at_ k)) (W.ses k) key).2])/\Below x.val.heap.size x.val w'):=λx=>q8x (R.laterW x.below) d m n key;have f:Hid (∀i,Bw w2 i->vl 13 W l w hb G (.returned (.tuple #[.string (bya ([105,115,32]++(vi (W.S (W.at_ k)) (W.ses k) key).1.data.toList)),U (vi (W.S (W.at_ k)) (W.ses k) key).2])) i):=λi q=>h.tell hn (qa hb2 q) ⟨rfl,by rw[if_pos r];exact⟨rfl,rfl⟩⟩ (λ_=>rfl);obtain⟨⟨v,er⟩,y⟩:∃z,vi (W.S (W.at_ k)) (W.ses k) key=z:=⟨_,rfl⟩;rw[y]at o p f
 dsimp only at o p f
 have T:=qb.cell C.c0;have V:=qb.cell C.c2;have X:=qb.cell C.c3;have Y:=qb.cell C.x0;have Z:=qb.cell C.x2;have m3:=qb.cell C.x3;have y0:=qb.cell s;have y1:=qb.cell t;have g1:=C.l0;have g2:=C.l2;have g3:=C.l3;have A1:=λw=>qfi (P:=Tryz.prog) ⟨#[105,115,32]⟩ v (by rw[show (⟨#[105,115,32]⟩:ByteArray).size=3 from rfl];omega) w
 have B:Hid (bya ([105,115,32]++v.data.toList)=⟨#[105,115,32]⟩++v):=by
  show _=_;rw[<-jz]
 rw[B.out]at f;clear h hn hb2 hlen ht hN R r C s t D y o n B
 conv=>arg 2;whnf
 unfold qa3
 go_upto_region 26 with fail
 refine wrl ?_
 repeat (go_big_quiet_step (first|rfl|(go_at_call 32;with_reducible exact qg (p.out _))))
 refine wpQuiet_nil ?_;rintro i ⟨⟨_,q⟩,rfl⟩
 go_wp2
 go_ret2;exact f.out _ q
end
section
open Go.RowKit
theorem qgm.gl3 {w w2 c:World} {i m b j cap:Nat} {Gw G:Nat->Prop} {W W':WoS} {a:Option Addr} {l:List ByteArray} (h:qgm w i m b Gw G W j a cap l) (n:Bw w w2) (o:qae w2 b Gw W' c):Gl c:=by
 obtain⟨p,_,_,d⟩:=o;have g:=h.gl.later n;exact g.kept (λk f=>d.block k (jci f g.sz) (λe=>h.gn k (jci f h.nn.1) ((h.g k).2 (.inr e)))) d.size
theorem qy0:yt 5:=λ{w w2 n0 hb b j cap nc Gw G W a na l ns} u h hn hlen E _ hN hb2=>by
 have R:=(h.hs.later hb2).rw;obtain⟨x,rfl⟩:=qit hlen;simp[qx,qb8,thB,thC]at E;obtain⟨k,rfl,M,hth,_⟩:=qac E;obtain⟨g,rfl,hgB,hgl,q0⟩:=hN.cell 0 _ rfl;have hcap:=hN.cap;have CM:=q2t w2 R h.wi.wf M (h.wi.ps k M) (λe=>(h.wi.told M e).2);have F:=q61 h.di M;have N:Hid (qgx W k=if (wcT W k).seq=0 then [110,111,116,104,105,110,103]else qv [(wcT W k).site,(wcT W k).seq,(wcT W k).wall,(wcT W k).count]++[58,32]++qv [(wcT W k).d0,(wcT W k).d1,(wcT W k).d2,(wcT W k).d3]):=rfl
 have H:Hid (∀i d told,qae w2 b Gw (wcW W k) i->Bw i d->(wcE W k=0->told=qgx W k)->vl 5 W l w hb G (.returned (.tuple #[.string (bya told),U (wcE W k)])) d):=λi d told V hb4 E=>h.fin hn hb2 (by
  show (if ye (k:Int) W.c then qgx W k=qgx W k/\wcW W k=wcW W k/\wcE W k=wcE W k else qgx W k=[]/\wcW W k=W/\wcE W k=2);rw[if_pos hth]
  exact⟨rfl,rfl,rfl⟩) E V hb4
 have HG:Hid (∀i,qae w2 b Gw (wcW W k) i->Gl i):=λi V=>h.gl3 hb2 V;obtain⟨⟨m,f,n,p,s,v,y,z,I⟩,X⟩:∃t,wcT W k=t:=⟨_,rfl⟩;obtain⟨D,Y⟩:∃D,wcE W k=D:=⟨_,rfl⟩;rw[X]at F N
 dsimp only at F N
 rw[Y]at H;have w1:∀x∈[m,f,n,p],wfI x:=λx r=>F x (by simp at r ⊢;rcases r with e|e|e|e<;>simp[e]);have w2':∀x∈[s,v,y,z],wfI x:=λx r=>F x (by simp at r ⊢;rcases r with e|e|e|e<;>simp[e]);have O:=hd2 w1 w2';clear h hn hb2 hlen E hN R hth F w1 w2'
 conv=>arg 2;whnf
 unfold qa3
 go_wp2_with fail
 refine CM.mono ?_;rintro e i ⟨⟨mt,J,K⟩,rfl,Z,hh⟩;rw[X]at Z;simp only at Z;subst Z;rw[Y,show txV ⟨⟨m,f,n,p,s,v,y,z,I⟩,J,K⟩=.agg (List.toArray (T9 m f n p s v y z J I.length K))from rfl]
 have Q:Hid (qae w2 b Gw (wcW W k) i):=by
  obtain⟨_,G',R',p2,tt,_⟩:=hh.out;exact⟨G',R',p2,tt⟩
 clear hh CM X Y;obtain⟨d,aa⟩:∃d,i.alloc (.cells (List.toArray (T9 m f n p s v y z J I.length K)) 102)=d:=⟨_,rfl⟩
 have B:qd d i.heap.size (T9 m f n p s v y z J I.length K):=by rw[<-aa];exact qd.new (w:=i) (T:=102) (T9 m f n p s v y z J I.length K) rfl
 have ab:Bw i d:=by rw[<-aa];exact boxed (jcc _ i) _
 have L:=hd3 B ab ((HG.out i Q.out).later ab);have t0:=B.cell 0 _ rfl;have t1:=B.cell 1 _ rfl;have t2:=B.cell 2 _ rfl;have t3:=B.cell 3 _ rfl;have tl:=B.lt;clear B ab HG q0;by_cases S:D=0/\f=0
 ·obtain⟨h0,C⟩:=S
  have FIN:Hid (vl 5 W l w hb G (.returned (.tuple #[.string (bya [110,111,116,104,105,110,103]),U 0])) d):=by
   have:=H.out i d [110,111,116,104,105,110,103] Q.out L.out.2.1 (λ_=>by rw[N.out,if_pos C])
   rwa [h0]at this
  subst h0 C;clear H
  go_wp2
  go_ret2;exact FIN.out
 have H01:=hd1 S;have hbx:Bw d (d.alloc (.cells #[U m,U f,U n,U p] 3)).drew:=(boxed (jcc _ d) _).drew;have ac:=qb7 (b:=d.heap.size) (o:=0) (cap:=4) (l:=[m,f,n,p]) (by simp) (by simp) O.out.1 ((d.alloc (.cells #[U m,U f,U n,U p] 3)).drew) (L.out.2.2.later hbx) (by simp) (qee (w:=d) (T:=3) [m,f,n,p])
 dsimp only[List.length_cons,List.length_nil,Nat.reduceAdd]at ac
 have BLP:=hd1 (λw' C=>qyz (o:=4) L.out.1 (λq x r=>by match q,r with|0,r=>exact(by simpa using r)|1,r=>exact(by simpa using r)|2,r=>exact(by simpa using r)|3,r=>exact(by simpa using r)) O.out.2 w' (L.out.2.2.later C) C)
 have l1:(qv [m,f,n,p]).length<=88:=by have:=ze O.out.1;simpa using this
 have l2:(qv [s,v,y,z]).length<=88:=by have:=ze O.out.2;simpa using this
 have A1:=λw=>qfi (P:=Tryz.prog) (bya (qv [m,f,n,p])) ⟨#[58,32]⟩ (by simp[zo];omega) w;have A2:=λw=>qfi (P:=Tryz.prog) (bya (qv [m,f,n,p])++⟨#[58,32]⟩) (bya (qv [s,v,y,z])) (by simp[zo];omega) w
 have HF1:=hd1 (λw' C=>by
  have:=H.out i w' (qv [m,f,n,p]++[58,32]++qv [s,v,y,z]) Q.out (qa L.out.2.1 C) (λe=>by rw[N.out,if_neg (λq=>H01.out ⟨e,q⟩)])
  rwa [show bya (qv [m,f,n,p]++[58,32]++qv [s,v,y,z])=bya (qv [m,f,n,p])++⟨#[58,32]⟩++bya (qv [s,v,y,z]) by
   rw[show (⟨#[58,32]⟩:ByteArray)=bya [58,32]from rfl,jz,jz]]at this)
 have hq:(D==0)=false\/((D==0)=true/\(f==0)=false):=by
  by_cases e:D=0
  ·exact .inr ⟨by simp[e],by simp;exact λq=>S ⟨e,q⟩⟩
  exact .inl (by simp[e])
 clear H Q l1 l2 S;rcases hq with hq|⟨hq,hq1⟩
 all_goals
  go_upto_region 36 with fail
  have X0:=λ(w':World) (h:Bw d w')=>cell_later h t0;have X1:=λ(w':World) (h:Bw d w')=>cell_later h t1;have X2:=λ(w':World) (h:Bw d w')=>cell_later h t2;have X3:=λ(w':World) (h:Bw d w')=>cell_later h t3;clear t0 t1 t2 t3 aa
  go_region_held3 (λw'=>Bw d w') ((repeat (first|(with_reducible assumption)|(with_reducible refine boxed ?_ _)|(with_reducible refine jc6 ?_)|(with_reducible exact jcc _ _)))) (first|(go_at_call 17;(with_reducible refine ac.mono ?_);rintro e w5 ⟨rfl,hb5⟩;have hb54:=qa hbx hb5;have BL2:=BLP.out w5 hb54)|(go_at_call 17;(with_reducible refine BL2.mono ?_);rintro e w6 ⟨rfl,hb6⟩;have hb64:=qa hb54 hb6;have HF2:=HF1.out w6 hb64))
  all_goals
   clear ac BL2 BLP HF1 A1 A2 X0 X1 X2 X3
   go_wp2
   go_ret2;exact HF2
end
theorem q52 (a:yt 9):∀i,i<19->yt i:=
 qzg (p:=yt) @q2i @q91 @q2p @q5g @qzs @qy0 @que @q5k @q4e @a @q6s @q7l @q5j @q4y @q4a @q09 @q05 @q0y @q3c
open Go.RowKit
theorem q2f (s:ByteArray) (a:20000<s.size) (w:World):
 Ca 6 #[.string s] w (Rn (.string (bya [101,114,114,111,114,32,52,10])) w):=by
 have b:20000<(s.size:Int):=by omega
 clear a;go_enter Tryz.func6,Tryz.ntmps6
 go_wp2
 go_ret;exact⟨rfl,jcc _ _⟩
theorem qqx.later {w w':World} (h:qqx w) (c:10<=w.heap.size) (a:Bw w w'):qqx w':=by
 obtain⟨bm,f1,d,b⟩:=h;exact⟨bm,(a.cell (p:=AD 0 0) (jci (by decide) c)).trans f1,d.kept (a.block bm b),jci b a.size⟩
theorem qs3 (s:ByteArray) (w:World) (g:Gl w) (i:qqx w):
 Ca 4 #[.string s] w (Rn (.bool true) w):=by
 by_cases t:30000<(s.size:Int)
 ·have p:3000<(s.size:Int):=by omega
  have q:¬(s.size:Int)<=20000:=by omega
  go_enter Tryz.func4,Tryz.ntmps4
  go_wp2
  go_ret;exact⟨rfl,jcc _ _⟩
 by_cases p:3000<(s.size:Int)
 ·by_cases q:(s.size:Int)<=20000
  ·go_enter Tryz.func4,Tryz.ntmps4
   go_wp2
   go_ret;exact⟨rfl,jcc _ _⟩
  have c:=qti s (by omega) (by omega) w g;have d:=λw'=>q2f s (by omega) w';have r:=q93 (bya [101,114,114,111,114,32,52,10]) (bya [101,114,114,111,114,32,52,10]);go_enter Tryz.func4,Tryz.ntmps4
  go_wp2_with fail
  refine c.mono ?_;rintro e a ⟨rfl,b⟩;have f:=d a;clear d c
  go_wp2_with fail
  refine f.mono ?_;rintro e w2 ⟨rfl,h⟩;have j:=qa b h;clear f b h g i
  go_wp2
  go_ret;exact⟨rfl,j⟩
 have c:=quu s (by omega) w g;have d:=λ(a:World) (l:Bw w a)=>q6k (q52 @q5l) s (by omega) a (g.later l) (i.later g.sz l);go_enter Tryz.func4,Tryz.ntmps4
 go_wp2_with fail
 refine c.mono ?_;rintro e a ⟨m,rfl,⟨A,n⟩,b⟩;have f:=d a b;have k:=hd2 n b;clear d c n b g i
 go_wp2_with fail
 refine f.mono ?_;rintro e w2 ⟨u,rfl,⟨v,o⟩,h⟩;obtain⟨_,rfl⟩:=qd8.det k.out.1 o;have j:=qa k.out.2 h
 have r:((bya m).toList==(bya m).toList)=true:=by rw[q93];simp
 clear f h o k
 go_wp2
 go_ret;exact⟨rfl,j⟩
end Go.Proofs.YtoanjdndmlffdaaGreatDoor
