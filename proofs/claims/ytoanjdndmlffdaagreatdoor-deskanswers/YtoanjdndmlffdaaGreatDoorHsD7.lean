import Derived.Test.YtoanjdndmlffdaaGreatDoorHsD5
import Derived.Test.YtoanjdndmlffdaaGreatDoorSiteN
set_option maxHeartbeats 8000000
set_option maxRecDepth 1000000
namespace Go.Proofs.YtoanjdndmlffdaaGreatDoor
open Go.RowKit
theorem qgm.gl3 {w w2 c:World} {i m b j cap:Nat} {Gw G:Nat->Prop} {W W':WoS} {a:Option Addr} {l:List ByteArray} (h:qgm w i m b Gw G W j a cap l) (n:Bw w w2) (o:qae w2 b Gw W' c):Gl c:=by
 obtain⟨p,_,_,d⟩:=o;have g:=h.gl.later n;exact g.kept (λk f=>d.block k (jci f g.sz) (λe=>h.gn k (jci f h.nn.1) ((h.g k).2 (.inr e)))) d.size
theorem qy0:yt 5:=λ{w w2 n0 hb b j cap nc Gw G W a na l ns} u h hn hlen E _ hN hb2=>by
 have R:=(h.hs.later hb2).rw;obtain⟨x,rfl⟩:=qit hlen;simp[qx,qb8,thB,thC]at E;obtain⟨k,rfl,M,hth,_⟩:=qac E;obtain⟨g,rfl,hgB,hgl,q0⟩:=hN.cell 0 _ rfl;have hcap:=hN.cap;have CM:=q2t w2 R h.wi.wf M (h.wi.ps k M) (λe=>(h.wi.told M e).2);have F:=q61 h.di M;have N:Hid (qgx W k=if (wcT W k).seq=0 then [110,111,116,104,105,110,103]else qv [(wcT W k).site,(wcT W k).seq,(wcT W k).wall,(wcT W k).count]++[58,32]++qv [(wcT W k).d0,(wcT W k).d1,(wcT W k).d2,(wcT W k).d3]):=rfl
 have H:Hid (∀i d told,qae w2 b Gw (wcW W k) i->Bw i d->(wcE W k=0->told=qgx W k)->vl 5 W l w hb G (.returned (.tuple #[.string (bya told),U (wcE W k)])) d):=λi d told V hb4 E=>h.fin hn hb2 (by
  show (if ye (k:Int) W.c then qgx W k=qgx W k/\wcW W k=wcW W k/\wcE W k=wcE W k else qgx W k=[]/\wcW W k=W/\wcE W k=2);rw[if_pos hth]
  exact⟨rfl,rfl,rfl⟩) E V hb4
 have HG:Hid (∀i,qae w2 b Gw (wcW W k) i->Gl i):=λi V=>h.gl3 hb2 V;obtain⟨⟨m,f,n,p,s,v,y,z,I⟩,X⟩:∃t,wcT W k=t:=⟨_,rfl⟩;obtain⟨D,Y⟩:∃D,wcE W k=D:=⟨_,rfl⟩;rw[X]at F N
 dsimp only at F N
 rw[Y]at H;have w1:∀x∈[m,f,n,p],wfI x:=λx r=>F x (by simp at r ⊢;rcases r with e|e|e|e<;>simp[e]);have w2':∀x∈[s,v,y,z],wfI x:=λx r=>F x (by simp at r ⊢;rcases r with e|e|e|e<;>simp[e]);have O:=hd2 w1 w2';clear h hn hb2 hlen E hN R hth F w1 w2'
 conv=>arg 2;whnf
 unfold qa3
 go_wp2_with fail
 refine CM.mono ?_;rintro e i ⟨⟨mt,J,K⟩,rfl,Z,hh⟩;rw[X]at Z;simp only at Z;subst Z;rw[Y,show txV ⟨⟨m,f,n,p,s,v,y,z,I⟩,J,K⟩=.agg (List.toArray (T9 m f n p s v y z J I.length K))from rfl]
 have Q:Hid (qae w2 b Gw (wcW W k) i):=by
  obtain⟨_,G',R',p2,tt,_⟩:=hh.out;exact⟨G',R',p2,tt⟩
 clear hh CM X Y;obtain⟨d,aa⟩:∃d,i.alloc (.cells (List.toArray (T9 m f n p s v y z J I.length K)) 102)=d:=⟨_,rfl⟩
 have B:qd d i.heap.size (T9 m f n p s v y z J I.length K):=by rw[<-aa];exact qd.new (w:=i) (T:=102) (T9 m f n p s v y z J I.length K) rfl
 have ab:Bw i d:=by rw[<-aa];exact boxed (jcc _ i) _
 have L:=hd3 B ab ((HG.out i Q.out).later ab);have t0:=B.cell 0 _ rfl;have t1:=B.cell 1 _ rfl;have t2:=B.cell 2 _ rfl;have t3:=B.cell 3 _ rfl;have tl:=B.lt;clear B ab HG q0;by_cases S:D=0/\f=0
 ·obtain⟨h0,C⟩:=S
  have FIN:Hid (vl 5 W l w hb G (.returned (.tuple #[.string (bya [110,111,116,104,105,110,103]),U 0])) d):=by
   have:=H.out i d [110,111,116,104,105,110,103] Q.out L.out.2.1 (λ_=>by rw[N.out,if_pos C])
   rwa [h0]at this
  subst h0 C;clear H
  go_wp2
  go_ret2;exact FIN.out
 have H01:=hd1 S;have hbx:Bw d (d.alloc (.cells #[U m,U f,U n,U p] 3)).drew:=(boxed (jcc _ d) _).drew;have ac:=qb7 (b:=d.heap.size) (o:=0) (cap:=4) (l:=[m,f,n,p]) (by simp) (by simp) O.out.1 ((d.alloc (.cells #[U m,U f,U n,U p] 3)).drew) (L.out.2.2.later hbx) (by simp) (qee (w:=d) (T:=3) [m,f,n,p])
 dsimp only[List.length_cons,List.length_nil,Nat.reduceAdd]at ac
 have BLP:=hd1 (λw' C=>qyz (o:=4) L.out.1 (λq x r=>by match q,r with|0,r=>exact(by simpa using r)|1,r=>exact(by simpa using r)|2,r=>exact(by simpa using r)|3,r=>exact(by simpa using r)) O.out.2 w' (L.out.2.2.later C) C)
 have l1:(qv [m,f,n,p]).length<=88:=by have:=ze O.out.1;simpa using this
 have l2:(qv [s,v,y,z]).length<=88:=by have:=ze O.out.2;simpa using this
 have A1:=λw=>qfi (P:=Tryz.prog) (bya (qv [m,f,n,p])) ⟨#[58,32]⟩ (by simp[zo];omega) w;have A2:=λw=>qfi (P:=Tryz.prog) (bya (qv [m,f,n,p])++⟨#[58,32]⟩) (bya (qv [s,v,y,z])) (by simp[zo];omega) w
 have HF1:=hd1 (λw' C=>by
  have:=H.out i w' (qv [m,f,n,p]++[58,32]++qv [s,v,y,z]) Q.out (qa L.out.2.1 C) (λe=>by rw[N.out,if_neg (λq=>H01.out ⟨e,q⟩)])
  rwa [show bya (qv [m,f,n,p]++[58,32]++qv [s,v,y,z])=bya (qv [m,f,n,p])++⟨#[58,32]⟩++bya (qv [s,v,y,z]) by
   rw[show (⟨#[58,32]⟩:ByteArray)=bya [58,32]from rfl,jz,jz]]at this)
 have hq:(D==0)=false\/((D==0)=true/\(f==0)=false):=by
  by_cases e:D=0
  ·exact .inr ⟨by simp[e],by simp;exact λq=>S ⟨e,q⟩⟩
  exact .inl (by simp[e])
 clear H Q l1 l2 S;rcases hq with hq|⟨hq,hq1⟩
 all_goals
  go_upto_region 36 with fail
  have X0:=λ(w':World) (h:Bw d w')=>cell_later h t0;have X1:=λ(w':World) (h:Bw d w')=>cell_later h t1;have X2:=λ(w':World) (h:Bw d w')=>cell_later h t2;have X3:=λ(w':World) (h:Bw d w')=>cell_later h t3;clear t0 t1 t2 t3 aa
  go_region_held3 (λw'=>Bw d w') ((repeat (first|(with_reducible assumption)|(with_reducible refine boxed ?_ _)|(with_reducible refine jc6 ?_)|(with_reducible exact jcc _ _)))) (first|(go_at_call 17;(with_reducible refine ac.mono ?_);rintro e w5 ⟨rfl,hb5⟩;have hb54:=qa hbx hb5;have BL2:=BLP.out w5 hb54)|(go_at_call 17;(with_reducible refine BL2.mono ?_);rintro e w6 ⟨rfl,hb6⟩;have hb64:=qa hb54 hb6;have HF2:=HF1.out w6 hb64))
  all_goals
   clear ac BL2 BLP HF1 A1 A2 X0 X1 X2 X3
   go_wp2
   go_ret2;exact HF2
end Go.Proofs.YtoanjdndmlffdaaGreatDoor
