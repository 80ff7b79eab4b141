import Derived.Test.YtoanjdndmlffdaaGreatDoorSiteK
import Derived.Shelf.Sort.Plain
set_option maxHeartbeats 8000000
set_option maxRecDepth 1000000
namespace Go.Proofs.YtoanjdndmlffdaaGreatDoor
section
open Go.RowKit
variable {b:Nat}
theorem qdl {tmps:Array Value} {w:World} {x0 x1 x2 x3 d e f g:Int} {ev:Value} {a:Option Addr} {n c:Nat} (h:qd w b (T9 x0 x1 x2 x3 d e f g a n c)) (i:tmps[4]?=some (PP b)) (j:tmps[5]?=some ev):
 (results Tryz.f103 tmps).run Tryz.prog w=.ok (.tuple #[.agg (List.toArray (T9 x0 x1 x2 x3 d e f g a n c)),ev]) w:=by
 obtain⟨k,l,m,o,p,q,r,s,t⟩:=h.c9;simp[results,Tryz.results103,go_sem,i,j,k,l,m,o,p,q,r,s,t]
theorem q04 {G:Nat->Prop} {W:WoS} (w:World) (h:PW w b G W) (hw:WfW W) {i:Nat} (hi:i<W.c) (hok:0<(wcT W i).seq->okT (wcT W i)=true):
 Ca 103 #[PP b,U i] w (q9n w b G W i):=by
 obtain⟨M,L,h,hG⟩:=h;have ha:=hw.at_ i hi;have u:=hd6 h hG hi ha hw.n4 hok;have hb0:=boxed (jcc _ w) (.cells ZA 102);have RT:=qd.new (w:=w) (T:=102) ZL rfl;change qd (w.alloc (.cells ZA 102)) w.heap.size ZL at RT;obtain⟨cb,cc,c1,hcc,hcb,x0,x1⟩:=h.client hi;obtain⟨pb,pc,c0,hpc,hpb,y0,y1⟩:=h.place ha;have hlt:=h.box.lt;have IC:=yf (k:=i) (v:=true) _ (cell_later hb0 c1) (by simp;omega)
 have BG:Hid (∀w':World,Bw w w'->Ca 150 #[PP (M.bs i),.pointer (some (AD (M.bp (W.at_ i)) 0)),U (W.wall (W.at_ i))] w' λe z=>∃(j d l o p q r s:Int) (a:List Wr) (f:Option Addr) (g:Nat),e=.returned (.tuple #[.agg (List.toArray (T9 j d l o p q r s f a.length g)),jc (wcE W i)])/\Hid (⟨j,d,l,o,p,q,r,s,a⟩=wcT W i/\qr z f g a/\Bw w w'/\qfx (qix (M.bs i) (j0 (W.S (W.at_ i)) (W.ses i) (W.wall (W.at_ i)))) (qeu (M.bp (W.at_ i)) (qcc (W.S (W.at_ i)) (W.ses i) (W.wall (W.at_ i))) (⟨⟨j,d,l,o,p,q,r,s,a⟩,f,g⟩:TxM).blk) w' (L (W.n+i)) (L (W.at_ i)) (⟨⟨j,d,l,o,p,q,r,s,a⟩,f,g⟩:TxM).blk z)/\(∀k,w.heap.size<=k->k<w'.heap.size->z.heap[k]?=w'.heap[k]?)/\w'.heap.size<=z.heap.size):=λw' hb=>by
  refine(qol (W.wall (W.at_ i)) w' ((h.sess hi).later hb) ((h.site ha).later hb) (hw.inv _ ha) (λk h1 h2=>h.fam.apart _ _ k (by omega) (by omega) (by omega) h1 h2)).mono ?_;rintro e z ⟨⟨⟨j,d,l,o,p,q,r,s,a⟩,f,g⟩,rfl,N,Q⟩;have h2:=Q.out.2;obtain⟨_,_,_,_,_,_,_,_,tt⟩:=h2
  exact⟨j,d,l,o,p,q,r,s,a,f,g,rfl,⟨N,Q.out.1,hb,Q.out.2⟩,λk h1 h2=>tt.block k h2 (λe=>by
   rcases e with e|e
   ·have:k<w.heap.size:=h.ltG (by omega) e;omega
   have:k<w.heap.size:=h.ltG (by omega) e
   omega),tt.size⟩
 have q1:(i:Int)<(W.c:Int):=by omega
 have q2:(W.at_ i:Int)<(W.n:Int):=by omega
 have hbc:=boxed hb0 (.cells #[PP (M.bs i),U (W.at_ i)] 171);have RC:=qd.new (w:=w.alloc (.cells ZA 102)) (T:=171) (n:=w.heap.size+1) [PP (M.bs i),U (W.at_ i)] (by simp);have RT1:=RT.boxed (.cells #[PP (M.bs i),U (W.at_ i)] 171);obtain⟨D,hw1⟩:∃D,(w.alloc (.cells ZA 102)).alloc (.cells #[PP (M.bs i),U (W.at_ i)] 171)=D:=⟨_,rfl⟩
 have sz1:D.heap.size=w.heap.size+2:=by rw[<-hw1];simp
 have RC1:qd D (w.heap.size+1) [PP (M.bs i),U (W.at_ i)]:=by rw[<-hw1];exact RC
 have HR:Hid (qd D w.heap.size ZL/\Bw w D/\D.heap.size=w.heap.size+2):=by
  rw[hw1]at RT1 hbc;exact⟨RT1,hbc,sz1⟩
 have d0:=cell_later HR.out.2.1 c0;have e0:=cell_later HR.out.2.1 y0;have e1:=cell_later HR.out.2.1 y1;have f0:=RC1.c 0;have f1:=RC1.c 1
 have hlt1:b<D.heap.size:=by omega
 have hpb1:pb<D.heap.size:=by omega
 have hc1:w.heap.size+1<D.heap.size:=by omega
 clear RT RC RT1 sz1 RC1 hbc;clear h hG hw hok;go_enter Tryz.func103,Tryz.ntmps103
 go_wp2_with fail
 refine IC.mono ?_;rintro e w2 ⟨rfl,hw2⟩;have hw3:=hw2.symm;clear hw2 IC;subst hw3
 go_wp2_with fail
 try rw[hw1]
 clear hw1 c0 c1 x0 x1 y0 y1 hcb hpb hlt hb0
 go_region
 have hbp:=(boxed (jcc _ D) (.cells #[.pointer (some (AD (M.bp (W.at_ i)) 0)),U (W.wall (W.at_ i))] 167)).drew;have RP:=(qd.new (w:=D) (T:=167) [.pointer (some (AD (M.bp (W.at_ i)) 0)),U (W.wall (W.at_ i))] rfl).drew;change qd (D.alloc (.cells #[.pointer (some (AD (M.bp (W.at_ i)) 0)),U (W.wall (W.at_ i))] 167)).drew D.heap.size [.pointer (some (AD (M.bp (W.at_ i)) 0)),U (W.wall (W.at_ i))]at RP;have g0:=RP.c 0;have g1:=RP.c 1;have f0:=cell_later hbp f0;have f1:=cell_later hbp f1;have hb2:=qa HR.out.2.1 hbp;have RT2:=HR.out.1.later hbp;have CM:=BG.out _ hb2;clear BG RP
 go_wp2_with fail
 refine CM.mono ?_;rintro e z ⟨j,d,l,o,p,q,r,s,a,f,g,rfl,Q,hkB,hsB⟩;have HRB:=hd1 (RT2.kept (hkB _ (jcd _) RT2.lt) hsB);have HM:=hd1 Q.out.1;have HX:Hid (∃w',w.heap.size<w'.heap.size/\qr z f g a/\Bw w w'/\qfx (qix (M.bs i) (j0 (W.S (W.at_ i)) (W.ses i) (W.wall (W.at_ i)))) (qeu (M.bp (W.at_ i)) (qcc (W.S (W.at_ i)) (W.ses i) (W.wall (W.at_ i))) (⟨⟨j,d,l,o,p,q,r,s,a⟩,f,g⟩:TxM).blk) w' (L (W.n+i)) (L (W.at_ i)) (⟨⟨j,d,l,o,p,q,r,s,a⟩,f,g⟩:TxM).blk z):=⟨_,RT2.lt,Q.out.2⟩;clear CM Q hkB hsB RT2 hb2 hbp f0 f1 g0 g1 d0 e0 e1 HR hlt1 hpb1 hc1;obtain⟨ce,hce⟩:∃ce,wcE W i=ce:=⟨_,rfl⟩;rw[hce];have hbC:=boxed (jcc _ z) (.cells (List.toArray (T9 j d l o p q r s f a.length g)) 102);have R:=qd.new (w:=z) (T:=102) (T9 j d l o p q r s f a.length g) rfl;change qd (z.alloc (.cells (List.toArray (T9 j d l o p q r s f a.length g)) 102)) z.heap.size (T9 j d l o p q r s f a.length g)at R;have F:=HRB.out.later hbC;have htl:=HRB.out.lt;obtain⟨x,hWC⟩:∃x,z.alloc (.cells (List.toArray (T9 j d l o p q r s f a.length g)) 102)=x:=⟨_,rfl⟩
 have HWX:Hid (∃B E,w.heap.size<B/\B<=x.heap.size/\PWo x b M (qd4 W i) E/\(∀m k,E m k->L m k\/B<=k)/\qc (λk=>L (W.n+i) k\/L (W.at_ i) k) w x/\(∀m k,m<W.n+W.c->(⟨⟨j,d,l,o,p,q,r,s,a⟩,f,g⟩:TxM).blk k->B<=k/\k<z.heap.size/\¬E m k)/\qr x f g a/\z.heap.size<x.heap.size):=by
  obtain⟨w',hlw,hwi,hbw,hl2⟩:=HX.out;have hl3:=hl2;obtain⟨_,_,_,_,_,_,_,_,tt⟩:=hl3;have ts:=tt.size
  have hs4:z.heap.size<x.heap.size:=by rw[<-hWC];simp
  rw[hWC]at hbC;obtain⟨E,H,I,J,C⟩:=u.out.1.com u.out.2.2.1 u.out.2.2.2.1 hbw hl2 hbC;exact⟨w'.heap.size,E,hlw,by omega,H,I,J,C,hwi.later hbC,hs4⟩
 rw[hWC]at R F;clear hbC HX HRB;by_cases hE:ce=0
 ·subst hE;rw[show jc 0=.nilIface from rfl];obtain⟨x0,x1,x2,x3,x4,x5,x6,x7,x8⟩:=R.c9;by_cases hsq:0<d
  ·have HT:Hid (∀E,PWo x b M (qd4 W i) E->(∀k,(⟨⟨j,d,l,o,p,q,r,s,a⟩,f,g⟩:TxM).blk k->w.heap.size<=k)->qr x f g a->Ca 151 #[PP b,.agg (List.toArray (T9 j d l o p q r s f a.length g))] x λe w'=>e=.returned (.tuple #[])/\qby x b M E (λk=>x.heap.size<=k) (qam ⟨j,d,l,o,p,q,r,s,a⟩ W.n (qd4 W i)) w'):=λE h1 h3 h4=>
        q5o j d l o p q r s a f g x h1 u.out.2.2.2.2.1 h4 (λk off e1 e2=>by
         have:=h3 k ⟨e1,off,e2⟩;refine⟨λe=>?_,λe=>?_⟩
         ·have:k<w.heap.size:=u.out.1.ltF k (.inl e);omega
         ·have:k<w.heap.size:=u.out.1.ltF k (.inr (.inr (.inr (.inl e))))
          omega) (by
         have:=u.out.2.2.2.2.2;rw[<-HM.out]at this
         exact this hsq)
   obtain⟨B,E,rB,rC,H,I,J,C,O,V⟩:=HWX.out;have TL:=HT.out E H (λk y=>by have:=(C (W.at_ i) k (by omega) y).1;omega) O
   have HF:Hid (∀X,qby x b M E (λk=>x.heap.size<=k) (qam ⟨j,d,l,o,p,q,r,s,a⟩ W.n (qd4 W i)) X->∃K,PW X b K (wcW W i)/\(∀k,K k->G k\/B<=k)/\qc G w X/\∀k,(⟨⟨j,d,l,o,p,q,r,s,a⟩,f,g⟩:TxM).blk k->B<=k/\¬K k):=λX hs=>by
        have e:wcW W i=qam ⟨j,d,l,o,p,q,r,s,a⟩ W.n (qd4 W i):=by
         unfold wcW;rw[<-HM.out,if_pos hsq]
        rw[e];have sm:=zx ⟨j,d,l,o,p,q,r,s,a⟩ W.n (qd4 W i);exact u.out.1.told u.out.2.1 u.out.2.2.1 u.out.2.2.2.1 sm.n sm.c (by omega) rC I J (λm k N y=>⟨(C m k N y).1,by have:=(C m k N y).2.1;omega,(C m k N y).2.2⟩) hs
   have Z:=hd3 O (show (∀k,(⟨⟨j,d,l,o,p,q,r,s,a⟩,f,g⟩:TxM).blk k->w.heap.size<=k/\k<z.heap.size)from λk y=>⟨by have:=(C (W.at_ i) k (by omega) y).1;omega,(C (W.at_ i) k (by omega) y).2.1⟩) V;have HNO:Hid (∀k,w.heap.size<=k->k≠b/\M.nv.ownBlock≠some k):=λk y=>⟨λe=>by have:k<w.heap.size:=u.out.1.ltF k (.inl e);omega,λe=>by have:k<w.heap.size:=u.out.1.ltF k (.inr (.inr (.inr (.inl e))));omega⟩;have HBB:=hd2 rB (PW.lt ⟨M,L,u.out.1,u.out.2.1⟩);clear HT H I J C O V HWX rB rC
   go_wp2_with (rw[hWC])
   refine TL.mono ?_;rintro e X ⟨rfl,hS⟩;have XD:=R.kept (hS.block (by have:=Z.out.2.2;omega) (HNO.out _ (by omega)).1 (HNO.out _ (by omega)).2) hS.size;have TD:=F.kept (hS.block (by have:=Z.out.2.2;omega) (HNO.out _ (jcd _)).1 (HNO.out _ (jcd _)).2) hS.size;have FIN:=HF.out X hS;have WD:qr X f g a:=qr.kept (m:=(⟨⟨j,d,l,o,p,q,r,s,a⟩,f,g⟩:TxM)) Z.out.1 (λk y=>hS.block (by have:=Z.out.2.1 k y;have:=Z.out.2.2;omega) (HNO.out k (Z.out.2.1 k y).1).1 (HNO.out k (Z.out.2.1 k y).1).2);have P:=hd2 WD FIN;clear x0 x1 x2 x3 x4 x5 x6 x7 x8 TL HF hS FIN WD R F;obtain⟨x0,x1,x2,x3,x4,x5,x6,x7,x8⟩:=XD.c9;obtain⟨r0,H,I,J,C,O,V,r7,r8⟩:=TD.c9;obtain⟨p0,p1,p2,p3,p4,p5,p6,p7,p8⟩:=TD.f9;have RZ:=yz TD rfl j d l o p q r s (.slice f a.length g);have END:=qxt (m:=(⟨⟨j,d,l,o,p,q,r,s,a⟩,f,g⟩:TxM)) P.out HBB.out.2 HBB.out.1 j d l o p q r s (.slice f a.length g);clear P XD TD
   go_wp2_with fail
   exact bodyPost_ret (qdl RZ rfl rfl) rfl ⟨(⟨⟨j,d,l,o,p,q,r,s,a⟩,f,g⟩:TxM),by rw[hce];rfl,HM.out,END⟩
  have P:Hid (∃B,w.heap.size<B/\(∀k,G k->k<w.heap.size)/\qr x f g a/\∃K,PW x b K (wcW W i)/\(∀k,K k->G k\/B<=k)/\qc G w x/\∀k,(⟨⟨j,d,l,o,p,q,r,s,a⟩,f,g⟩:TxM).blk k->B<=k/\¬K k):=by
   obtain⟨B,E,rB,rC,H,I,J,C,O,V⟩:=HWX.out
   have e:wcW W i=qd4 W i:=by
        unfold wcW;rw[<-HM.out,if_neg hsq]
   rw[e];exact⟨B,rB,PW.lt ⟨M,L,u.out.1,u.out.2.1⟩,O,u.out.1.told (W1:=qd4 W i) u.out.2.1 u.out.2.2.1 u.out.2.2.2.1 rfl rfl (by omega) rC I J (λm k N y=>⟨(C m k N y).1,by have:=(C m k N y).2.1;omega,(C m k N y).2.2⟩) (qby.none H (jcc _ _) _)⟩
  obtain⟨r0,H,I,J,C,O,V,r7,r8⟩:=F.c9;obtain⟨p0,p1,p2,p3,p4,p5,p6,p7,p8⟩:=F.f9;have RZ:=yz F rfl j d l o p q r s (.slice f a.length g);obtain⟨B,hB,hGl,hF⟩:=P.out;have END:=qxt (m:=(⟨⟨j,d,l,o,p,q,r,s,a⟩,f,g⟩:TxM)) hF hGl hB j d l o p q r s (.slice f a.length g);clear P HWX R F hF hGl
  go_wp2_with (rw[hWC])
  exact bodyPost_ret (qdl RZ rfl rfl) rfl ⟨(⟨⟨j,d,l,o,p,q,r,s,a⟩,f,g⟩:TxM),by rw[hce];rfl,HM.out,END⟩
 have P:Hid (∃B,w.heap.size<B/\(∀k,G k->k<w.heap.size)/\wcT W i=tx0.t/\qr x tx0.wa tx0.wc tx0.t.ws/\∃K,PW x b K (wcW W i)/\(∀k,K k->G k\/B<=k)/\qc G w x/\∀k,tx0.blk k->B<=k/\¬K k):=by
  obtain⟨B,E,rB,rC,H,I,J,C,O,V⟩:=HWX.out;have e0:wcT W i=tx0.t:=(qvj (by have:=hce;unfold wcE at this;rw[this];exact hE)).1
  have e:wcW W i=qd4 W i:=by
   unfold wcW;rw[e0,if_neg (by decide)]
  rw[e];exact⟨B,rB,PW.lt ⟨M,L,u.out.1,u.out.2.1⟩,e0,qk4 _,u.out.1.told (W1:=qd4 W i) (Y:=tx0.blk) u.out.2.1 u.out.2.2.1 u.out.2.2.2.1 rfl rfl (by omega) rC I J (λm k N y=>absurd y (qfb k)) (qby.none H (jcc _ _) _)⟩
 rw[show jc ce=.iface 26 (U ce) by unfold jc;rw[if_neg hE]];obtain⟨r0,H,I,J,C,O,V,r7,r8⟩:=F.c9;obtain⟨p0,p1,p2,p3,p4,p5,p6,p7,p8⟩:=F.f9;have RZ:=yz F rfl 0 0 0 0 0 0 0 0 (.slice none 0 0);obtain⟨B,hB,hGl,e0,hF⟩:=P.out;have END:=qxt (m:=tx0) hF hGl hB 0 0 0 0 0 0 0 0 (.slice none 0 0);clear P HWX R F hF hGl
 go_wp2_with (rw[hWC])
 exact bodyPost_ret (qdl RZ rfl rfl) rfl ⟨tx0,by rw[hce];unfold jc;rw[if_neg hE];rfl,e0.symm,END⟩
end
section
open Tryz Go.RowKit
variable {i:Nat}
section
variable {w:World} {b:Nat} {G:Nat->Prop} {W:WoS}
theorem PW.lens (h:PW w b G W):∃a0 a a1 d a2 e,w.cell? (AD b 0)=some (.slice a0 W.n a)/\w.cell? (AD b 1)=some (.slice a1 W.c d)/\w.cell? (AD b 2)=some (.slice a2 W.net.length e)/\w.cell? (AD b 3)=some (U W.lost)/\b<w.heap.size:=by
 obtain⟨M,q,h,_⟩:=h;obtain⟨a0,a,k,_⟩:=qq h.pr;obtain⟨a1,d,m,_⟩:=qq h.cr;obtain⟨a2,e,o,_⟩:=qq h.nr
 have p:M.l.length=W.net.length:=by rw[<-h.nl];simp
 have f:=h.box.c 0;have g:=h.box.c 1;have j:=h.box.c 2;rw[k]at f;rw[m]at g;rw[o,p]at j;exact⟨a0,a,a1,d,a2,e,f,g,j,h.box.c 3,h.box.lt⟩
theorem qt8 (k:Int) (w:World) (h:PW w b G W) (n:¬(0<=k/\k<(W.c:Int))):
 Ca 98 #[PP b,U k] w (Rn (jc 2) w):=by
 obtain⟨a0,o,a1,p,a2,r,g,a,j,l,s⟩:=h.lens
 have d:=yf (k:=k) (v:=false) w a (by
  have q:¬(0<=k)\/¬(k<(W.c:Int)):=by omega
  rcases q with q|q<;>simp[q])
 clear h g a j l;go_enter func98,ntmps98
 go_wp2_with fail
 refine d.mono ?_;rintro e w2 ⟨rfl,f⟩;have m:=f.symm;clear f d;subst m
 go_wp2_with fail
 go_ret;exact⟨rfl,jcc _ _⟩
theorem qzt (k:Int) (key:Int) (w:World) (h:PW w b G W) (n:¬(0<=k/\k<(W.c:Int))):
 Ca 113 #[PP b,U k,U key] w (Rn (.tuple #[.string ⟨#[]⟩,jc 2]) w):=by
 obtain⟨a0,o,a1,p,a2,r,g,a,j,l,s⟩:=h.lens
 have d:=yf (k:=k) (v:=false) w a (by
  have q:¬(0<=k)\/¬(k<(W.c:Int)):=by omega
  rcases q with q|q<;>simp[q])
 clear h g a j l;go_enter func113,ntmps113
 go_wp2_with fail
 refine d.mono ?_;rintro e w2 ⟨rfl,f⟩;have m:=f.symm;clear f d;subst m
 go_wp2_with fail
 go_ret2;exact⟨rfl,jcc _ _⟩
theorem qm5 (k:Int) (a:Int) (d:ByteArray) (f:Bool) (w:World) (h:PW w b G W) (s:¬(0<=k/\k<(W.c:Int))):
 Ca 105 #[PP b,U k,.agg #[U a,.string d,.bool f]] w (Rn (jc 2) w):=by
 obtain⟨a0,t,a1,u,a2,x,m,g,n,o,y⟩:=h.lens;have p:=boxed (jcc _ w) (.cells #[U a,.string d,.bool f] 100)
 have j:=yf (k:=k) (v:=false) (w.nu #[U a,.string d,.bool f] 100) (cell_later p g) (by
  have q:¬(0<=k)\/¬(k<(W.c:Int)):=by omega
  rcases q with q|q<;>simp[q])
 clear h m g n o;go_enter func105,ntmps105
 go_wp2_with fail
 refine j.mono ?_;rintro e w2 ⟨rfl,l⟩;have r:=l.symm;clear l j;subst r
 go_wp2_with fail
 go_ret;exact⟨rfl,boxed (jcc _ w) _⟩
theorem qsr (k:Int) (w:World) (h:PW w b G W) (t:¬(0<=k/\k<(W.c:Int))):
 Ca 103 #[PP b,U k] w (Rn (.tuple #[.agg ZA,jc 2]) w):=by
 obtain⟨a0,u,a1,x,a2,y,m,d,o,p,z⟩:=h.lens;have g:=boxed (jcc _ w) (.cells ZA 102);have a:=qd.new (w:=w) (T:=102) (n:=w.heap.size) ZL rfl;have B:=a.c 0;have C:=a.f 0;have D:=a.c 1;have f1:=a.f 1;have E:=a.c 2;have F:=a.f 2;have H:=a.c 3;have I:=a.f 3;have J:=a.c 4;have K:=a.f 4;have L:=a.c 5;have M:=a.f 5;have N:=a.c 6;have O:=a.f 6;have P:=a.c 7;have Q:=a.f 7;have R:=a.c 8;have S:=a.f 8;have RS:=yz a rfl 0 0 0 0 0 0 0 0 (.slice none 0 0);simp only[js]at RS;have r:Hid _:=a;clear a RS
 have j:=yf (k:=k) (v:=false) (w.nu ZA 102) (cell_later g d) (by
  have q:¬(0<=k)\/¬(k<(W.c:Int)):=by omega
  rcases q with q|q<;>simp[q])
 clear h m d o p;go_enter func103,ntmps103
 go_wp2_with fail
 refine j.mono ?_;rintro e w2 ⟨rfl,l⟩;have s:=l.symm;clear l j;subst s
 go_wp2_with fail
 (try simp only[Exit.inBlock,Exit.then])
 exact bodyPost_ret (qdl r.out rfl rfl) rfl ⟨rfl,g⟩
theorem qwi (k:Int) (w:World) (h:PW w b G W) (n:¬(0<=k/\k<(W.c:Int))):
 Ca 94 #[PP b,U k] w (Rn (jc 2) w):=by
 obtain⟨a0,o,a1,p,a2,r,g,a,j,l,s⟩:=h.lens
 have d:=yf (k:=k) (v:=false) w a (by
  have q:¬(0<=k)\/¬(k<(W.c:Int)):=by omega
  rcases q with q|q<;>simp[q])
 clear h g a j l;go_enter func94,ntmps94
 go_wp2_with fail
 refine d.mono ?_;rintro e w2 ⟨rfl,f⟩;have m:=f.symm;clear f d;subst m
 go_wp2_with fail
 go_ret;exact⟨rfl,jcc _ _⟩
theorem qo9 (k:Int) (w:World) (h:PW w b G W) (m:¬(0<=k/\k<(W.net.length:Int))):
 Ca 104 #[PP b,U k] w (Rn (jc 2) w):=by
 obtain⟨a0,n,a1,o,a2,p,f,g,a,j,r⟩:=h.lens
 have c:=qey (k:=k) (v:=false) w a (by
  have q:¬(0<=k)\/¬(k<(W.net.length:Int)):=by omega
  rcases q with q|q<;>simp[q])
 clear h f g a j;go_enter func104,ntmps104
 go_wp2_with fail
 refine c.mono ?_;rintro e w2 ⟨rfl,d⟩;have l:=d.symm;clear d c;subst l
 go_wp2_with fail
 go_ret;exact⟨rfl,jcc _ _⟩
theorem qud (k:Int) (w:World) (h:PW w b G W) (m:¬(0<=k/\k<(W.net.length:Int))):
 Ca 109 #[PP b,U k] w (Rn (jc 2) w):=by
 obtain⟨a0,n,a1,o,a2,p,f,g,a,j,r⟩:=h.lens
 have c:=qey (k:=k) (v:=false) w a (by
  have q:¬(0<=k)\/¬(k<(W.net.length:Int)):=by omega
  rcases q with q|q<;>simp[q])
 clear h f g a j;go_enter func109,ntmps109
 go_wp2_with fail
 refine c.mono ?_;rintro e w2 ⟨rfl,d⟩;have l:=d.symm;clear d c;subst l
 go_wp2_with fail
 go_ret;exact⟨rfl,jcc _ _⟩
theorem qss (k:Int) (w:World) (h:PW w b G W) (m:¬(0<=k/\k<(W.net.length:Int))):
 Ca 116 #[PP b,U k] w (Rn (jc 2) w):=by
 obtain⟨a0,n,a1,o,a2,p,f,g,a,j,r⟩:=h.lens
 have c:=qey (k:=k) (v:=false) w a (by
  have q:¬(0<=k)\/¬(k<(W.net.length:Int)):=by omega
  rcases q with q|q<;>simp[q])
 clear h f g a j;go_enter func116,ntmps116
 go_wp2_with fail
 refine c.mono ?_;rintro e w2 ⟨rfl,d⟩;have l:=d.symm;clear d c;subst l
 go_wp2_with fail
 go_ret;exact⟨rfl,jcc _ _⟩
theorem qt6 (k:Int) (w:World) (h:PW w b G W) (m:¬(0<=k/\k<(W.n:Int))):
 Ca 115 #[PP b,U k] w (Rn (jc 2) w):=by
 obtain⟨a0,o,a1,p,a2,r,a,f,g,j,s⟩:=h.lens
 have c:=yi (k:=k) (v:=false) w a (by
  have q:¬(0<=k)\/¬(k<(W.n:Int)):=by omega
  rcases q with q|q<;>simp[q])
 clear h a f g j;go_enter func115,ntmps115
 go_wp2_with fail
 refine c.mono ?_;rintro e w2 ⟨rfl,d⟩;have l:=d.symm;clear d c;subst l
 go_wp2_with fail
 go_ret;exact⟨rfl,jcc _ _⟩
theorem qy6 (k:Int) (y:Int) (w:World) (h:PW w b G W) (m:¬(0<=k/\k<(W.n:Int))):
 Ca 106 #[PP b,U k,U y] w (Rn (jc 2) w):=by
 obtain⟨a0,o,a1,p,a2,r,a,f,g,j,s⟩:=h.lens
 have c:=yi (k:=k) (v:=false) w a (by
  have q:¬(0<=k)\/¬(k<(W.n:Int)):=by omega
  rcases q with q|q<;>simp[q])
 clear h a f g j;go_enter func106,ntmps106
 go_wp2_with fail
 refine c.mono ?_;rintro e w2 ⟨rfl,d⟩;have l:=d.symm;clear d c;subst l
 go_wp2_with fail
 go_ret;exact⟨rfl,jcc _ _⟩
theorem qyb (k:Int) (y:Int) (w:World) (h:PW w b G W) (n:¬(0<=k/\k<(W.c:Int))):
 Ca 112 #[PP b,U k,U y] w (Rn (jc 2) w):=by
 obtain⟨a0,o,a1,p,a2,r,g,a,j,l,s⟩:=h.lens
 have d:=yf (k:=k) (v:=false) w a (by
  have q:¬(0<=k)\/¬(k<(W.c:Int)):=by omega
  rcases q with q|q<;>simp[q])
 clear h g a j l;go_enter func112,ntmps112
 go_wp2_with fail
 refine d.mono ?_;rintro e w2 ⟨rfl,f⟩;have m:=f.symm;clear f d;subst m
 go_wp2_with fail
 go_ret;exact⟨rfl,jcc _ _⟩
theorem qve (y:Int) (w:World) (h:PW w b G W) (hi:i<W.c) (s:¬(0<=y/\y<(W.n:Int))):
 Ca 112 #[PP b,U i,U y] w (Rn (jc 2) w):=by
 obtain⟨a0,t,a1,u,a2,x,a,d,m,o,z⟩:=h.lens;have f:=yf (k:=i) (v:=true) w d (by simp;omega)
 have g:=yi (k:=y) (v:=false) w a (by
  have q:¬(0<=y)\/¬(y<(W.n:Int)):=by omega
  rcases q with q|q<;>simp[q])
 clear h a d m o;go_enter func112,ntmps112
 go_wp2_with fail
 refine f.mono ?_;rintro e w2 ⟨rfl,j⟩;have p:=j.symm;clear j f;subst p
 go_wp2_with fail
 refine g.mono ?_;rintro e B ⟨rfl,l⟩;have r:=l.symm;clear l g;subst r
 go_wp2_with fail
 go_ret;exact⟨rfl,jcc _ _⟩
theorem qvi (y:Int) (w:World) (h:PW w b G W) (hi:i<W.n) (m:¬(0<=y/\y<=1099511627776)):
 Ca 106 #[PP b,U i,U y] w (Rn (jc 2) w):=by
 obtain⟨a0,o,a1,p,a2,q,a,f,g,j,r⟩:=h.lens;have c:=yi (k:=i) (v:=true) w a (by simp;omega);clear h a f g j;by_cases s:y<0;skip
 rotate_left
 have t:1099511627776<y:=by omega
 all_goals
  go_enter func106,ntmps106
  go_wp2_with fail
  refine c.mono ?_;rintro e w2 ⟨rfl,d⟩;have l:=d.symm;clear d c;subst l
  go_wp2_with fail
  go_ret;exact⟨rfl,jcc _ _⟩
theorem q2g (k:Int) (y:Int) (w:World) (h:PW w b G W) (m:¬(0<=k/\k<(W.n:Int))):
 Ca 96 #[PP b,U k,U y] w (Rn (jc 2) w):=by
 obtain⟨a0,o,a1,p,a2,r,a,f,g,j,s⟩:=h.lens
 have c:=yi (k:=k) (v:=false) w a (by
  have q:¬(0<=k)\/¬(k<(W.n:Int)):=by omega
  rcases q with q|q<;>simp[q])
 clear h a f g j;go_enter func96,ntmps96
 go_wp2_with fail
 refine c.mono ?_;rintro e w2 ⟨rfl,d⟩;have l:=d.symm;clear d c;subst l
 go_wp2_with fail
 go_ret;exact⟨rfl,jcc _ _⟩
theorem qxx (y:Int) (w:World) (h:PW w b G W) (hi:i<W.n) (r:¬(0<=y/\y<(W.n:Int))):
 Ca 96 #[PP b,U i,U y] w (Rn (jc 2) w):=by
 obtain⟨a0,s,a1,t,a2,u,a,j,l,m,x⟩:=h.lens;have c:=yi (k:=i) (v:=true) w a (by simp;omega)
 have d:=yi (k:=y) (v:=false) w a (by
  have q:¬(0<=y)\/¬(y<(W.n:Int)):=by omega
  rcases q with q|q<;>simp[q])
 clear h a j l m;go_enter func96,ntmps96
 go_wp2_with fail
 refine c.mono ?_;rintro e w2 ⟨rfl,f⟩;have o:=f.symm;clear f c;subst o
 go_wp2_with fail
 refine d.mono ?_;rintro e z ⟨rfl,g⟩;have p:=g.symm;clear g d;subst p
 go_wp2_with fail
 go_ret;exact⟨rfl,jcc _ _⟩
theorem q7z (w:World) (h:PW w b G W):Ca 111 #[PP b] w λe w'=>e=.returned (U W.lost)/\w'=w:=by
 obtain⟨a0,f,a1,g,a2,j,a,c,d,k,l⟩:=h.lens;clear h a c d;go_enter func111,ntmps111
 go_wp2_with fail
 go_ret;exact⟨rfl,rfl⟩
theorem qxw (k:Int) (w:World) (h:PW w b G W) (t:¬(0<=k/\k<(W.n:Int))):
 Ca 114 #[PP b,U k] w (Rn (.tuple #[.agg #[U 0,U 0,U 0,U 0],U 0,.slice none 0 0,U 0,jc 2]) w):=by
 obtain⟨a0,u,a1,x,a2,y,d,m,o,p,z⟩:=h.lens;have g:=boxed (jcc _ w) (.cells #[U 0,U 0,U 0,U 0] 77);have a:=qd.new (w:=w) (T:=77) (n:=w.heap.size) [U 0,U 0,U 0,U 0] rfl;have B:=a.c 0;have C:=a.f 0;have D:=a.c 1;have f1:=a.f 1;have E:=a.c 2;have F:=a.f 2;have H:=a.c 3;have I:=a.f 3;have r:Hid _:=a;clear a
 have j:=yi (k:=k) (v:=false) (w.nu #[U 0,U 0,U 0,U 0] 77) (cell_later g d) (by
  have q:¬(0<=k)\/¬(k<(W.n:Int)):=by omega
  rcases q with q|q<;>simp[q])
 clear h d m o p;go_enter func114,ntmps114
 go_wp2_with fail
 refine j.mono ?_;rintro e w2 ⟨rfl,l⟩;have s:=l.symm;clear l j;subst s
 go_wp2_with fail
 (try simp only[Exit.inBlock,Exit.then])
 exact bodyPost_ret (qlr r.out rfl rfl rfl rfl rfl) rfl ⟨rfl,g⟩
theorem qtc (k:Int) (w:World) (h:PW w b G W) (u:¬(0<=k/\k<(W.c:Int))):
 Ca 101 #[PP b,U k] w (Rn (.tuple #[U 0,.agg #[U 0,U 0,U 0,U 0],.agg #[U 0,U 0,U 0,U 0],.bool false,jc 2]) w):=by
 obtain⟨a0,x,a1,y,a2,z,p,g,r,s,B⟩:=h.lens;have j:=boxed (boxed (jcc _ w) (.cells #[U 0,U 0,U 0,U 0] 77)) (.cells #[U 0,U 0,U 0,U 0] 77);have a:=(qd.new (w:=w) (T:=77) (n:=w.heap.size) [U 0,U 0,U 0,U 0] rfl).later (boxed (jcc _ _) (.cells #[U 0,U 0,U 0,U 0] 77));have d:=qd.new (w:=w.nu #[U 0,U 0,U 0,U 0] 77) (T:=77) (n:=w.heap.size+1) [U 0,U 0,U 0,U 0] (by simp);have C:=a.c 0;have D:=a.f 0;have E:=d.c 0;have F:=d.f 0;have H:=a.c 1;have f1:=a.f 1;have I:=d.c 1;have J:=d.f 1;have K:=a.c 2;have L:=a.f 2;have M:=d.c 2;have N:=d.f 2;have O:=a.c 3;have P:=a.f 3;have Q:=d.c 3;have R:=d.f 3;have l:Hid _:=And.intro a d;clear a d
 have m:=yf (k:=k) (v:=false) ((w.nu #[U 0,U 0,U 0,U 0] 77).nu #[U 0,U 0,U 0,U 0] 77) (cell_later j g) (by
  have q:¬(0<=k)\/¬(k<(W.c:Int)):=by omega
  rcases q with q|q<;>simp[q])
 clear h p g r s;go_enter func101,ntmps101
 go_wp2_with fail
 refine m.mono ?_;rintro e w2 ⟨rfl,o⟩;have t:=o.symm;clear o m;subst t
 go_wp2_with fail
 (try simp only[Exit.inBlock,Exit.then])
 exact bodyPost_ret (qjo l.out.1 l.out.2 rfl rfl rfl rfl rfl) rfl ⟨rfl,j⟩
theorem q2a {n c:Int} (a:¬((1<=n/\n<=4)/\(0<=c/\c<=6))) (w:World):
 Ca 65 #[U n,U c] w (Rn (.tuple #[.pointer none,jc 2]) w):=by
 by_cases d:n<1;skip
 rotate_left
 by_cases e:4<n;skip
 rotate_left
 by_cases f:c<0;skip
 rotate_left
 have g:6<c:=by omega
 all_goals
  go_enter func65,ntmps65
  go_wp2_with fail
  go_ret2;exact⟨rfl,jcc _ _⟩
end
end
section
open Go.RowKit
def qgr (i:Nat) (W:WoS) (l:List Int) (d:ByteArray) (w:World) (b:Nat) (G:Nat->Prop) (e:Ending) (w':World):Prop:=
 ∃W' er,qaa i W l d W' er (qn i)/\e=.returned (jc er)/\vh w b G W' w'
variable {k:Int}
section
variable {b:Nat} {G:Nat->Prop} {W:WoS} {j:Nat}
theorem zq {n:Nat} (h:ye k n):∃i:Nat,k=i/\i<n/\k.toNat=i:=⟨k.toNat,by have:=h.1;omega,by have:=h.1;have:=h.2;omega,rfl⟩
theorem q4g (k:Int) (w:World) (h:PW w b G W):Ca 94 #[PP b,U k] w (qgr 0 W [k] ⟨#[]⟩ w b G):=by
 by_cases a:ye k W.c
 ·obtain⟨i,rfl,hi,e⟩:=zq a;exact(q36 w h hi).mono λ_ _ ⟨d,f⟩=>⟨_,_,⟨rfl,by rw[if_pos a];exact⟨rfl,rfl⟩⟩,d,f⟩
 exact(qwi k w h a).mono λ_ _ ⟨d,f⟩=>⟨W,2,⟨rfl,by rw[if_neg a];exact⟨rfl,rfl⟩⟩,d,vh.same h f⟩
theorem q5d (k:Int) (w:World) (h:PW w b G W) (g:PlI j W):Ca 98 #[PP b,U k] w (qgr 2 W [k] ⟨#[]⟩ w b G):=by
 by_cases a:ye k W.c
 ·obtain⟨i,rfl,hi,e⟩:=zq a;exact(q4w w h g.wf hi).mono λ_ _ ⟨d,f⟩=>⟨_,_,⟨rfl,by rw[if_pos a];exact⟨rfl,rfl⟩⟩,d,f⟩
 exact(qt8 k w h a).mono λ_ _ ⟨d,f⟩=>⟨W,2,⟨rfl,by rw[if_neg a];exact⟨rfl,rfl⟩⟩,d,vh.same h f⟩
theorem ja6 (k o:Int) (w:World) (h:PW w b G W) (l:PlI j W):Ca 96 #[PP b,U k,U o] w (qgr 1 W [k,o] ⟨#[]⟩ w b G):=by
 by_cases d:ye k W.n
 ·obtain⟨i,rfl,hi,e⟩:=zq d;by_cases f:ye o W.n
  ·obtain⟨m,rfl,p,r⟩:=zq f;by_cases g:i=m
   ·subst g;exact(qv9 w h hi).mono λ_ _ ⟨a,c⟩=>⟨W,2,⟨rfl,by rw[if_neg (λq=>q.2.2 rfl)];exact⟨rfl,rfl⟩⟩,a,c⟩
   exact(q7k w h l.wf hi p g).mono λ_ _ ⟨a,c⟩=>⟨_,_,⟨rfl,by rw[if_pos ⟨d,f,by omega⟩];exact⟨rfl,rfl⟩⟩,a,c⟩
  exact(qxx o w h hi f).mono λ_ _ ⟨a,c⟩=>⟨W,2,⟨rfl,by rw[if_neg (λq=>f q.2.1)];exact⟨rfl,rfl⟩⟩,a,vh.same h c⟩
 exact(q2g k o w h d).mono λ_ _ ⟨a,c⟩=>⟨W,2,⟨rfl,by rw[if_neg (λq=>d q.1)];exact⟨rfl,rfl⟩⟩,a,vh.same h c⟩
theorem qi2 (a:ye k W.net.length):∃(i:Nat) (g:GrS),k=i/\k.toNat=i/\W.net[i]?=some g:=by
 obtain⟨i,e,hi,c⟩:=zq a;exact⟨i,W.net[i],e,c,jcg hi⟩
theorem qyp (k:Int) (w:World) (h:PW w b G W) (f:PlI j W):Ca 104 #[PP b,U k] w (qgr 6 W [k] ⟨#[]⟩ w b G):=by
 by_cases a:ye k W.net.length
 ·obtain⟨i,g,rfl,e,l⟩:=qi2 a;exact(qp6 w h f.wf l).mono λ_ _ ⟨c,W',d,m⟩=>⟨W',0,⟨rfl,by rw[if_pos a];exact⟨d.out,rfl⟩⟩,c,m⟩
 exact(qo9 k w h a).mono λ_ _ ⟨c,d⟩=>⟨W,2,⟨rfl,by rw[if_neg a];exact⟨rfl,rfl⟩⟩,c,vh.same h d⟩
theorem q99 (k:Int) (w:World) (h:PW w b G W) (f:PlI j W):Ca 109 #[PP b,U k] w (qgr 10 W [k] ⟨#[]⟩ w b G):=by
 by_cases a:ye k W.net.length
 ·obtain⟨i,g,rfl,e,l⟩:=qi2 a;exact(q88 w h f.wf.net l).mono λ_ _ ⟨c,d⟩=>⟨_,0,⟨rfl,by rw[if_pos a];exact⟨rfl,rfl⟩⟩,c,d⟩
 exact(qud k w h a).mono λ_ _ ⟨c,d⟩=>⟨W,2,⟨rfl,by rw[if_neg a];exact⟨rfl,rfl⟩⟩,c,vh.same h d⟩
theorem q50 (k:Int) (w:World) (h:PW w b G W):Ca 116 #[PP b,U k] w (qgr 16 W [k] ⟨#[]⟩ w b G):=by
 by_cases a:ye k W.net.length
 ·obtain⟨i,g,rfl,e,f⟩:=qi2 a;exact(q5x w h f).mono λ_ _ ⟨c,d⟩=>⟨_,0,⟨rfl,by rw[if_pos a];exact⟨⟨g,f,rfl⟩,rfl⟩⟩,c,d⟩
 exact(qss k w h a).mono λ_ _ ⟨c,d⟩=>⟨W,2,⟨rfl,by rw[if_neg a];exact⟨rfl,rfl⟩⟩,c,vh.same h d⟩
theorem q39 (k:Int) (w:World) (h:PW w b G W) (f:PlI j W):Ca 115 #[PP b,U k] w (qgr 15 W [k] ⟨#[]⟩ w b G):=by
 by_cases a:ye k W.n
 ·obtain⟨i,rfl,hi,e⟩:=zq a;exact(q5f w h f.wf hi).mono λ_ _ ⟨c,d⟩=>⟨_,0,⟨rfl,by rw[if_pos a];exact⟨rfl,rfl⟩⟩,c,d⟩
 exact(qt6 k w h a).mono λ_ _ ⟨c,d⟩=>⟨W,2,⟨rfl,by rw[if_neg a];exact⟨rfl,rfl⟩⟩,c,vh.same h d⟩
theorem q9o (k y:Int) (w:World) (h:PW w b G W) (g:PlI j W):Ca 106 #[PP b,U k,U y] w (qgr 8 W [k,y] ⟨#[]⟩ w b G):=by
 by_cases f:ye k W.n
 ·obtain⟨i,rfl,hi,e⟩:=zq f;by_cases a:0<=y/\y<=1099511627776
  ·exact(q8u w h hi a.1 a.2 (g.wl i hi).1 (g.wl i hi).2).mono λ_ _ ⟨c,d⟩=>⟨_,0,⟨rfl,by rw[if_pos ⟨f,a⟩];exact⟨rfl,rfl⟩⟩,c,d⟩
  exact(qvi y w h hi a).mono λ_ _ ⟨c,d⟩=>⟨W,2,⟨rfl,by rw[if_neg (λq=>a q.2)];exact⟨rfl,rfl⟩⟩,c,vh.same h d⟩
 exact(qy6 k y w h f).mono λ_ _ ⟨c,d⟩=>⟨W,2,⟨rfl,by rw[if_neg (λq=>f q.1)];exact⟨rfl,rfl⟩⟩,c,vh.same h d⟩
theorem q9j (k y:Int) (w:World) (h:PW w b G W):Ca 112 #[PP b,U k,U y] w (qgr 12 W [k,y] ⟨#[]⟩ w b G):=by
 by_cases f:ye k W.c
 ·obtain⟨i,rfl,hi,e⟩:=zq f;by_cases g:ye y W.n
  ·obtain⟨m,rfl,l,o⟩:=zq g;exact(q8o w h hi l).mono λ_ _ ⟨a,d⟩=>⟨_,_,⟨rfl,by rw[if_pos ⟨f,g⟩];exact⟨rfl,rfl⟩⟩,a,d⟩
  exact(qve y w h hi g).mono λ_ _ ⟨a,d⟩=>⟨W,2,⟨rfl,by rw[if_neg (λq=>g q.2)];exact⟨rfl,rfl⟩⟩,a,vh.same h d⟩
 exact(qyb k y w h f).mono λ_ _ ⟨a,d⟩=>⟨W,2,⟨rfl,by rw[if_neg (λq=>f q.1)];exact⟨rfl,rfl⟩⟩,a,vh.same h d⟩
theorem q9z (k key:Int) (w:World) (h:PW w b G W):Ca 105 #[PP b,U k,.agg #[U key,.string ⟨#[]⟩,.bool true]] w (qgr 7 W [k,key] ⟨#[]⟩ w b G):=by
 by_cases a:ye k W.c
 ·obtain⟨i,rfl,hi,e⟩:=zq a;exact(qv8 key ⟨#[]⟩ true w h hi).mono λ_ _ ⟨d,f⟩=>⟨_,_,⟨rfl,by rw[if_pos a];exact⟨rfl,rfl⟩⟩,d,f⟩
 exact(qm5 k key ⟨#[]⟩ true w h a).mono λ_ _ ⟨d,f⟩=>⟨W,2,⟨rfl,by rw[if_neg a];exact⟨rfl,rfl⟩⟩,d,vh.same h f⟩
theorem q48 (k key:Int) (d:ByteArray) (w:World) (h:PW w b G W):Ca 105 #[PP b,U k,.agg #[U key,.string d,.bool false]] w (qgr 18 W [k,key] d w b G):=by
 by_cases a:ye k W.c
 ·obtain⟨i,rfl,hi,e⟩:=zq a;exact(qv8 key d false w h hi).mono λ_ _ ⟨f,g⟩=>⟨_,_,⟨rfl,by rw[if_pos a];exact⟨rfl,rfl⟩⟩,f,g⟩
 exact(qm5 k key d false w h a).mono λ_ _ ⟨f,g⟩=>⟨W,2,⟨rfl,by rw[if_neg a];exact⟨rfl,rfl⟩⟩,f,vh.same h g⟩
end
end
section
open Go.RowKit Go.Maps
variable {w:World}
theorem qbu {P:Program} {o:Oper} {a:Act} {K:Act->World->Prop} {Q:Exit->Act->World->Prop} (f:FuncId) (args:Array Value) (g:(execOp a.eval o).run P w=.ok (.enter f args) w) {R:Ending->World->Prop} (h:Calls P f args w R)
 (k:∀e w',R e w'->(∃v,e=.returned v/\K (a.put o.dst v) w')\/∃c,e=.panicked c/\Q (.panic c) a w'):Oper.wp P o a w K Q:=by
 unfold Oper.wp;rw[g,Oper.upon_enter];refine h.mono λe w' m=>?_;rcases k e w' m with ⟨v,rfl,d⟩|⟨c,rfl,d⟩
 ·exact d
 exact d
def q3p (i:Nat):Nat:=[46,47,48,49,50,51,52,53,54,55,56,57,58,59,60,61,62,63,64].getD i 0
def doV (cb i:Nat):Value:=.func (.func (q3p i)) #[PP cb] #[]
structure qow (D:DataW Value) (cb n:Nat):Prop where
 size:Maps.size D=n
 has:∀i,i<n->Maps.has D (.string (qn i))=true/\∀z,D.atKey (.string (qn i)) z=.held (doV cb i)
 no:∀s,(∀i,i<n->s≠qn i)->Maps.has D (.string s)=false/\∀z,D.atKey (.string s) z=z
def zm (w:World) (mb cb n:Nat):Prop:=∃D,w.ownsMap Tryz.prog 9 qcd mb n D/\qow D cb n
variable {w':World} {mb cb n:Nat}
theorem zm.kept (h:zm w mb cb n) (e:w'.heap[mb]?=w.heap[mb]?):zm w' mb cb n:=by
 obtain⟨D,⟨c,d,f,r⟩,g⟩:=h;exact⟨D,⟨c,d,by rw[e];exact f,r⟩,g⟩
theorem zm.lt (h:zm w mb cb n):mb<w.heap.size:=by
 obtain⟨D,h,_⟩:=h;exact h.lt
structure qe3 (w:World) (cb mb b:Nat) (Gw:Nat->Prop) (W:WoS):Prop where
 box:w.heap[cb]?=some (.cells #[PP b,.map (some mb)] 57 (0,0))
 map:zm w mb cb 19
 pw:PW w b Gw W
 n1:cb≠mb
 n2:¬Gw cb
 n3:¬Gw mb
def qvq (cb mb:Nat) (W:WoS) (w:World) (G:Nat->Prop):Prop:=∃b Gw,qe3 w cb mb b Gw W/\∀k,G k↔(k=cb\/k=mb\/Gw k)
variable {w1:World}
section
variable {w w':World} {cb mb b:Nat} {Gw G:Nat->Prop} {W W':WoS}
theorem qe3.ltc (h:qe3 w cb mb b Gw W):cb<w.heap.size:=(jcs.1 h.box).1
theorem qe3.kept (h:qe3 w cb mb b Gw W) (c:∀k,(k=cb\/k=mb\/Gw k)->w'.heap[k]?=w.heap[k]?) (d:w.heap.size<=w'.heap.size):qe3 w' cb mb b Gw W:=
 ⟨(c cb (.inl rfl)).trans h.box,h.map.kept (c mb (.inr (.inl rfl))),h.pw.kept (λk e=>c k (.inr (.inr e))) d,h.n1,h.n2,h.n3⟩
theorem qvq.lt (h:qvq cb mb W w G):∀k,G k->k<w.heap.size:=λk c=>by
 obtain⟨b,Gw,h,d⟩:=h;rcases(d k).1 c with rfl|rfl|e
 ·exact h.ltc
 ·exact h.map.lt
 exact h.pw.lt k e
theorem qvq.kept (h:qvq cb mb W w G) (d:∀k,G k->w'.heap[k]?=w.heap[k]?) (f:w.heap.size<=w'.heap.size):qvq cb mb W w' G:=by
 obtain⟨b,Gw,h,c⟩:=h;exact⟨b,Gw,h.kept (λk e=>d k ((c k).2 e)) f,c⟩
def ckP (cb mb:Nat) (W:WoS):qfr:=⟨λw G=>qvq cb mb W w G,λ_ _ h=>h.lt,λ_ _ _ h=>h.kept⟩
theorem qe3.later (h:qe3 w cb mb b Gw W) (c:Bw w w'):qe3 w' cb mb b Gw W:=
 h.kept (λk e=>c.block k (by rcases e with rfl|rfl|e;exact h.ltc;exact h.map.lt;exact h.pw.lt k e)) c.size
theorem qe3.cell0 (h:qe3 w cb mb b Gw W):w.cell? (AD cb 0)=some (PP b):=by rw[Lib.cell_of_heap h.box];rfl
theorem qe3.cell1 (h:qe3 w cb mb b Gw W):w.cell? (AD cb 1)=some (.map (some mb)):=by rw[Lib.cell_of_heap h.box];rfl
theorem qe3.op (h:qe3 w cb mb b Gw W) (d:∀k,G k↔(k=cb\/k=mb\/Gw k)) (g:Bw w w1) (p:vh w1 b Gw W' w'):qbi (ckP cb mb W') w G w':=by
 obtain⟨o,p1,p2,c⟩:=p;have f:=h.later g;have lc:=f.ltc;have r:=f.map.lt;refine⟨λk=>k=cb\/k=mb\/o k,⟨b,o,⟨(c.block cb lc h.n2).trans f.box,f.map.kept (c.block mb r h.n3),p1,h.n1,λe=>?_,λe=>?_⟩,λ_=>jdl⟩,λk m=>?_,?_⟩
 ·rcases p2 cb e with q|q
  ·exact h.n2 q
  omega
 ·rcases p2 mb e with q|q
  ·exact h.n3 q
  omega
 ·rcases m with rfl|rfl|e
  ·exact .inl ((d k).2 (.inl rfl))
  ·exact .inl ((d k).2 (.inr (.inl rfl)))
  rcases p2 k e with q|q
  ·exact .inl ((d k).2 (.inr (.inr q)))
  exact .inr (jcn g.size q)
 exact(qc.ofBelow g).trans ⟨c.os,c.tape,c.output,c.size,λk m s=>c.block k m (λe=>s ((d k).2 (.inr (.inr e))))⟩
theorem qe3.same (h:qe3 w cb mb b Gw W) (d:∀k,G k↔(k=cb\/k=mb\/Gw k)) (c:Bw w w'):qbi (ckP cb mb W) w G w':=
 ⟨G,⟨b,Gw,h.later c,d⟩,λ_ e=>.inl e,qc.ofBelow c⟩
theorem qe3.after (h:qbi (ckP cb mb W') w G w1) (c:Bw w1 w'):qbi (ckP cb mb W') w G w':=by
 obtain⟨d,p1,p2,f⟩:=h;exact⟨d,p1.kept (λk e=>c.block k (p1.lt k e)) c.size,p2,f.trans (qc.ofBelow c)⟩
end
def qlx (er:Int) (told:List UInt8) (e:Ending):Prop:=(er=0/\e=.returned (.string (bya told)))\/(er≠0/\e=qc7 er)
def jm (i:Nat) (W:WoS) (rest:List ByteArray) (w:World) (cb mb:Nat) (G:Nat->Prop) (e:Ending) (w':World):Prop:=
 ∃W' er told,qc2 i W rest W' er told/\qlx er told e/\qbi (ckP cb mb W') w G w'
structure vk (w:World) (cb mb b:Nat) (Gw G:Nat->Prop) (W:WoS) (j:Nat) (a:Option Addr) (cap:Nat) (l:List ByteArray):Prop where
 ck:qe3 w cb mb b Gw W
 g:∀k,G k↔(k=cb\/k=mb\/Gw k)
 gl:Gl w
 gn:∀k,k<10->¬G k
 wi:PlI j W
 di:DkI W
 st:qfj w a cap l
 sm:∀x∈l,x.size<=1000000
variable {i:Nat} {W':WoS} {w2:World} {er:Int}
section
variable {w:World} {cb mb b j cap:Nat} {Gw G:Nat->Prop} {W:WoS} {a:Option Addr} {l:List ByteArray}
theorem vk.no (h:vk w cb mb b Gw G W j a cap l) (hi:i≠18) (c:ju (qqi i) l=none) (d:Bw w w'):jm i W l w cb mb G (qc7 3) w':=
 ⟨W,3,[],by unfold qc2;rw[if_neg hi,c];exact⟨rfl,rfl,rfl⟩,.inr ⟨by decide,rfl⟩,h.ck.same h.g d⟩
theorem vk.gl2 (h:vk w cb mb b Gw G W j a cap l) (c:Bw w w1) (m:vh w1 b Gw W' w2):Gl w2:=by
 obtain⟨o,_,_,d⟩:=m;exact(h.gl.later c).kept (λk f=>d.block k (jci f (h.gl.later c).sz) (λe=>h.gn k f ((h.g k).2 (.inr (.inr e))))) d.size
theorem vk.yes {ns:List Int} {told:List UInt8} {c:World} {e:Ending} (h:vk w cb mb b Gw G W j a cap l) (hi:i≠18) (d:ju (qqi i) l=some ns) (f:Bw w w1) (k:qaa i W ns (l.getD 2 ⟨#[]⟩) W' er told) (m:vh w1 b Gw W' w2) (o:Bw w2 c) (p:qlx er told e):jm i W l w cb mb G e c:=
 ⟨W',er,told,by unfold qc2;rw[if_neg hi,d];exact k,p,qe3.after (h.ck.op h.g f m) o⟩
end
theorem qaa.data {W:WoS} {l:List Int} {d d':ByteArray} {t:List UInt8} (hi:i≠18) (h:qaa i W l d W' er t):qaa i W l d' W' er t:=by
 unfold qaa at h ⊢
 split at h<;>first|exact h|exact absurd rfl hi
end
section
open Tryz Go.RowKit Go.Maps
theorem qhg:Keyed prog 9:=string_keyed underlying9
theorem qps {s:ByteArray} (h:s.size<=maxLen):keyOf prog 9 (.string s)=some (.string s.data.toList):=by
 unfold keyOf;rw[underlying9];simp[mapKey,h,underlying9]
theorem q0a (s:List UInt8):WideAt.IsKeyLit (.string s):=trivial
theorem qo8:∀i<19,∀j<19,qn i=qn j->i=j:=by decide
variable {cb n:Nat}
theorem qow.put {D:DataW Value} (c:Tidy D) (h:qow D cb n) (f:n<19):qow (D.put (.string (qn n)) (.held (doV cb n))) cb (n+1):=by
 have j:=h.no (qn n) (λi hi e=>by have:=qo8 n f i (by omega) e;omega);refine⟨?_,λi hi=>?_,λs g=>?_⟩
 ·rw[size_put c,j.1,h.size];simp
 ·by_cases e:i=n
  ·subst e;exact⟨has_put_same c.isMap (q0a _) _,λz=>atKey_put_same c.isMap (q0a _) _ z⟩
  have a:(Lit.string (qn i))≠.string (qn n):=λd=>e (qo8 i (by omega) n f (by injection d));have b:=h.has i (by omega);exact⟨by rw[has_put_other a];exact b.1,λz=>by rw[atKey_put_other a];exact b.2 z⟩
 have a:(Lit.string s)≠.string (qn n):=λd=>g n (by omega) (by injection d);have b:=h.no s (λi hi=>g i (by omega));exact⟨by rw[has_put_other a];exact b.1,λz=>by rw[atKey_put_other a];exact b.2 z⟩
theorem zm.made (w:World) (cb:Nat):zm (w.alloc (.map #[] 0)) w.heap.size cb 0:=
 ⟨_,World.ownsMap_made w _ _ _,⟨rfl,λi hi=>absurd hi (by omega),λ_ _=>⟨rfl,λ_=>rfl⟩⟩⟩
variable {w:World} {mb:Nat}
theorem zm.put (n:Nat) (s:ByteArray) (h:zm w mb cb n) (b:n<19) (c:s.data.toList=qn n) (e:s.size<=maxLen):∃w',(Instr.mapUpdate 55 (.map (some mb)) (.string s) (doV cb n)).run prog w=.ok () w'/\Hid (zm w' mb cb (n+1)/\w.grownBy w' (some mb)):=by
 obtain⟨D,o,d⟩:=h;obtain⟨w',f,a,t⟩:=o.store qhg underlying55 (by simp only[maxLen];omega) (qps e) (val:=doV cb n) (d:=.held (doV cb n)) (ps:=[]) rfl;rw[c]at a;exact⟨w',f,⟨_,a,d.put (o.tidy qhg) b⟩,t.grown⟩
theorem jo {b w2:World} (a:Below n w b) (d:n<=mb) (g:b.grownBy w2 (some mb)) (f:n<=b.heap.size):Below n w w2:=
 ⟨g.os.trans a.os,g.tape.trans a.tape,g.output.trans a.output,jcn a.size g.size,λk c=>(g.block k (by omega) (λe=>by injection e with e;omega)).trans (a.block k c)⟩
theorem q02 (cb:Nat) (w:World):Ca 19 #[PP cb] w λe w'=>e=.returned (.map (some w.heap.size))/\zm w' w.heap.size cb 19/\Bw w w':=by
 have a:=hd2 (zm.made w cb) (show Bw w (w.alloc (.map #[] 0))from boxed (jcc _ w) _);obtain⟨v,P,H⟩:=zm.put 0 ⟨#[97,98,111,114,116]⟩ a.out.1 (by omega) (by rfl) (by decide);have b:=hd2 (show zm v w.heap.size cb 1 from H.out.1) (jo a.out.2 (jcd _) H.out.2 a.out.2.size);replace P:(Instr.mapUpdate 55 (.map (some w.heap.size)) (.string ⟨#[97,98,111,114,116]⟩) (.func (.func 46) #[PP cb] #[])).run prog (w.alloc (.map #[] 0))=.ok () v:=P;clear H a;obtain⟨w2,Q,H⟩:=zm.put 1 ⟨#[97,115,107]⟩ b.out.1 (by omega) (by rfl) (by decide);have c:=hd2 (show zm w2 w.heap.size cb 2 from H.out.1) (jo b.out.2 (jcd _) H.out.2 b.out.2.size);replace Q:(Instr.mapUpdate 55 (.map (some w.heap.size)) (.string ⟨#[97,115,107]⟩) (.func (.func 47) #[PP cb] #[])).run prog v=.ok () w2:=Q;clear H b;obtain⟨x,R,H⟩:=zm.put 2 ⟨#[98,101,103,105,110]⟩ c.out.1 (by omega) (by rfl) (by decide);have d:=hd2 (show zm x w.heap.size cb 3 from H.out.1) (jo c.out.2 (jcd _) H.out.2 c.out.2.size);replace R:(Instr.mapUpdate 55 (.map (some w.heap.size)) (.string ⟨#[98,101,103,105,110]⟩) (.func (.func 48) #[PP cb] #[])).run prog w2=.ok () x:=R;clear H c;obtain⟨y,S,H⟩:=zm.put 3 ⟨#[99,97,108,109]⟩ d.out.1 (by omega) (by rfl) (by decide);have f:=hd2 (show zm y w.heap.size cb 4 from H.out.1) (jo d.out.2 (jcd _) H.out.2 d.out.2.size);replace S:(Instr.mapUpdate 55 (.map (some w.heap.size)) (.string ⟨#[99,97,108,109]⟩) (.func (.func 49) #[PP cb] #[])).run prog x=.ok () y:=S;clear H d;obtain⟨z,T,H⟩:=zm.put 4 ⟨#[99,108,105,101,110,116]⟩ f.out.1 (by omega) (by rfl) (by decide);have g:=hd2 (show zm z w.heap.size cb 5 from H.out.1) (jo f.out.2 (jcd _) H.out.2 f.out.2.size);replace T:(Instr.mapUpdate 55 (.map (some w.heap.size)) (.string ⟨#[99,108,105,101,110,116]⟩) (.func (.func 50) #[PP cb] #[])).run prog y=.ok () z:=T;clear H f;obtain⟨B,V,H⟩:=zm.put 5 ⟨#[99,111,109,109,105,116]⟩ g.out.1 (by omega) (by rfl) (by decide);have h:=hd2 (show zm B w.heap.size cb 6 from H.out.1) (jo g.out.2 (jcd _) H.out.2 g.out.2.size);replace V:(Instr.mapUpdate 55 (.map (some w.heap.size)) (.string ⟨#[99,111,109,109,105,116]⟩) (.func (.func 51) #[PP cb] #[])).run prog z=.ok () B:=V
 clear H g;obtain⟨C,W,H⟩:=zm.put 6 ⟨#[100,101,108,105,118,101,114]⟩ h.out.1 (by omega) (by rfl) (by decide);have i:=hd2 (show zm C w.heap.size cb 7 from H.out.1) (jo h.out.2 (jcd _) H.out.2 h.out.2.size);replace W:(Instr.mapUpdate 55 (.map (some w.heap.size)) (.string ⟨#[100,101,108,105,118,101,114]⟩) (.func (.func 52) #[PP cb] #[])).run prog B=.ok () C:=W;clear H h;obtain⟨D,X,H⟩:=zm.put 7 ⟨#[100,114,111,112]⟩ i.out.1 (by omega) (by rfl) (by decide);have j:=hd2 (show zm D w.heap.size cb 8 from H.out.1) (jo i.out.2 (jcd _) H.out.2 i.out.2.size);replace X:(Instr.mapUpdate 55 (.map (some w.heap.size)) (.string ⟨#[100,114,111,112]⟩) (.func (.func 53) #[PP cb] #[])).run prog C=.ok () D:=X;clear H i;obtain⟨E,Y,H⟩:=zm.put 8 ⟨#[103,111,101,115]⟩ j.out.1 (by omega) (by rfl) (by decide);have k:=hd2 (show zm E w.heap.size cb 9 from H.out.1) (jo j.out.2 (jcd _) H.out.2 j.out.2.size);replace Y:(Instr.mapUpdate 55 (.map (some w.heap.size)) (.string ⟨#[103,111,101,115]⟩) (.func (.func 54) #[PP cb] #[])).run prog D=.ok () E:=Y;clear H j;obtain⟨F,Z,H⟩:=zm.put 9 ⟨#[104,101,108,112]⟩ k.out.1 (by omega) (by rfl) (by decide);have l:=hd2 (show zm F w.heap.size cb 10 from H.out.1) (jo k.out.2 (jcd _) H.out.2 k.out.2.size);replace Z:(Instr.mapUpdate 55 (.map (some w.heap.size)) (.string ⟨#[104,101,108,112]⟩) (.func (.func 55) #[PP cb] #[])).run prog E=.ok () F:=Z;clear H k;obtain⟨G,aa,H⟩:=zm.put 10 ⟨#[108,111,115,101]⟩ l.out.1 (by omega) (by rfl) (by decide);have m:=hd2 (show zm G w.heap.size cb 11 from H.out.1) (jo l.out.2 (jcd _) H.out.2 l.out.2.size);replace aa:(Instr.mapUpdate 55 (.map (some w.heap.size)) (.string ⟨#[108,111,115,101]⟩) (.func (.func 56) #[PP cb] #[])).run prog F=.ok () G:=aa;clear H l;obtain⟨I,ab,H⟩:=zm.put 11 ⟨#[109,97,110,121]⟩ m.out.1 (by omega) (by rfl) (by decide);have o:=hd2 (show zm I w.heap.size cb 12 from H.out.1) (jo m.out.2 (jcd _) H.out.2 m.out.2.size);replace ab:(Instr.mapUpdate 55 (.map (some w.heap.size)) (.string ⟨#[109,97,110,121]⟩) (.func (.func 57) #[PP cb] #[])).run prog G=.ok () I:=ab
 clear H m;obtain⟨J,ac,H⟩:=zm.put 12 ⟨#[109,111,118,101]⟩ o.out.1 (by omega) (by rfl) (by decide);have p:=hd2 (show zm J w.heap.size cb 13 from H.out.1) (jo o.out.2 (jcd _) H.out.2 o.out.2.size);replace ac:(Instr.mapUpdate 55 (.map (some w.heap.size)) (.string ⟨#[109,111,118,101]⟩) (.func (.func 58) #[PP cb] #[])).run prog I=.ok () J:=ac;clear H o;obtain⟨K,ad,H⟩:=zm.put 13 ⟨#[114,101,97,100]⟩ p.out.1 (by omega) (by rfl) (by decide);have q:=hd2 (show zm K w.heap.size cb 14 from H.out.1) (jo p.out.2 (jcd _) H.out.2 p.out.2.size);replace ad:(Instr.mapUpdate 55 (.map (some w.heap.size)) (.string ⟨#[114,101,97,100]⟩) (.func (.func 59) #[PP cb] #[])).run prog J=.ok () K:=ad;clear H p;obtain⟨L,ae,H⟩:=zm.put 14 ⟨#[115,105,116,101]⟩ q.out.1 (by omega) (by rfl) (by decide);have r:=hd2 (show zm L w.heap.size cb 15 from H.out.1) (jo q.out.2 (jcd _) H.out.2 q.out.2.size);replace ae:(Instr.mapUpdate 55 (.map (some w.heap.size)) (.string ⟨#[115,105,116,101]⟩) (.func (.func 60) #[PP cb] #[])).run prog K=.ok () L:=ae;clear H q;obtain⟨M,af,H⟩:=zm.put 15 ⟨#[115,119,101,101,112]⟩ r.out.1 (by omega) (by rfl) (by decide);have s:=hd2 (show zm M w.heap.size cb 16 from H.out.1) (jo r.out.2 (jcd _) H.out.2 r.out.2.size);replace af:(Instr.mapUpdate 55 (.map (some w.heap.size)) (.string ⟨#[115,119,101,101,112]⟩) (.func (.func 61) #[PP cb] #[])).run prog L=.ok () M:=af;clear H r;obtain⟨N,ag,H⟩:=zm.put 16 ⟨#[116,119,105,99,101]⟩ s.out.1 (by omega) (by rfl) (by decide);have t:=hd2 (show zm N w.heap.size cb 17 from H.out.1) (jo s.out.2 (jcd _) H.out.2 s.out.2.size);replace ag:(Instr.mapUpdate 55 (.map (some w.heap.size)) (.string ⟨#[116,119,105,99,101]⟩) (.func (.func 62) #[PP cb] #[])).run prog M=.ok () N:=ag;clear H s;obtain⟨O,ah,H⟩:=zm.put 17 ⟨#[119,111,114,108,100]⟩ t.out.1 (by omega) (by rfl) (by decide);have u:=hd2 (show zm O w.heap.size cb 18 from H.out.1) (jo t.out.2 (jcd _) H.out.2 t.out.2.size);replace ah:(Instr.mapUpdate 55 (.map (some w.heap.size)) (.string ⟨#[119,111,114,108,100]⟩) (.func (.func 63) #[PP cb] #[])).run prog N=.ok () O:=ah
 clear H t;obtain⟨ai,aj,H⟩:=zm.put 18 ⟨#[119,114,105,116,101]⟩ u.out.1 (by omega) (by rfl) (by decide);have ak:=hd2 (show zm ai w.heap.size cb 19 from H.out.1) (jo u.out.2 (jcd _) H.out.2 u.out.2.size);replace aj:(Instr.mapUpdate 55 (.map (some w.heap.size)) (.string ⟨#[119,114,105,116,101]⟩) (.func (.func 64) #[PP cb] #[])).run prog O=.ok () ai:=aj;clear H u;have al:=@run_makeMap prog;go_enter func19,ntmps19
 go_wp2
 go_ret;exact⟨rfl,ak.out.1,ak.out.2⟩
end
section
open Go.RowKit Go.Maps
def qb8:List (List UInt8):=[[99],[115,115],[99],[],[99],[99],[105],[99,110],[115,110],[],[105],[],[99,115],[99,110],[115],[115],[105],[110,110],[99,110,119]]
def qx (i:Nat):List UInt8:=qb8.getD i []
def qe2:DataW Unit:=.map ((qc9.zip qb8).map λx=>(.string x.1,.lit (.string x.2)))
def qsf (w:World) (bm:Nat):Prop:=w.ownsMap Tryz.prog 9 (plainElem Tryz.prog 9) bm 19 qe2
theorem qsf.kept {w w':World} {bm:Nat} (h:qsf w bm) (e:w'.heap[bm]?=w.heap[bm]?):qsf w' bm:=by
 obtain⟨a,b,c,r⟩:=h;exact⟨a,b,by rw[e];exact c,r⟩
theorem qwp (w:World):(zeroValue 9).run Tryz.prog w=.ok (.string ⟨#[]⟩) w:=by kernel_rfl
theorem qun:∀i,i<19->qe2.atKey (.string (qn i)) .nil=.lit (.string (qx i))
 |0,_=>rfl|1,_=>rfl|2,_=>rfl|3,_=>rfl|4,_=>rfl|5,_=>rfl|6,_=>rfl|7,_=>rfl|8,_=>rfl|9,_=>rfl
 |10,_=>rfl|11,_=>rfl|12,_=>rfl|13,_=>rfl|14,_=>rfl|15,_=>rfl|16,_=>rfl|17,_=>rfl|18,_=>rfl
 |n+19,h=>absurd h (by omega)
theorem q67 {s:List UInt8} (h:∀i,i<19->s≠qn i):qe2.atKey (.string s) .nil=.nil:=by
 have q:((qc9.zip qb8).map λx=>((.string x.1,.lit (.string x.2)):Lit×DataW Unit)).find? (λp=>p.1.sameKey (.string s))=none:=by
  rw[List.find?_eq_none];intro x a;obtain⟨y,b,rfl⟩:=jcz.1 a;obtain⟨i,hi,e⟩:=jdm.1 (List.of_mem_zip b).1;have:=h i hi
  have c:qn i=y.1:=by unfold qn;rw[jdp,jcg hi];exact e
  rw[c]at this;simp[Lit.sameKey,Ne.symm this]
 unfold qe2 DataW.atKey
 dsimp only
 rw[q]
theorem qon {v:Value} {y:DataW Unit×List MemPlace} (h:plainElem Tryz.prog 9 v=some y):∃s:ByteArray,v=.string s/\y.1=.lit (.string s.data.toList):=by
 unfold plainElem at h;rw[Tryz.underlying9]at h
 cases v<;>simp at h
 rename_i s;exact⟨s,rfl,by rw[<-h.2]⟩
theorem qsf.held {w:World} {bm:Nat} (h:qsf w bm) {s:ByteArray} {i:Nat} (d:s.size<=maxLen) (hi:i<19) (b:s.data.toList=qn i):(Instr.lookup 92 (.map (some bm)) (.string s) true).run Tryz.prog w=.ok (.tuple #[.string (bya (qx i)),.bool true]) w:=by
 obtain⟨l,m,f,F,_,e⟩:=h;have key:=qps d;rcases Maps.fit_look true qhg Tryz.underlying92 (qwp w) f F key with ⟨c,_,a⟩|⟨n,y,_,_,c,g,a,_⟩
 ·have:=a .nil;rw[<-e,b,qun i hi]at this;cases this
 have:=a .nil;rw[<-e,b,qun i hi]at this;obtain⟨z,j,k⟩:=qon g;rw[k]at this;injection this with this;injection this with this;rw[c,j,if_pos rfl,this]
theorem qsf.lacks {w:World} {bm:Nat} (h:qsf w bm) {s:ByteArray} (c:s.size<=maxLen) (d:∀i,i<19->s.data.toList≠qn i):(Instr.lookup 92 (.map (some bm)) (.string s) true).run Tryz.prog w=.ok (.tuple #[.string ⟨#[]⟩,.bool false]) w:=by
 obtain⟨k,l,f,F,_,e⟩:=h;have key:=qps c;rcases Maps.fit_look true qhg Tryz.underlying92 (qwp w) f F key with ⟨a,_,b⟩|⟨m,y,_,_,a,g,b,_⟩
 ·exact a
 have:=b .nil;rw[<-e,q67 d]at this;obtain⟨z,n,j⟩:=qon g;rw[j]at this;cases this
end
def qaq:List UInt8->List ByteArray->Option (List Int)
 |[],[]=>some []
 |c::f,s::l=>if c=119 then qaq f l else match qbw s with
  |none=>none
  |some v=>match qaq f l with
   |none=>none
   |some r=>some (v::r)
 |_,_=>none
theorem qm4:∀{f1:List UInt8} {l1:List ByteArray} (d:List UInt8) (g:List ByteArray),f1.length=l1.length->qaq (f1++d) (l1++g)=(match qaq f1 l1 with|none=>none|some a=>match qaq d g with|none=>none|some b=>some (a++b))
 |[],[],d,g,_=>by
  simp only[jda,qaq]
  cases qaq d g<;>rfl
 |[],_::_,_,_,h=>by simp at h
 |_::_,[],_,_,h=>by simp at h
 |c::f,s::l,d,g,h=>by
  have i:=qm4 (f1:=f) (l1:=l) d g (by simpa using h);simp only[jdj,qaq];by_cases e:c=119
  ·rw[if_pos e,if_pos e,i]
  rw[if_neg e,if_neg e];cases qbw s with
  |none=>rfl
  |some v=>
   simp only;rw[i];cases qaq f l with
   |none=>rfl
   |some a=>
    simp only
    cases qaq d g<;>rfl
theorem qd0:∀{f:List UInt8} {l:List ByteArray} {ns:List Int},qaq f l=some ns->qhk f=ns.length
 |[],[],ns,h=>by simp only[qaq]at h;injection h with h;subst h;rfl
 |[],_::_,ns,h=>by simp[qaq]at h
 |_::_,[],ns,h=>by simp[qaq]at h
 |c::f,s::l,ns,h=>by
  simp only[qaq]at h;by_cases e:c=119
  ·rw[if_pos e]at h;rw[q54 e];exact qd0 h
  rw[if_neg e]at h;rw[qxs e];cases hv:qbw s with
  |none=>rw[hv]at h;cases h
  |some v=>
   rw[hv]at h;simp only at h;cases hr:qaq f l with
   |none=>rw[hr]at h;cases h
   |some r=>
    rw[hr]at h;injection h with h;subst h;rw[qd0 hr];rfl
theorem qxn {f:List UInt8} {l:List ByteArray} {k:Nat} {a:List Int} (b:f.length=l.length) (c:k<l.length) (h:qaq (f.take k) (l.take k)=some a):
 qaq (f.take (k+1)) (l.take (k+1))=if f[k]'(by omega)=119 then some a else match qbw l[k]with
  |none=>none
  |some v=>some (a++[v]):=by
 have d:f.take (k+1)=f.take k++[f[k]'(by omega)]:=by rw[jc1 (by omega)]
 have g:l.take (k+1)=l.take k++[l[k]]:=by rw[jc1 c]
 rw[d,g,qm4 _ _ (by rw[jc5,jc5,b]),h];simp only[qaq];by_cases e:f[k]'(by omega)=119
 ·rw[if_pos e,if_pos e];simp
 rw[if_neg e,if_neg e]
 cases qbw l[k]<;>rfl
theorem q19 {f:List UInt8} {l:List ByteArray} {k:Nat} (a:f.length=l.length) (h:qaq (f.take k) (l.take k)=none):qaq f l=none:=by
 have:=qm4 (f1:=f.take k) (l1:=l.take k) (f.drop k) (l.drop k) (by rw[jc5,jc5,a]);rw[jds,jds,h]at this;exact this
theorem qzg {p:Nat->Prop} (a:p 0) (b:p 1) (c:p 2) (d:p 3) (e:p 4) (f:p 5) (g:p 6) (j:p 7) (k:p 8) (l:p 9) (m:p 10) (o:p 11) (q:p 12) (r:p 13) (s:p 14) (t:p 15) (u:p 16) (v:p 17) (w:p 18):∀i,i<19->p i
 |0,_=>a|1,_=>b|2,_=>c|3,_=>d|4,_=>e|5,_=>f|6,_=>g|7,_=>j|8,_=>k|9,_=>l
 |10,_=>m|11,_=>o|12,_=>q|13,_=>r|14,_=>s|15,_=>t|16,_=>u|17,_=>v|18,_=>w
 |n+19,h=>absurd h (by omega)
def qeb (i:Nat) (rest:List ByteArray):Option (List Int):=if i=18 then (if rest.length=3 then ju 2 (rest.take 2)else none)else ju (qqi i) rest
theorem q0d:∀i,i<19->∀rest,qeb i rest=if rest.length=(qx i).length then qaq (qx i) rest else none:=by
 refine qzg ?_ ?_ ?_ ?_ ?_ ?_ ?_ ?_ ?_ ?_ ?_ ?_ ?_ ?_ ?_ ?_ ?_ ?_ ?_
 all_goals
  intro rest;rcases rest with _|⟨x,_|⟨y,_|⟨z,_|⟨u,r⟩⟩⟩⟩
  all_goals first
   |rfl
   |(simp[qeb,ju,qqi,qx,qb8,qaq,qb0];done)
theorem qc2.no {i:Nat} {W:WoS} {rest:List ByteArray} (h:qeb i rest=none):qc2 i W rest W 3 []:=by
 unfold qc2;unfold qeb at h;rw[h];exact⟨rfl,rfl,rfl⟩
theorem qc2.yes {i:Nat} {W W':WoS} {rest:List ByteArray} {ns:List Int} {er:Int} {t:List UInt8} (h:qeb i rest=some ns) (a:qaa i W ns (rest.getD 2 ⟨#[]⟩) W' er t):qc2 i W rest W' er t:=by
 unfold qc2;unfold qeb at h;rw[h];exact a
theorem q1x {W:WoS} {d:ByteArray}:∀i,i<19->∀ns,qhk (qx i)=ns.length->thB W (qx i) ns=false->∃t,qaa i W ns d W 2 t:=by
 have a:∀(n:Int) (c:Nat),inB n 0 ((c:Int)-1)=false->¬ye n c:=λn c h q=>by
  have:=q.1;have:=q.2;simp[inB]at h;omega
 have b:∀(n:Int) (c:Nat),ye n c->inB n 0 ((c:Int)-1)=true:=λn c q=>by
  have:=q.1;have:=q.2;simp[inB];omega
 refine qzg ?_ ?_ ?_ ?_ ?_ ?_ ?_ ?_ ?_ ?_ ?_ ?_ ?_ ?_ ?_ ?_ ?_ ?_ ?_
 all_goals
  intro ns f h;rcases ns with _|⟨x,_|⟨y,_|⟨z,r⟩⟩⟩
  all_goals first
   |(simp[qx,qb8,qhk]at f;done)
   |(simp[qx,qb8,thB,thC]at h;done)
   |skip
 all_goals
  simp[qx,qb8,thB,thC]at h
  first
   |exact⟨qn _,rfl,by rw[if_neg (λe=>by first|exact a _ _ h e|exact a _ _ h e.1|exact a _ _ (h (b _ _ e.1)) e.2.1|exact a _ _ (h (b _ _ e.1)) e.2)];exact⟨rfl,rfl⟩⟩
   |exact⟨[],rfl,by rw[if_neg (λe=>by first|exact a _ _ h e|exact a _ _ h e.1|exact a _ _ (h (b _ _ e.1)) e.2.1|exact a _ _ (h (b _ _ e.1)) e.2)];exact⟨rfl,rfl⟩⟩
   |exact⟨[],by show (if ye x W.c then ([]:List UInt8)=qgx W x.toNat/\W=wcW W x.toNat/\(2:Int)=wcE W x.toNat else ([]:List UInt8)=[]/\W=W/\(2:Int)=2);rw[if_neg (λe=>by first|exact a _ _ h e|exact a _ _ h e.1|exact a _ _ (h (b _ _ e.1)) e.2.1|exact a _ _ (h (b _ _ e.1)) e.2)];exact⟨rfl,rfl,rfl⟩⟩
section
open Go.RowKit
structure qgm (w:World) (n0 hb b:Nat) (Gw G:Nat->Prop) (W:WoS) (j:Nat) (a:Option Addr) (cap:Nat) (l:List ByteArray):Prop where
 hs:qhp w hb b Gw W
 g:∀k,G k↔(k=hb\/Gw k)
 gl:Gl w
 fm:∃bm,w.cell? (AD 0 0)=some (.map (some bm))/\qsf w bm/\bm<n0
 nn:10<=n0/\n0<=w.heap.size
 gn:∀k,k<n0->¬G k
 wi:PlI j W
 di:DkI W
 st:qfj w a cap l
 sm:∀x∈l,x.size<=1000000
 sn:∀bk o,a=some (AD bk o)->¬G bk
 jl:j<=1000000
def RDo (i:Nat) (W:WoS) (l:List ByteArray) (er:Int) (told:List UInt8) (w:World) (hb:Nat) (G:Nat->Prop) (w':World):Prop:=∃W' t,qc2 i W l W' er t/\(er=0->told=t)/\qbi (hsP hb W') w G w'
def vl (i:Nat) (W:WoS) (l:List ByteArray) (w:World) (hb:Nat) (G:Nat->Prop) (e:Ending) (w':World):Prop:=
 ∃told er,e=.returned (.tuple #[.string (bya told),U er])/\RDo i W l er told w hb G w'
theorem qzb:∀i,i<19->(qx i).length<=3:=qzg (by decide) (by decide) (by decide) (by decide) (by decide) (by decide) (by decide) (by decide) (by decide) (by decide) (by decide) (by decide) (by decide) (by decide) (by decide) (by decide) (by decide) (by decide) (by decide)
theorem qy4:∀i,i<19->(bya (qn i)).size<=maxLen:=qzg (by decide) (by decide) (by decide) (by decide) (by decide) (by decide) (by decide) (by decide) (by decide) (by decide) (by decide) (by decide) (by decide) (by decide) (by decide) (by decide) (by decide) (by decide) (by decide)
theorem qyi:∀i,i<19->∀c∈qx i,c.toNat<128:=qzg (by decide) (by decide) (by decide) (by decide) (by decide) (by decide) (by decide) (by decide) (by decide) (by decide) (by decide) (by decide) (by decide) (by decide) (by decide) (by decide) (by decide) (by decide) (by decide)
variable {w:World} {ns:List Int}
theorem q97 {B:Nat} {v:Value} (h:w.ownsRow B 3 1 v ns.length (qec ns)):∃a cap,v=.slice a ns.length cap/\ns.length<=cap/\∀(j:Nat) x,ns[j]?=some x->∃g,a=some (AD g 0)/\B<=g/\g<w.heap.size/\w.cell? (AD g j)=some (U x):=by
 by_cases e:ns=[]
 ·subst e;rcases h.2 with ⟨c,_⟩|⟨g,cap,cur,c,_⟩
  ·exact⟨none,0,c,jcd _,λj x d=>by simp at d⟩
  exact⟨_,cap,c,jcw _,λj x d=>by simp at d⟩
 have k:0<ns.length:=List.length_pos_iff.2 e;obtain⟨f,m,rfl,n,o⟩:=h.form k;have p:=h.cells (g:=f) rfl;refine⟨_,m,rfl,?_,λj x d=>⟨f,rfl,n,o,?_⟩⟩
 ·rcases h.2 with ⟨h,_⟩|⟨g',s,cur,c,_,_,q,_⟩
  ·cases h
  cases c;exact q
 have:=p j (U x) (by unfold qec;rw[jcv,d];rfl);rcases Nat.eq_zero_or_pos j with rfl|r
 ·simpa[Addr.add]using this
 simpa[Addr.add,Nat.ne_of_gt r]using this
def qa3 (i hb:Nat) (a:Option Addr) (m cap:Nat) (na:Option Addr) (nn nc b:Nat) (u:Nat->Value):Array Value:=
 List.toArray (.pointer (PT hb)::.string (bya (qn i))::.slice a m cap::u 3::u 4::u 5::u 6::u 7::u 8::u 9::.slice na nn nc::u 11::u 12::u 13::u 14::PP b::u 16::u 17::u 18::u 19::u 20::u 21::u 22::u 23::u 24::u 25::u 26::u 27::u 28::u 29::u 30::u 31::u 32::u 33::u 34::u 35::u 36::u 37::u 38::u 39::u 40::u 41::u 42::u 43::u 44::u 45::u 46::u 47::u 48::u 49::u 50::u 51::u 52::u 53::u 54::u 55::u 56::u 57::u 58::u 59::u 60::u 61::u 62::u 63::u 64::u 65::u 66::u 67::u 68::u 69::u 70::u 71::u 72::u 73::u 74::u 75::u 76::u 77::u 78::u 79::u 80::u 81::u 82::u 83::u 84::u 85::u 86::undef::undef::undef::undef::undef::undef::undef::undef::undef::undef::undef::undef::undef::undef::undef::undef::undef::undef::undef::undef::undef::undef::undef::undef::undef::undef::undef::undef::undef::undef::undef::undef::undef::undef::undef::undef::undef::undef::undef::undef::undef::undef::undef::undef::undef::undef::undef::undef::undef::undef::undef::undef::undef::undef::undef::undef::undef::undef::undef::undef::undef::undef::undef::undef::undef::undef::undef::undef::undef::undef::undef::undef::undef::undef::undef::undef::undef::undef::undef::undef::undef::undef::undef::undef::undef::undef::undef::undef::undef::undef::undef::undef::undef::undef::undef::undef::undef::undef::undef::undef::undef::undef::undef::undef::undef::undef::undef::undef::undef::undef::undef::undef::undef::undef::undef::undef::undef::undef::undef::undef::undef::undef::undef::undef::undef::undef::undef::undef::undef::undef::undef::undef::undef::undef::undef::undef::undef::undef::undef::undef::undef::undef::undef::undef::undef::undef::undef::undef::undef::undef::undef::undef::undef::undef::undef::undef::undef::undef::undef::undef::undef::undef::undef::undef::undef::undef::undef::undef::undef::undef::undef::undef::undef::undef::undef::undef::undef::undef::undef::undef::undef::undef::undef::undef::undef::undef::undef::undef::undef::undef::undef::undef::undef::undef::undef::undef::undef::undef::undef::undef::undef::undef::undef::undef::undef::undef::undef::undef::undef::undef::undef::undef::undef::undef::undef::undef::undef::undef::undef::undef::undef::undef::undef::undef::undef::undef::undef::undef::undef::undef::undef::undef::undef::undef::undef::undef::undef::undef::undef::undef::undef::undef::undef::undef::undef::undef::undef::undef::undef::undef::undef::undef::undef::undef::undef::undef::undef::undef::undef::undef::undef::undef::undef::undef::undef::undef::undef::undef::undef::undef::undef::undef::undef::undef::undef::undef::undef::undef::undef::undef::undef::undef::undef::undef::undef::undef::undef::undef::undef::undef::undef::undef::undef::undef::undef::undef::undef::undef::undef::undef::undef::undef::undef::undef::undef::undef::undef::undef::undef::undef::undef::undef::undef::undef::undef::undef::undef::undef::undef::undef::undef::undef::undef::undef::undef::undef::undef::undef::undef::undef::undef::undef::undef::undef::undef::undef::undef::undef::undef::undef::undef::undef::undef::undef::undef::undef::undef::undef::undef::undef::undef::undef::undef::undef::undef::undef::undef::undef::undef::undef::undef::undef::undef::undef::undef::undef::undef::undef::undef::undef::undef::undef::undef::undef::undef::undef::undef::undef::undef::undef::undef::undef::[])
noncomputable def q53:Code:=(qfe 17 (Tryz.f16.body.getD .skip)).getD .skip
def yt (i:Nat):Prop:=∀{w w2:World} {n0 hb b j cap nc:Nat} {Gw G:Nat->Prop} {W:WoS} {a na:Option Addr} {l:List ByteArray} {ns:List Int} (u:Nat->Value),qgm w n0 hb b Gw G W j a cap l->qeb i l=some ns->qhk (qx i)=ns.length->thB W (qx i) ns=true->(i=1->∀x y,ns=[x,y]->x≠y)->qx9 w2 w.heap.size na nc ns->Bw w w2->
 Code.wp Tryz.prog q53 (bodyPost Tryz.prog Tryz.f16 (vl i W l w hb G)) ⟨qa3 i hb a l.length cap na ns.length nc b u,[]⟩ w2
theorem q9b:∀i,i<19->i≠1->(qn i==[97,115,107])=false:=qzg (by decide) (by decide) (by decide) (by decide) (by decide) (by decide) (by decide) (by decide) (by decide) (by decide) (by decide) (by decide) (by decide) (by decide) (by decide) (by decide) (by decide) (by decide) (by decide)
variable {l:List ByteArray}
theorem q3b {n0 hb b j i cap:Nat} {Gw G:Nat->Prop} {W:WoS} {a:Option Addr} (hi:i<19) (ARM:yt i) (h:qgm w n0 hb b Gw G W j a cap l):
 Ca 16 #[PP hb,.string (bya (qn i)),.slice a l.length cap] w (vl i W l w hb G):=by
 obtain⟨bm,cf,fm,_⟩:=h.fm;have LK:=fm.held (s:=bya (qn i)) (qy4 i hi) hi rfl;have HARM:Hid (yt i):=@ARM;have o:Hid (qgm w n0 hb b Gw G W j a cap l):=h;clear h fm ARM;by_cases O:l.length=(qx i).length
 ·obtain⟨i0,hinf,hz0,hz1,hz2⟩:=info_parts q0l;have hf3:(qx i).length<=3:=qzb i hi
  have hdo:qeb i l=qaq (qx i) l:=by rw[q0d i hi,if_pos O]
  have E:Hid (i<19/\qeb i l=qaq (qx i) l):=⟨hi,hdo⟩
  have hl1:((qx i).length:Int)=l.length:=by omega
  have P:Hid (l.length=(qx i).length):=O;clear hdo hi O;go_enter Tryz.func16,Tryz.ntmps16
  go_wp2
  clear LK cf hl1
  go_loopw [10,44] (λnv iv wr=>∃(k:Nat) (z:Int) (ns:List Int),k<=l.length/\z=k/\iv=U z/\Hid (qaq ((qx i).take k) (l.take k)=some ns/\wr.ownsRow w.heap.size 3 1 nv ns.length (qec ns)/\Bw w wr)) (λ_ iv _=>l.length-(intOf iv).toNat)
  case atStart=>exact⟨0,0,[],jcw _,rfl,rfl,by simp[qaq],jcx w _ _ _,jcc _ _⟩
  obtain⟨k,z,ns,hk,T,rfl,B⟩:=hrel;have HZ:Hid (z=k):=T;by_cases Q:k<l.length
  ·have g1:z<(l.length:Int):=by omega
   have g2:0<=z:=by omega
   have g3:z.toNat=k:=by omega
   have g4:z<3:=by have:=P.out;omega
   obtain⟨x,R⟩:∃x,l[k]=x:=⟨_,rfl⟩
   have ac:x∈l:=by rw[<-R];exact jdr Q
   obtain⟨ab,ao,rfl,hab,cx⟩:=o.out.st.cell k x (by rw[jcg Q,R]);have cx2:wr.cell? (AD ab (ao+k))=some (.string x):=(B.out.2.2.cell (p:=AD ab (ao+k)) hab).trans cx;have hcap:=o.out.st.cap
   have hkf:k<(qx i).length:=by have:=P.out;omega
   have hkb:k<(bya (qx i)).size:=by rw[Lib.size_eq];exact hkf
   have V:(bya (qx i))[k]'hkb=(qx i)[k]'hkf:=rfl;have H:=qxn P.out.symm Q B.out.1;rw[R]at H;by_cases J:(qx i)[k]'hkf=119
   ·have hq:((((bya (qx i))[k]'hkb).toNat:Int)==119)=true:=by rw[V,J];rfl
    rw[if_pos J]at H;have F:Hid (qaq ((qx i).take (k+1)) (l.take (k+1))=some ns):=H;clear cx T V H J R ac
    go_wp2
    go_roundw
    case rel=>exact⟨k+1,z+1,ns,Q,by have:=HZ.out;omega,by go_num,F.out,B.out.2⟩
    simp[intOf];omega
   have hq:((((bya (qx i))[k]'hkb).toNat:Int)==119)=false:=by
        rw[V];exact beq_false_of_ne (λq=>J (UInt8.toNat.inj (by show (qx i)[k].toNat=119;omega)))
   rw[if_neg J]at H;have NM:=qwe x (o.out.sm x ac) wr (o.out.gl.later B.out.2.2)
   have F:Hid (qaq ((qx i).take (k+1)) (l.take (k+1))=match qbw x with
        |none=>none
        |some v=>some (ns++[v])):=H
   clear cx T V H J R ac
   go_wp2_with fail
   refine NM.mono ?_;rintro e w2 ⟨K,C⟩;have bw2:Bw w w2:=qa B.out.2.2 C;cases X:qbw x with
   |none=>
    rw[X]at K F;have he:e=.returned (.tuple #[U 0,.bool false]):=K;subst he;have D:Hid (vl i W l w hb G (.returned (.tuple #[.string ⟨#[]⟩,U 3])) w2):=⟨[],3,rfl,W,[],qc2.no (by rw[E.out.2];exact q19 P.out.symm F.out),(λh=>by cases h),o.out.hs.same o.out.g bw2⟩;clear K F B NM
    go_wp2
    go_ret2;exact D.out
   |some v=>
    rw[X]at K F;have he:e=.returned (.tuple #[U v,.bool true]):=K;subst he;have bz:=boxed (jcc _ w2) (.cells #[U v] 3);have own2:=qg3 (qg3 B.out.2.1 C) bz
    have hnl:ns.length<=3:=by
     have q1:=qd0 B.out.1
     have q2:∀f:List UInt8,qhk f<=f.length:=λf=>by
         induction f with
         |nil=>exact jcd _
         |cons c r ih=>unfold qhk;split<;>simp only[List.length_cons]<;>omega
     have:=q2 ((qx i).take k);rw[jc5]at this;omega
    have L:Hid (Bw w w2/\ns.length<=3):=⟨bw2,hnl⟩;have HN2:Hid (qaq ((qx i).take (k+1)) (l.take (k+1))=some (ns++[v])):=F.out;clear K F NM bw2 hnl
    go_wp2_with (at_builtin;refine wpList_append_lies _ rfl _ _ 69 rfl w.heap.size 3 i0 (U 0) 1 8 Tryz.underlying69 hinf hz0 hz1 hz2 rfl (by decide) _ _ _ rfl own2 (AD w2.heap.size 0) 1 1 [U v] rfl rfl (World.news_of_block (heap_alloc_new w2 (.cells #[U v] 3))) ?c2 (by decide) ?c3 ?c4 ?c5 _ rfl ?_)
    case c2=>intro u hu;simp at hu;subst hu;rfl
    case c3=>have:=L.out.2;unfold maxLen;omega
    case c4=>have:=L.out.2;omega
    case c5=>have:=L.out.1.size;simp;omega
    intro gb gc w3 own3 gr3 at3 lt3
    have D:Hid (w3.ownsRow w.heap.size 3 1 (.slice (PT gb) (ns.length+1) gc) (ns++[v]).length (qec (ns++[v]))/\Bw w w3):=by
     refine⟨by simpa[qec]using own3,?_⟩;exact(L.out.1.alloc L.out.1.size _).grown gr3 (by have:=L.out.1.size;simp;omega) (λq e=>(own2.lt q e).1)
    clear own3 gr3 at3 lt3 own2 bz C B
    go_wp2
    go_roundw
    case rel=>exact⟨k+1,z+1,ns++[v],Q,by have:=HZ.out;omega,by go_num,HN2.out,D.out⟩
    simp[intOf];omega
  have g1:¬z<(l.length:Int):=by omega
  have hkl:k=l.length:=by omega
  have hw0:=o.out.wi.wf;have hsr:=o.out.hs.later B.out.2.2
  have hns:qaq (qx i) l=some ns:=by
   have:=B.out.1;rw[hkl,jc9,P.out,jc9]at this;exact this
  obtain⟨na,nc,e10,hnc,hcells⟩:=q97 B.out.2.1;have hN:qx9 wr w.heap.size na nc ns:=⟨hnc,hcells⟩;have c0:=hsr.cell;have m:Hid (qaq (qx i) l=some ns/\qx9 wr w.heap.size na nc ns/\qhp wr hb b Gw W/\Bw w wr):=⟨hns,hN,hsr,B.out.2.2⟩;subst e10;clear B hsr hN hns hcells T hw0;have hne:=qb.one
  have Y:∀(x:qb wr) (v:Bool),thB W (qx i) ns=v->Ca 30 #[PP hb,.string (bya (qx i)),.slice na ns.length nc] x.val λe w'=>e=.returned (.bool v)/\Below x.val.heap.size x.val w':=λx v X=>by
   have:=qxb (qx i) ns hf3 (qyi i E.out.1) (qd0 m.out.1) x.val (m.out.2.2.1.later x.below) o.out.wi.wf (m.out.2.1.later x.below)
   rwa [X]at this
  cases hth:thB W (qx i) ns with
  |false=>
   have I:=λx:qb wr=>Y x false hth;have M:Hid (thB W (qx i) ns=false):=hth;clear hth Y
   go_upto_region 15 with fail
   refine wrl ?_
   repeat (go_big_quiet_step (first|rfl|(go_at_call 30;with_reducible exact qg (I _))))
   refine wpQuiet_nil ?_;rintro w2 ⟨⟨_,C⟩,rfl⟩
   have D:Hid (vl i W l w hb G (.returned (.tuple #[.string ⟨#[]⟩,U 2])) w2):=by
        obtain⟨t,hc⟩:=q1x (W:=W) (d:=l.getD 2 ⟨#[]⟩) i E.out.1 ns (qd0 m.out.1) M.out;exact⟨[],2,rfl,W,t,qc2.yes (E.out.2.trans m.out.1) hc,(λh=>by cases h),o.out.hs.same o.out.g (qa m.out.2.2.2 C)⟩
   clear I M
   go_wp2
   go_ret2;exact D.out
  |true=>
   have I:=λx:qb wr=>Y x true hth;have M:Hid (thB W (qx i) ns=true):=hth;clear hth Y;by_cases Z:i=1
   ·subst Z;have aa:=qd0 m.out.1
    obtain⟨x,y,rfl⟩:∃x y,ns=[x,y]:=by
     rcases ns with _|⟨x,_|⟨y,_|⟨z,r⟩⟩⟩
     ·simp[qx,qb8,qhk]at aa
     ·simp[qx,qb8,qhk]at aa
     ·exact⟨x,y,rfl⟩
     simp[qx,qb8,qhk]at aa
    obtain⟨g,rfl,_,hgl,q0⟩:=m.out.2.1.cell 0 x rfl;obtain⟨g',S,_,_,q1⟩:=m.out.2.1.cell 1 y rfl;injection S with S;injection S with S;subst S;have c1:=qb.cell q0;have c2:=qb.cell q1;have hnc:=m.out.2.1.cap
    have hq1:(qn 1==[97,115,107])=true:=by decide
    clear q0 q1 aa;by_cases N:x=y
    ·have hxy2:(x==y)=true:=by simp[N]
     have HXY:Hid (x=y):=N;clear N
     go_upto_region 15 with fail
     refine wrl ?_
     repeat (go_big_quiet_step (first|rfl|(go_at_call 30;with_reducible exact qg (I _))))
     refine wpQuiet_nil ?_;rintro w2 ⟨⟨_,C⟩,rfl⟩
     have D:Hid (vl 1 W l w hb G (.returned (.tuple #[.string ⟨#[]⟩,U 2])) w2):=
         ⟨[],2,rfl,W,qn 1,qc2.yes (E.out.2.trans m.out.1) ⟨rfl,by rw[if_neg (λe=>e.2.2 HXY.out)];exact⟨rfl,rfl⟩⟩,(λh=>by cases h),o.out.hs.same o.out.g (qa m.out.2.2.2 C)⟩
     clear I M
     go_wp2
     go_ret2;exact D.out
    have hxy2:(x==y)=false:=by simp[N]
    have HXY:Hid (x≠y):=N;clear N
    go_upto_region 15 with fail
    refine wrl ?_
    repeat (go_big_quiet_step (first|rfl|(go_at_call 30;with_reducible exact qg (I _))))
    refine wpQuiet_nil ?_;rintro w2 ⟨⟨_,C⟩,rfl⟩
    iterate 6 go_step
    exact HARM.out (λn=>List.getD [undef,undef,undef,_,_,_,_,_,_,_,undef,_,_,_,_,undef,_,_,_,_,_,_,_,_,_,_,_,_,_,_,_,_,_,_,_,_,_,_,_,_,_,_,_,_,_,_,_,_,_,_,_,_,_,_,_,_,_,_,_,_,_,_,_,_,_,_,_,_,_,_,_,_,_,_,_,_,_,_,_,_,_,_,_,_,_,_,_] n undef) o.out (E.out.2.trans m.out.1) (qd0 m.out.1) M.out (λ_ p q e=>by injection e with e1 e2;injection e2 with e2;rw[<-e1,<-e2];exact HXY.out) (m.out.2.1.later C) (qa m.out.2.2.2 C)
   have hq1:=q9b i E.out.1 Z;have HI1:Hid (i≠1):=Z;clear Z
   go_upto_region 15 with fail
   refine wrl ?_
   repeat (go_big_quiet_step (first|rfl|(go_at_call 30;with_reducible exact qg (I _))))
   refine wpQuiet_nil ?_;rintro w2 ⟨⟨_,C⟩,rfl⟩
   iterate 6 go_step
   exact HARM.out (λn=>List.getD [undef,undef,undef,_,_,_,_,_,_,_,undef,_,_,_,_,undef,_,_,_,_,_,_,_,_,_,_,_,_,_,_,_,_,_,_,_,_,_,_,_,_,_,_,_,_,_,_,_,_,_,_,_,_,_,_,_,_,_,_,_,_,_,_,_,_,_,_,_,_,_,_,_,_,_,_,_,_,_,_,_,_,_,_,_,_,_,_,_] n undef) o.out (E.out.2.trans m.out.1) (qd0 m.out.1) M.out (λe=>absurd e HI1.out) (m.out.2.1.later C) (qa m.out.2.2.2 C)
 have D:Hid (vl i W l w hb G (.returned (.tuple #[.string ⟨#[]⟩,U 3])) w):=⟨[],3,rfl,W,[],qc2.no (by rw[q0d i hi,if_neg O]),(λh=>by cases h),o.out.hs.same o.out.g (jcc _ _)⟩
 have hl2:¬((qx i).length:Int)=l.length:=by omega
 clear O;go_enter Tryz.func16,Tryz.ntmps16
 go_wp2
 go_ret2;exact D.out
theorem qsd (h:0=ns.length):ns=[]:=List.length_eq_zero_iff.1 h.symm
theorem qit (h:1=ns.length):∃x,ns=[x]:=by
 rcases ns with _|⟨x,_|⟨y,r⟩⟩
 ·simp at h
 ·exact⟨x,rfl⟩
 simp at h
theorem qk0 (h:2=ns.length):∃x y,ns=[x,y]:=by
 rcases ns with _|⟨x,_|⟨y,_|⟨z,r⟩⟩⟩
 ·simp at h
 ·simp at h
 ·exact⟨x,y,rfl⟩
 simp at h
theorem qac {x:Int} {c:Nat} (h:inB x 0 ((c:Int)-1)=true):∃k:Nat,x=k/\k<c/\ye x c/\x.toNat=k:=by
 simp[inB]at h;exact⟨x.toNat,by omega,by omega,⟨by omega,by omega⟩,rfl⟩
section
variable {w w2 w3 w4:World} {n0 hb b j i cap:Nat} {Gw G:Nat->Prop} {W W':WoS} {a:Option Addr} {l:List ByteArray} {ns:List Int} {er:Int} {t told:List UInt8}
theorem qgm.few {k:Nat} (h:qgm w n0 hb b Gw G W j a cap l) (d:k<W.c):(W.ses k).ws.length<=1000000:=jcn (h.wi.ln k d) h.jl
theorem qgm.fin (h:qgm w n0 hb b Gw G W j a cap l) (c:qeb i l=some ns) (d:Bw w w2) (e:qaa i W ns (l.getD 2 ⟨#[]⟩) W' er t) (f:er=0->told=t) (k:qae w2 b Gw W' w3) (m:Bw w3 w4):vl i W l w hb G (.returned (.tuple #[.string (bya told),U er])) w4:=
 ⟨told,er,rfl,W',t,qc2.yes c e,f,q7n (h.hs.op h.g d k) m⟩
theorem qgm.tell (h:qgm w n0 hb b Gw G W j a cap l) (c:qeb i l=some ns) (d:Bw w w2) (e:qaa i W ns (l.getD 2 ⟨#[]⟩) W er t) (f:er=0->told=t):vl i W l w hb G (.returned (.tuple #[.string (bya told),U er])) w2:=
 ⟨told,er,rfl,W,t,qc2.yes c e,f,h.hs.same h.g d⟩
end
theorem q68 (h:qeb 18 l=some ns):∃x y d,l=[x,y,d]:=by
 unfold qeb at h;rw[if_pos rfl]at h;rcases l with _|⟨x,_|⟨y,_|⟨d,_|⟨z,r⟩⟩⟩⟩
 ·simp at h
 ·simp at h
 ·simp at h
 ·exact⟨x,y,d,rfl⟩
 simp at h
end
section
open Go.RowKit
theorem qzx {w:World} {g c b j cap:Nat} {Gw G:Nat->Prop} {W:WoS} {a:Option Addr} {l:List ByteArray} (h:qgm w g c b Gw G W j a cap l) (s:ByteArray) (k:s.size<=maxLen) (d:∀i,i<19->s.data.toList≠qn i):
 Ca 16 #[PP c,.string s,.slice a l.length cap] w λe w'=>e=.returned (.tuple #[.string ⟨#[]⟩,U 3])/\w'=w:=by
 obtain⟨bm,m,f,_⟩:=h.fm;have n:=f.lacks k d;clear h f d;go_enter Tryz.func16,Tryz.ntmps16
 go_wp2
 go_ret2;exact⟨rfl,rfl⟩
end
section
open Tryz Go.RowKit
variable {f M i:Nat}
section
variable {cb mb b j cap:Nat} {Gw G:Nat->Prop} {W:WoS} {a:Option Addr} {l:List ByteArray}
theorem qka (w:World) (h:vk w cb mb b Gw G W j a cap l) (u:(f,M,i)∈[(46,94,0),(48,98,2),(52,104,6),(56,109,10),(62,116,16),(61,115,15)]) (x:∀(v:Int) d,PW d b Gw W->Ca M #[PP b,U v] d (qgr i W [v] ⟨#[]⟩ d b Gw)):Ca f #[PP cb,.slice a l.length cap] w (jm i W l w cb mb G):=by
 have g:Hid (vk w cb mb b Gw G W j a cap l):=h;have m:=λw' y=>qi1 h.sm w' (h.gl.later (w':=w') y) (h.st.later y);replace m:=m w.drew (jcc _ w).drew;have D:=h.ck.cell0;have E:Hid (∀(v:Int) d,PW d b Gw W->Ca M #[PP b,U v] d (qgr i W [v] ⟨#[]⟩ d b Gw)):=x;clear h x;simp only[jdd,Prod.mk.injEq,List.not_mem_nil,or_false]at u;rcases u with ⟨rfl,rfl,rfl⟩|⟨rfl,rfl,rfl⟩|⟨rfl,rfl,rfl⟩|⟨rfl,rfl,rfl⟩|⟨rfl,rfl,rfl⟩|⟨rfl,rfl,rfl⟩
 all_goals
  first
   |go_enter func46,ntmps46
   |go_enter func48,ntmps48
   |go_enter func52,ntmps52
   |go_enter func56,ntmps56
   |go_enter func62,ntmps62
   |go_enter func61,ntmps61
  go_wp2
  refine wp_region_any (by kernel_rfl) ?_;change wpAny _ _ _ _ _ _ _ (World.drew _);refine wpAny_take (i:=0) (v:=?_) rfl (by kernel_rfl) (by kernel_rfl) (by kernel_rfl) (λ_ _ _ h=>h) (Or.inl ⟨by rfl,?_⟩) ?_
  rotate_left
  ·intro w0;first|(go_simp;done)|(go_simp;with_reducible rfl)
  go_simp
  refine wpAny_take (i:=1) (v:=?_) rfl (by kernel_rfl) (by kernel_rfl) (by kernel_rfl) (λ_ _ _ h=>h) (Or.inl ⟨by rfl,?_⟩) ?_
  rotate_left
  ·intro w0;first|(go_simp;done)|(go_simp;with_reducible rfl)
  go_simp
  refine wpAny_take (i:=2) (v:=?_) rfl (by kernel_rfl) (by kernel_rfl) (by kernel_rfl) (λ_ _ _ h=>h) (Or.inl ⟨by rfl,?_⟩) ?_
  rotate_left
  ·intro w0;first|(go_simp;done)|(go_simp;with_reducible rfl)
  go_simp
  refine wpAny_take (i:=4) (v:=?_) rfl (by kernel_rfl) (by kernel_rfl) (by kernel_rfl) (λ_ _ _ h=>h) (Or.inl ⟨by rfl,?_⟩) ?_
  rotate_left
  ·intro w0;first|(go_simp;done)|(go_simp;with_reducible rfl)
  go_simp
  refine wpAny_ready (rs:=[3,5]) (by kernel_rfl) (by simp) ?_;refine AllReady.cons rfl (λK c=>?_) (AllReady.cons rfl (λK c=>?_) AllReady.nil)
  dsimp only[List.getElem_toArray,List.getElem_cons_succ,List.getElem_cons_zero]
  go_simp
  refine c _ _ ?_;clear c K;refine wpAny_ready (rs:=[5]) (by kernel_rfl) (by simp) ?_;refine AllReady.cons rfl (λK c=>?_) AllReady.nil
  dsimp only[List.getElem_toArray,List.getElem_cons_succ,List.getElem_cons_zero]
  rw[if_pos (by rfl)];refine qbu 95 #[.slice a l.length cap] (by go_simp) m ?_;rintro e d ⟨n,(⟨v,k,rfl⟩|⟨k,rfl⟩)⟩
  rotate_left
  ·exact .inr ⟨_,rfl,rfl,g.out.no (by decide) k.out (qa (jcc _ w).drew n)⟩
  dsimp only[List.getElem_toArray,List.getElem_cons_succ,List.getElem_cons_zero]
  rw[if_pos (by rfl)];refine qbu 95 #[.slice a l.length cap] (by go_simp) m ?_;rintro e d ⟨n,(⟨v,k,rfl⟩|⟨k,rfl⟩)⟩
  rotate_left
  ·exact .inr ⟨_,rfl,rfl,g.out.no (by decide) k.out (qa (jcc _ w).drew n)⟩
  all_goals
   have o:=qa (jcc _ w).drew n;have F:=(g.out.ck.later o).cell0;have z:=E.out v d (g.out.ck.later o).pw;refine .inl ⟨_,rfl,?_⟩
   go_simp
   refine c _ _ ?_;clear c K
  rotate_left
  refine wpAny_ready (rs:=[3]) (by kernel_rfl) (by simp) ?_;refine AllReady.cons rfl (λK c=>?_) AllReady.nil
  dsimp only[List.getElem_toArray,List.getElem_cons_succ,List.getElem_cons_zero]
  go_simp
  refine c _ _ ?_;clear c K
  all_goals
   refine wpAny_ready (rs:=[6]) (by kernel_rfl) (by simp) ?_;refine AllReady.cons rfl (λK c=>?_) AllReady.nil
   dsimp only[List.getElem_toArray,List.getElem_cons_succ,List.getElem_cons_zero]
   rw[if_pos (by rfl)];refine qbu _ #[PP b,U v] (by go_simp) z ?_;rintro e w2 ⟨W',er,B,rfl,s⟩;have C:=qda er w2 (g.out.gl2 o s);have t:Hid (∀e p,Bw w2 p->qlx er (qn _) e->jm _ W l w cb mb G e p):=λe p q H=>g.out.yes (by decide) (by exact k.out) o (B.data (by decide)) s q H;clear B s F D z;refine .inl ⟨_,rfl,?_⟩
   go_simp
   refine c _ _ ?_;clear c K;refine wpAny_ready (rs:=[7]) (by kernel_rfl) (by simp) ?_;refine AllReady.cons rfl (λK c=>?_) AllReady.nil
   dsimp only[List.getElem_toArray,List.getElem_cons_succ,List.getElem_cons_zero]
   rw[if_pos (by rfl)];refine qbu 66 #[jc er] (by go_simp) C ?_;rintro e p ⟨q,(⟨r,rfl⟩|⟨r,rfl⟩)⟩
   rotate_left
   ·exact .inr ⟨_,rfl,rfl,t.out _ _ q (.inr ⟨r,rfl⟩)⟩
   have I:=t.out _ _ q (.inl ⟨r,rfl⟩);clear r t C;refine .inl ⟨_,rfl,?_⟩
   go_simp
   refine c _ _ ?_;clear c K;refine wpAny_done (by kernel_rfl) ?_ _
   go_wp2
   go_ret;exact I
theorem q4h (w:World) (h:vk w cb mb b Gw G W j a cap l):Ca 46 #[PP cb,.slice a l.length cap] w (jm 0 W l w cb mb G):=qka w h (M:=94) (by decide) λv c d=>q4g v c d
theorem q5e (w:World) (h:vk w cb mb b Gw G W j a cap l):Ca 48 #[PP cb,.slice a l.length cap] w (jm 2 W l w cb mb G):=qka w h (M:=98) (by decide) λv c d=>q5d v c d h.wi
theorem qze (w:World) (h:vk w cb mb b Gw G W j a cap l):Ca 52 #[PP cb,.slice a l.length cap] w (jm 6 W l w cb mb G):=qka w h (M:=104) (by decide) λv c d=>qyp v c d h.wi
theorem q8t (w:World) (h:vk w cb mb b Gw G W j a cap l):Ca 56 #[PP cb,.slice a l.length cap] w (jm 10 W l w cb mb G):=qka w h (M:=109) (by decide) λv c d=>q99 v c d h.wi
theorem q6l (w:World) (h:vk w cb mb b Gw G W j a cap l):Ca 62 #[PP cb,.slice a l.length cap] w (jm 16 W l w cb mb G):=qka w h (M:=116) (by decide) λv c d=>q50 v c d
theorem q59 (w:World) (h:vk w cb mb b Gw G W j a cap l):Ca 61 #[PP cb,.slice a l.length cap] w (jm 15 W l w cb mb G):=qka w h (M:=115) (by decide) λv c d=>q39 v c d h.wi
theorem qtj (w:World) (h:vk w cb mb b Gw G W j a cap l) (x:(f,M,i)∈[(47,96,1),(54,106,8),(58,112,12)]) (y:∀(u v:Int) d,PW d b Gw W->Ca M #[PP b,U u,U v] d (qgr i W [u,v] ⟨#[]⟩ d b Gw)):Ca f #[PP cb,.slice a l.length cap] w (jm i W l w cb mb G):=by
 have g:Hid (vk w cb mb b Gw G W j a cap l):=h;have m:=λw' z=>qls h.sm w' (h.gl.later (w':=w') z) (h.st.later z);replace m:=m w.drew (jcc _ w).drew;have E:=h.ck.cell0;have F:Hid (∀(u v:Int) d,PW d b Gw W->Ca M #[PP b,U u,U v] d (qgr i W [u,v] ⟨#[]⟩ d b Gw)):=y;clear h y;simp only[jdd,Prod.mk.injEq,List.not_mem_nil,or_false]at x;rcases x with ⟨rfl,rfl,rfl⟩|⟨rfl,rfl,rfl⟩|⟨rfl,rfl,rfl⟩
 all_goals
  first
   |go_enter func47,ntmps47
   |go_enter func54,ntmps54
   |go_enter func58,ntmps58
  go_wp2
  refine wp_region_any (by kernel_rfl) ?_;change wpAny _ _ _ _ _ _ _ (World.drew _);refine wpAny_take (i:=0) (v:=?_) rfl (by kernel_rfl) (by kernel_rfl) (by kernel_rfl) (λ_ _ _ h=>h) (Or.inl ⟨by rfl,?_⟩) ?_
  rotate_left
  ·intro w0;first|(go_simp;done)|(go_simp;with_reducible rfl)
  go_simp
  refine wpAny_take (i:=1) (v:=?_) rfl (by kernel_rfl) (by kernel_rfl) (by kernel_rfl) (λ_ _ _ h=>h) (Or.inl ⟨by rfl,?_⟩) ?_
  rotate_left
  ·intro w0;first|(go_simp;done)|(go_simp;with_reducible rfl)
  go_simp
  refine wpAny_take (i:=2) (v:=?_) rfl (by kernel_rfl) (by kernel_rfl) (by kernel_rfl) (λ_ _ _ h=>h) (Or.inl ⟨by rfl,?_⟩) ?_
  rotate_left
  ·intro w0;first|(go_simp;done)|(go_simp;with_reducible rfl)
  go_simp
  refine wpAny_take (i:=4) (v:=?_) rfl (by kernel_rfl) (by kernel_rfl) (by kernel_rfl) (λ_ _ _ h=>h) (Or.inl ⟨by rfl,?_⟩) ?_
  rotate_left
  ·intro w0;first|(go_simp;done)|(go_simp;with_reducible rfl)
  go_simp
  refine wpAny_ready (rs:=[3,5]) (by kernel_rfl) (by simp) ?_;refine AllReady.cons rfl (λK c=>?_) (AllReady.cons rfl (λK c=>?_) AllReady.nil)
  dsimp only[List.getElem_toArray,List.getElem_cons_succ,List.getElem_cons_zero]
  go_simp
  refine c _ _ ?_;clear c K;refine wpAny_ready (rs:=[5]) (by kernel_rfl) (by simp) ?_;refine AllReady.cons rfl (λK c=>?_) AllReady.nil
  dsimp only[List.getElem_toArray,List.getElem_cons_succ,List.getElem_cons_zero]
  rw[if_pos (by rfl)];refine qbu 97 #[.slice a l.length cap] (by go_simp) m ?_;rintro e d ⟨n,(⟨u,v,k,rfl⟩|⟨k,rfl⟩)⟩
  rotate_left
  ·exact .inr ⟨_,rfl,rfl,g.out.no (by decide) k.out (qa (jcc _ w).drew n)⟩
  dsimp only[List.getElem_toArray,List.getElem_cons_succ,List.getElem_cons_zero]
  rw[if_pos (by rfl)];refine qbu 97 #[.slice a l.length cap] (by go_simp) m ?_;rintro e d ⟨n,(⟨u,v,k,rfl⟩|⟨k,rfl⟩)⟩
  rotate_left
  ·exact .inr ⟨_,rfl,rfl,g.out.no (by decide) k.out (qa (jcc _ w).drew n)⟩
  all_goals
   have o:=qa (jcc _ w).drew n;have H:=(g.out.ck.later o).cell0;have B:=F.out u v d (g.out.ck.later o).pw;refine .inl ⟨_,rfl,?_⟩
   go_simp
   refine c _ _ ?_;clear c K;refine wpAny_take (i:=6) (v:=?_) rfl (by kernel_rfl) (by kernel_rfl) (by kernel_rfl) (λ_ _ _ h=>h) (Or.inl ⟨by rfl,?_⟩) ?_
   rotate_left
   ·intro w0;first|(go_simp;done)|(go_simp;with_reducible rfl)
   go_simp
   refine wpAny_take (i:=7) (v:=?_) rfl (by kernel_rfl) (by kernel_rfl) (by kernel_rfl) (λ_ _ _ h=>h) (Or.inl ⟨by rfl,?_⟩) ?_
   rotate_left
   ·intro w0;first|(go_simp;done)|(go_simp;with_reducible rfl)
   go_simp
  rotate_left
  refine wpAny_ready (rs:=[3]) (by kernel_rfl) (by simp) ?_;refine AllReady.cons rfl (λK c=>?_) AllReady.nil
  dsimp only[List.getElem_toArray,List.getElem_cons_succ,List.getElem_cons_zero]
  go_simp
  refine c _ _ ?_;clear c K
  all_goals
   refine wpAny_ready (rs:=[8]) (by kernel_rfl) (by simp) ?_;refine AllReady.cons rfl (λK c=>?_) AllReady.nil
   dsimp only[List.getElem_toArray,List.getElem_cons_succ,List.getElem_cons_zero]
   rw[if_pos (by rfl)];refine qbu _ #[PP b,U u,U v] (by go_simp) B ?_;rintro e w2 ⟨W',er,C,rfl,s⟩;have D:=qda er w2 (g.out.gl2 o s);have t:Hid (∀e p,Bw w2 p->qlx er (qn _) e->jm _ W l w cb mb G e p):=λe p q I=>g.out.yes (by decide) (by exact k.out) o (C.data (by decide)) s q I;clear C s H E B;refine .inl ⟨_,rfl,?_⟩
   go_simp
   refine c _ _ ?_;clear c K;refine wpAny_ready (rs:=[9]) (by kernel_rfl) (by simp) ?_;refine AllReady.cons rfl (λK c=>?_) AllReady.nil
   dsimp only[List.getElem_toArray,List.getElem_cons_succ,List.getElem_cons_zero]
   rw[if_pos (by rfl)];refine qbu 66 #[jc er] (by go_simp) D ?_;rintro e p ⟨q,(⟨r,rfl⟩|⟨r,rfl⟩)⟩
   rotate_left
   ·exact .inr ⟨_,rfl,rfl,t.out _ _ q (.inr ⟨r,rfl⟩)⟩
   have J:=t.out _ _ q (.inl ⟨r,rfl⟩);clear r t D;refine .inl ⟨_,rfl,?_⟩
   go_simp
   refine c _ _ ?_;clear c K;refine wpAny_done (by kernel_rfl) ?_ _
   go_wp2
   go_ret;exact J
theorem ja5 (w:World) (h:vk w cb mb b Gw G W j a cap l):Ca 47 #[PP cb,.slice a l.length cap] w (jm 1 W l w cb mb G):=qtj w h (M:=96) (by decide) λu v c d=>ja6 u v c d h.wi
theorem q92 (w:World) (h:vk w cb mb b Gw G W j a cap l):Ca 54 #[PP cb,.slice a l.length cap] w (jm 8 W l w cb mb G):=qtj w h (M:=106) (by decide) λu v c d=>q9o u v c d h.wi
theorem q8m (w:World) (h:vk w cb mb b Gw G W j a cap l):Ca 58 #[PP cb,.slice a l.length cap] w (jm 12 W l w cb mb G):=qtj w h (M:=112) (by decide) λu v c d=>q9j u v c d
end
end
section
open Go.RowKit
section
variable {cb mb b j cap:Nat} {Gw G:Nat->Prop} {W:WoS} {a:Option Addr} {l:List ByteArray}
theorem q8p (w:World) (h:vk w cb mb b Gw G W j a cap l):Ca 53 #[PP cb,.slice a l.length cap] w (jm 7 W l w cb mb G):=by
 have c:=hd1 h;have r:=qls h.sm w h.gl h.st;clear h;go_enter Tryz.func53,Tryz.ntmps53
 go_wp2_with fail
 refine r.mono ?_;rintro e s ⟨d,(⟨u,v,k,rfl⟩|⟨k,rfl⟩)⟩
 ·have t:=(c.out.ck.later d).cell0;have o:=q9z u v s (c.out.ck.later d).pw
  go_wp2_with fail
  refine o.mono ?_;rintro e w2 ⟨W',er,p,rfl,m⟩;have q:=qda er w2 (c.out.gl2 d m);have n:Hid (∀e f,Bw w2 f->qlx er (qn 7) e->jm 7 W l w cb mb G e f):=λe f g x=>c.out.yes (by decide) k.out d (p.data (by decide)) m g x;clear p m t o
  go_wp2_with fail
  refine q.mono ?_;rintro e f ⟨g,(⟨i,rfl⟩|⟨i,rfl⟩)⟩
  ·have y:=n.out _ _ g (.inl ⟨i,rfl⟩);clear i n q
   go_wp2
   go_ret;exact y
  exact⟨rfl,n.out _ _ g (.inr ⟨i,rfl⟩)⟩
 exact⟨rfl,c.out.no (by decide) k.out d⟩
theorem q8k (w:World) (h:vk w cb mb b Gw G W j a cap l):Ca 49 #[PP cb,.slice a l.length cap] w (jm 3 W l w cb mb G):=by
 have c:=hd1 h;have m:=qpc h.sm w h.gl h.st;clear h;go_enter Tryz.func49,Tryz.ntmps49
 go_wp2_with fail
 refine m.mono ?_;rintro e n ⟨d,(⟨f,rfl⟩|⟨f,rfl⟩)⟩
 ·have o:=(c.out.ck.later d).cell0;have g:=q71 n (c.out.ck.later d).pw c.out.wi.wf
  go_wp2_with fail
  refine g.mono ?_;rintro e w2 ⟨rfl,W',i,k⟩;have p:jm 3 W l w cb mb G (.returned (.string (bya (qn 3)))) w2:=c.out.yes (ns:=[]) (by decide) f.out d ⟨rfl,i.out.1,rfl⟩ k (jcc _ _) (.inl ⟨rfl,rfl⟩);clear i k o g
  go_wp2
  go_ret;exact p
 exact⟨rfl,c.out.no (by decide) f.out d⟩
end
def qz4 (cb:Nat) (mv:Value) (n c:Int) (w:World) (e:Ending) (w':World):Prop:=
 (((1<=n/\n<=4)/\(0<=c/\c<=6))/\e=.returned (.tuple #[])/\∃b' G',w'.heap[cb]?=some (.cells #[PP b',mv] 57 (0,0))/\PW w' b' G' (qcb n.toNat c.toNat)/\(∀k,G' k->w.heap.size<=k)/\qc (λk=>k=cb) w w')
 \/(¬((1<=n/\n<=4)/\(0<=c/\c<=6))/\e=qc7 2/\Bw w w')
theorem qkq {cb:Nat} {p v:Value} (n c:Int) (w:World) (s:w.heap[cb]?=some (.cells #[p,v] 57 (0,0))) (g:Gl w):
 Ca 20 #[PP cb,U n,U c] w (qz4 cb v n c w):=by
 have B:=(jcs.1 s).1;by_cases h:(1<=n/\n<=4)/\(0<=c/\c<=6)
 ·obtain⟨i,rfl⟩:∃i:Nat,n=i:=⟨n.toNat,by omega⟩;obtain⟨k,rfl⟩:∃k:Nat,c=k:=⟨c.toNat,by omega⟩;have t:=jbc (n:=i) (c:=k) (by omega) (by omega) (by omega) w;have f:=hd3 h s g;clear h s g;go_enter Tryz.func20,Tryz.ntmps20
  go_wp2_with fail
  refine t.mono ?_;rintro e x ⟨rfl,E,C,y,d⟩;have D:=(d.block cb B).trans f.out.2.1;have m:=qda 0 x (f.out.2.2.later d);rw[show jc 0=Value.nilIface from rfl]at m
  go_wp2_with fail
  refine m.mono ?_;rintro e w2 ⟨o,(⟨_,rfl⟩|⟨z,_⟩)⟩
  ·have u:=(o.block cb (jci B d.size)).trans D
   have K:w2.cell? (AD cb 0)=some p:=by rw[Lib.cell_of_heap u];rfl
   have L:=Lib.frozen_of_heap u 0
   have F:Hid (qz4 cb v i k w (.returned (.tuple #[])) (w2.setCell (AD cb 0) (PP w.heap.size))):=by
        have r:=qa d o;refine .inl ⟨f.out.1,rfl,w.heap.size,E,by simp[World.setCell,Array.getElem?_modify,u],?_,y,r.os,r.tape,r.output,by simp[World.setCell];exact r.size,λq H I=>(jce _ _ _ _ I).trans (r.block q H)⟩;rw[Int.toNat_natCast,Int.toNat_natCast];exact(C.later o).kept (λq e=>jce _ _ _ _ (λJ=>by have:=y q e;have:q=cb:=J;omega)) (by simp[World.setCell])
   clear u o D d C y m t
   go_wp2
   go_end0;exact F.out
  exact absurd rfl z
 have t:=q2a h w;have f:=hd2 h g;clear h s g;go_enter Tryz.func20,Tryz.ntmps20
 go_wp2_with fail
 refine t.mono ?_;rintro e x ⟨rfl,d⟩;have m:=qda 2 x (f.out.2.later d)
 generalize jc 2=ev at m
 go_wp2_with fail
 refine m.mono ?_;rintro e w2 ⟨o,(⟨z,_⟩|⟨_,rfl⟩)⟩
 ·exact absurd z (by decide)
 exact⟨rfl,.inr ⟨f.out.1,rfl,qa d o⟩⟩
section
variable {cb mb b j cap:Nat} {Gw G:Nat->Prop} {W:WoS} {a:Option Addr} {l:List ByteArray}
theorem q4x (w:World) (h:vk w cb mb b Gw G W j a cap l):Ca 63 #[PP cb,.slice a l.length cap] w (jm 17 W l w cb mb G):=by
 have c:=hd1 h;have x:=qls h.sm w h.gl h.st;clear h;go_enter Tryz.func63,Tryz.ntmps63
 go_wp2_with fail
 refine x.mono ?_;rintro e y ⟨d,(⟨u,v,m,rfl⟩|⟨m,rfl⟩)⟩
 ·have q:=qkq u v y (c.out.ck.later d).box (c.out.gl.later d)
  go_wp2_with fail
  refine q.mono ?_;rintro e w2 (⟨o,rfl,z,r,s,t,n,f⟩|⟨o,rfl,B⟩)
  ·have C:jm 17 W l w cb mb G (.returned (.string (bya (qn 17)))) w2:=by
        have i:=c.out.ck.later d;have lc:=i.ltc;have D:=i.map.lt;refine⟨qcb u.toNat v.toNat,0,qn 17,by unfold qc2;rw[if_neg (by decide),show ju (qqi 17) l=some [u,v]from m.out];exact⟨rfl,by rw[if_pos o];exact⟨rfl,rfl⟩⟩,.inl ⟨rfl,rfl⟩,λk=>k=cb\/k=mb\/r k,⟨z,r,⟨s,i.map.kept (f.block mb D (λe=>i.n1 e.symm)),t,i.n1,λe=>by have:=n cb e;omega,λe=>by have:=n mb e;omega⟩,λ_=>jdl⟩,λk p=>?_,(qc.ofBelow d).trans ⟨f.os,f.tape,f.output,f.size,λk p E=>f.block k p (λe=>E ((c.out.g k).2 (.inl e)))⟩⟩;rcases p with rfl|rfl|e
        ·exact .inl ((c.out.g k).2 (.inl rfl))
        ·exact .inl ((c.out.g k).2 (.inr (.inl rfl)))
        exact .inr (jcn d.size (n k e))
   clear s t n f q
   go_wp2
   go_ret;exact C
  exact⟨rfl,c.out.yes (W':=W) (er:=2) (told:=qn 17) (by decide) m.out d ⟨rfl,by rw[if_neg o];exact⟨rfl,rfl⟩⟩ (vh.same (c.out.ck.later d).pw (jcc _ _)) B (.inr ⟨by decide,rfl⟩)⟩
 exact⟨rfl,c.out.no (by decide) m.out d⟩
end
end
section
open Go.RowKit
section
variable {cb mb b j cap:Nat} {Gw G:Nat->Prop} {W:WoS} {a:Option Addr} {l:List ByteArray}
theorem qu0 {w w':World} (h:vk w cb mb b Gw G W j a cap l) (c:(if l.length=3 then ju 2 (l.take 2)else none)=none) (d:Bw w w'):jm 18 W l w cb mb G (qc7 3) w':=
 ⟨W,3,[],by unfold qc2;rw[if_pos rfl,c];exact⟨rfl,rfl,rfl⟩,.inr ⟨by decide,rfl⟩,h.ck.same h.g d⟩
theorem qvr {r:List ByteArray} (h:r.length=3):∃x y z,r=[x,y,z]:=by
 match r,h with
 |[x,y,z],_=>exact⟨x,y,z,rfl⟩
theorem q6z (w:World) (h:vk w cb mb b Gw G W j a cap l):Ca 64 #[PP cb,.slice a l.length cap] w (jm 18 W l w cb mb G):=by
 by_cases m:l.length=3
 ·obtain⟨x,y,z,rfl⟩:=qvr m;clear m;have d:=hd1 h;obtain⟨B,C,rfl,P,Q⟩:=h.st.cell 2 z rfl;have X:3<=cap:=h.st.cap
  have H:qfj w (some (AD B C)) cap [x,y]:=⟨by have:=h.st.cap;simp at this ⊢;omega,λq s f=>h.st.cell q s (by
   match q,f with
   |0,f=>exact f
   |1,f=>exact f)⟩
  have I:=qls (l:=[x,y]) (λs J=>h.sm s (by simp at J ⊢;rcases J with rfl|rfl<;>simp)) w h.gl H;clear h H
  dsimp only[List.length_cons,List.length_nil,Nat.reduceAdd]at I ⊢
  go_enter Tryz.func64,Tryz.ntmps64
  go_wp2_with fail
  refine I.mono ?_;rintro e n ⟨k,(⟨u,v,D,rfl⟩|⟨D,rfl⟩)⟩
  rotate_left
  ·exact⟨rfl,qu0 d.out (by rw[if_pos (show [x,y,z].length=3 from rfl)];exact D.out) k⟩
  have R:n.drew.cell? (AD cb 0)=some (PP b):=(d.out.ck.later k).cell0;have S:n.drew.cell? (AD B (C+2))=some (.string z):=(k.cell (p:=AD B (C+2)) P).trans Q;have L:=q48 u v z n.drew ((d.out.ck.later k).pw.later (jcc _ n).drew);have M:=k.drew
  go_wp2
  refine wp_region_any (by kernel_rfl) ?_;change wpAny _ _ _ _ _ _ _ (World.drew _);refine wpAny_take (i:=0) (v:=?_) rfl (by kernel_rfl) (by kernel_rfl) (by kernel_rfl) (λ_ _ _ h=>h) (Or.inl ⟨by rfl,?_⟩) ?_
  rotate_left
  ·intro w0;first|(go_simp;done)|(go_simp;with_reducible rfl)
  go_simp
  refine wpAny_take (i:=1) (v:=?_) rfl (by kernel_rfl) (by kernel_rfl) (by kernel_rfl) (λ_ _ _ h=>h) (Or.inl ⟨by rfl,?_⟩) ?_
  rotate_left
  ·intro w0;first|(go_simp;done)|(go_simp;with_reducible rfl)
  go_simp
  refine wpAny_take (i:=2) (v:=?_) rfl (by kernel_rfl) (by kernel_rfl) (by kernel_rfl) (λ_ _ _ h=>h) (Or.inl ⟨by rfl,?_⟩) ?_
  rotate_left
  ·intro w0;first|(go_simp;done)|(go_simp;with_reducible rfl)
  go_simp
  refine wpAny_take (i:=4) (v:=?_) rfl (by kernel_rfl) (by kernel_rfl) (by kernel_rfl) (λ_ _ _ h=>h) (Or.inl ⟨by rfl,?_⟩) ?_
  rotate_left
  ·intro w0;first|(go_simp;done)|(go_simp;with_reducible rfl)
  go_simp
  refine wpAny_take (i:=5) (v:=?_) rfl (by kernel_rfl) (by kernel_rfl) (by kernel_rfl) (λ_ _ _ h=>h) (Or.inl ⟨by rfl,?_⟩) ?_
  rotate_left
  ·intro w0;first|(go_simp;done)|(go_simp;with_reducible rfl)
  go_simp
  refine wpAny_take (i:=6) (v:=?_) rfl (by kernel_rfl) (by kernel_rfl) (by kernel_rfl) (λ_ _ _ h=>h) (Or.inl ⟨by rfl,?_⟩) ?_
  rotate_left
  ·intro w0;first|(go_simp;done)|(go_simp;with_reducible rfl)
  go_simp
  refine wpAny_take (i:=7) (v:=?_) rfl (by kernel_rfl) (by kernel_rfl) (by kernel_rfl) (λ_ _ _ h=>h) (Or.inl ⟨by rfl,?_⟩) ?_
  rotate_left
  ·intro w0;first|(go_simp;done)|(go_simp;with_reducible rfl)
  go_simp
  refine wpAny_ready (rs:=[3,8]) (by kernel_rfl) (by simp) ?_;refine AllReady.cons rfl (λK c=>?_) (AllReady.cons rfl (λK c=>?_) AllReady.nil)
  dsimp only[List.getElem_toArray,List.getElem_cons_succ,List.getElem_cons_zero]
  go_simp
  refine c _ _ ?_;clear c K;refine wpAny_ready (rs:=[8]) (by kernel_rfl) (by simp) ?_;refine AllReady.cons rfl (λK c=>?_) AllReady.nil
  dsimp only[List.getElem_toArray,List.getElem_cons_succ,List.getElem_cons_zero]
  go_simp
  refine c _ _ ?_;clear c K;refine wpAny_take (i:=9) (v:=?_) rfl (by kernel_rfl) (by kernel_rfl) (by kernel_rfl) (λ_ _ _ h=>h) (Or.inl ⟨by rfl,?_⟩) ?_
  rotate_left
  ·intro w0;first|(go_simp;done)|(go_simp;with_reducible rfl)
  go_simp
  rotate_left
  dsimp only[List.getElem_toArray,List.getElem_cons_succ,List.getElem_cons_zero]
  go_simp
  refine c _ _ ?_;clear c K;refine wpAny_take (i:=9) (v:=?_) rfl (by kernel_rfl) (by kernel_rfl) (by kernel_rfl) (λ_ _ _ h=>h) (Or.inl ⟨by rfl,?_⟩) ?_
  rotate_left
  ·intro w0;first|(go_simp;done)|(go_simp;with_reducible rfl)
  go_simp
  refine wpAny_ready (rs:=[3]) (by kernel_rfl) (by simp) ?_;refine AllReady.cons rfl (λK c=>?_) AllReady.nil
  dsimp only[List.getElem_toArray,List.getElem_cons_succ,List.getElem_cons_zero]
  go_simp
  refine c _ _ ?_;clear c K
  all_goals
   refine wpAny_ready (rs:=[10]) (by kernel_rfl) (by simp) ?_;refine AllReady.cons rfl (λK c=>?_) AllReady.nil
   dsimp only[List.getElem_toArray,List.getElem_cons_succ,List.getElem_cons_zero]
   rw[if_pos (by rfl)];refine qbu 105 #[PP b,U u,.agg #[U v,.string z,.bool false]] (by go_simp) L ?_;rintro e w2 ⟨W',er,N,rfl,E⟩;have O:=qda er w2 (d.out.gl2 M E);have F:Hid (∀e o,Bw w2 o->qlx er (qn 18) e->jm 18 W [x,y,z] w cb mb G e o):=λe o r T=>⟨W',er,qn 18,by unfold qc2;rw[if_pos rfl,if_pos (show [x,y,z].length=3 from rfl),show ju 2 (List.take 2 [x,y,z])=some [u,v]from D.out];exact N,T,qe3.after (d.out.ck.op d.out.g M E) r⟩;clear N E R S L;refine .inl ⟨_,rfl,?_⟩
   go_simp
   refine c _ _ ?_;clear c K;refine wpAny_ready (rs:=[11]) (by kernel_rfl) (by simp) ?_;refine AllReady.cons rfl (λK c=>?_) AllReady.nil
   dsimp only[List.getElem_toArray,List.getElem_cons_succ,List.getElem_cons_zero]
   rw[if_pos (by rfl)];refine qbu 66 #[jc er] (by go_simp) O ?_;rintro e o ⟨r,(⟨t,rfl⟩|⟨t,rfl⟩)⟩
   rotate_left
   ·exact .inr ⟨_,rfl,rfl,F.out _ _ r (.inr ⟨t,rfl⟩)⟩
   have V:=F.out _ _ r (.inl ⟨t,rfl⟩);clear t F O;refine .inl ⟨_,rfl,?_⟩
   go_simp
   refine c _ _ ?_;clear c K;refine wpAny_done (by kernel_rfl) ?_ _
   go_wp2
   go_ret;exact V
 have d:=hd2 h (show l.length≠3 from m)
 have Y:¬(l.length:Int)=3:=by omega
 clear h m;go_enter Tryz.func64,Tryz.ntmps64
 go_wp2
 exact⟨rfl,qu0 d.out.1 (by rw[if_neg d.out.2]) (jcc _ _)⟩
end
end
section
open Go.RowKit
theorem q70 {s:ByteArray} {v:Int} (h:qbw s=some v):wfI v:=by
 unfold qbw at h;split at h
 ·rename_i x c;split at h
  ·injection h with h;subst h;have:=Lib.parseIntB_bounds c;simp at this;exact⟨by omega,by omega⟩
  cases h
 cases h
theorem qwd:∀{l:List ByteArray} {r:List Int},qb0 l=some r->∀v∈r,wfI v
 |[],r,h=>by simp[qb0]at h;subst h;simp
 |x::l,r,h=>by
  simp only[qb0]at h;cases hx:qbw x with
  |none=>rw[hx]at h;cases h
  |some v=>
   rw[hx]at h;simp only at h;cases hl:qb0 l with
   |none=>rw[hl]at h;cases h
   |some q=>
    rw[hl]at h;injection h with h;subst h;intro y c;rcases jdd.1 c with e|e
    ·rw[e];exact q70 hx
    exact qwd hl y e
theorem q63 {m:Nat} {l:List ByteArray} {r:List Int} (h:ju m l=some r):∀v∈r,wfI v:=by
 unfold ju at h;split at h
 ·exact qwd h
 cases h
theorem qnf {key a0 a1 a2 a3:Int} {l:List Hd} (h:∀x∈l,qau x.v=true):(zz key a0 a1 a2 a3 l).1.data.size<=12:=by
 unfold zz;split
 ·cases hl:zn key a0 a1 a2 a3 l with
  |none=>exact jcw _
  |some v=>
   obtain⟨x,c,rfl,_⟩:=qr0 hl;have:=h x c;simp only[qau,jct,decide_eq_true_eq]at this;unfold qjj;simp only;split
   ·exact jcw _
   show x.v.data.size<=12;have:=this.1.2;omega
 exact jcw _
theorem qjc {S:qe} {s:qy} {key:Int} (c:qe9 s) (d:j3 S):(vi S s key).1.size<=12:=by
 unfold vi;split
 ·exact jcw _
 split
 ·rename_i x e;split
  ·exact jcw _
  exact c.ws x (q5a e).2
 show (qbq S key s.s0 s.s1 s.s2 s.s3).1.data.size<=12;unfold qbq;split
 ·exact qnf d.ok
 exact jcw _
def jbt (W:WoS) (k key:Int) (w:World) (e:Ending) (w':World):Prop:=
 ∃d er told,qaa 13 W [k,key] ⟨#[]⟩ W er told/\(er=0->told=[105,115,32]++d.data.toList)/\d.size<=12/\e=.returned (.tuple #[.string d,jc er])/\Bw w w'
theorem q8y {b:Nat} {G:Nat->Prop} {W:WoS} (k key:Int) (o:wfI key) (w:World) (h:PW w b G W) (n:DkI W):Ca 113 #[PP b,U k,U key] w (jbt W k key w):=by
 obtain⟨j,f⟩:=n.pl;by_cases d:ye k W.c
 ·obtain⟨i,rfl,hi,e⟩:=zq d;exact(q7w key (q8f o) w h f.wf hi).mono λ_ _ ⟨g,m⟩=>⟨_,_,_,⟨rfl,by rw[if_pos d];exact⟨rfl,rfl⟩⟩,λ_=>rfl,qjc (n.ses i hi) (f.wf.inv _ (f.wf.at_ i hi)),g,m⟩
 exact(qzt k key w h d).mono λ_ _ ⟨g,m⟩=>⟨⟨#[]⟩,2,[],⟨rfl,by rw[if_neg d];exact⟨rfl,rfl⟩⟩,λe=>(by cases e),jcw _,g,m⟩
section
variable {cb mb b j cap:Nat} {Gw G:Nat->Prop} {W:WoS} {a:Option Addr} {l:List ByteArray}
theorem vk.told {w:World} {i:Nat} {ns:List Int} {er:Int} {told:List UInt8} {w':World} {e:Ending} (h:vk w cb mb b Gw G W j a cap l) (hi:i≠18) (c:ju (qqi i) l=some ns) (d:qaa i W ns ⟨#[]⟩ W er told) (f:Bw w w') (k:qlx er told e):jm i W l w cb mb G e w':=
 ⟨W,er,told,by unfold qc2;rw[if_neg hi,c];exact d.data hi,k,h.ck.same h.g f⟩
theorem q8w (w:World) (h:vk w cb mb b Gw G W j a cap l):Ca 59 #[PP cb,.slice a l.length cap] w (jm 13 W l w cb mb G):=by
 have f:=hd1 h;have m:=λw' s=>qls h.sm w' (h.gl.later (w':=w') s) (h.st.later s);replace m:=m w.drew (jcc _ w).drew;have F:=h.ck.cell0;clear h;go_enter Tryz.func59,Tryz.ntmps59
 go_wp2
 refine wp_region_any (by kernel_rfl) ?_;change wpAny _ _ _ _ _ _ _ (World.drew _);refine wpAny_take (i:=0) (v:=?_) rfl (by kernel_rfl) (by kernel_rfl) (by kernel_rfl) (λ_ _ _ h=>h) (Or.inl ⟨by rfl,?_⟩) ?_
 rotate_left
 ·intro w0;first|(go_simp;done)|(go_simp;with_reducible rfl)
 go_simp
 refine wpAny_take (i:=1) (v:=?_) rfl (by kernel_rfl) (by kernel_rfl) (by kernel_rfl) (λ_ _ _ h=>h) (Or.inl ⟨by rfl,?_⟩) ?_
 rotate_left
 ·intro w0;first|(go_simp;done)|(go_simp;with_reducible rfl)
 go_simp
 refine wpAny_take (i:=2) (v:=?_) rfl (by kernel_rfl) (by kernel_rfl) (by kernel_rfl) (λ_ _ _ h=>h) (Or.inl ⟨by rfl,?_⟩) ?_
 rotate_left
 ·intro w0;first|(go_simp;done)|(go_simp;with_reducible rfl)
 go_simp
 refine wpAny_take (i:=4) (v:=?_) rfl (by kernel_rfl) (by kernel_rfl) (by kernel_rfl) (λ_ _ _ h=>h) (Or.inl ⟨by rfl,?_⟩) ?_
 rotate_left
 ·intro w0;first|(go_simp;done)|(go_simp;with_reducible rfl)
 go_simp
 refine wpAny_ready (rs:=[3,5]) (by kernel_rfl) (by simp) ?_;refine AllReady.cons rfl (λK c=>?_) (AllReady.cons rfl (λK c=>?_) AllReady.nil)
 dsimp only[List.getElem_toArray,List.getElem_cons_succ,List.getElem_cons_zero]
 go_simp
 refine c _ _ ?_;clear c K;refine wpAny_ready (rs:=[5]) (by kernel_rfl) (by simp) ?_;refine AllReady.cons rfl (λK c=>?_) AllReady.nil
 dsimp only[List.getElem_toArray,List.getElem_cons_succ,List.getElem_cons_zero]
 rw[if_pos (by rfl)];refine qbu 97 #[.slice a l.length cap] (by go_simp) m ?_;rintro e t ⟨n,(⟨u,v,g,rfl⟩|⟨g,rfl⟩)⟩
 rotate_left
 ·exact .inr ⟨_,rfl,rfl,f.out.no (by decide) g.out (qa (jcc _ w).drew n)⟩
 dsimp only[List.getElem_toArray,List.getElem_cons_succ,List.getElem_cons_zero]
 rw[if_pos (by rfl)];refine qbu 97 #[.slice a l.length cap] (by go_simp) m ?_;rintro e t ⟨n,(⟨u,v,g,rfl⟩|⟨g,rfl⟩)⟩
 rotate_left
 ·exact .inr ⟨_,rfl,rfl,f.out.no (by decide) g.out (qa (jcc _ w).drew n)⟩
 all_goals
  have q:=qa (jcc _ w).drew n;have H:=(f.out.ck.later q).cell0;have x:=q8y u v (q63 g.out v (by simp)) t (f.out.ck.later q).pw f.out.di;refine .inl ⟨_,rfl,?_⟩
  go_simp
  refine c _ _ ?_;clear c K;refine wpAny_take (i:=6) (v:=?_) rfl (by kernel_rfl) (by kernel_rfl) (by kernel_rfl) (λ_ _ _ h=>h) (Or.inl ⟨by rfl,?_⟩) ?_
  rotate_left
  ·intro w0;first|(go_simp;done)|(go_simp;with_reducible rfl)
  go_simp
  refine wpAny_take (i:=7) (v:=?_) rfl (by kernel_rfl) (by kernel_rfl) (by kernel_rfl) (λ_ _ _ h=>h) (Or.inl ⟨by rfl,?_⟩) ?_
  rotate_left
  ·intro w0;first|(go_simp;done)|(go_simp;with_reducible rfl)
  go_simp
 rotate_left
 refine wpAny_ready (rs:=[3]) (by kernel_rfl) (by simp) ?_;refine AllReady.cons rfl (λK c=>?_) AllReady.nil
 dsimp only[List.getElem_toArray,List.getElem_cons_succ,List.getElem_cons_zero]
 go_simp
 refine c _ _ ?_;clear c K
 all_goals
  refine wpAny_ready (rs:=[8]) (by kernel_rfl) (by simp) ?_;refine AllReady.cons rfl (λK c=>?_) AllReady.nil
  dsimp only[List.getElem_toArray,List.getElem_cons_succ,List.getElem_cons_zero]
  rw[if_pos (by rfl)];refine qbu 113 #[PP b,U u,U v] (by go_simp) x ?_;rintro e w2 ⟨d,er,told,y,z,I,rfl,J⟩;have B:=qa q J;have C:=qda er w2 (f.out.gl.later B);have r:Hid (∀e o,Bw w2 o->qlx er told e->jm 13 W l w cb mb G e o):=λe o p L=>f.out.told (by decide) g.out y (qa B p) L;have D:=hd1 z;have M:=λw=>qfi (P:=Tryz.prog) ⟨#[105,115,32]⟩ d (by show 3+d.size<=_;omega) w;clear y z I H F x;refine .inl ⟨_,rfl,?_⟩
  go_simp
  refine c _ _ ?_;clear c K;refine wpAny_take (i:=9) (v:=?_) rfl (by kernel_rfl) (by kernel_rfl) (by kernel_rfl) (λ_ _ _ h=>h) (Or.inl ⟨by rfl,?_⟩) ?_
  rotate_left
  ·intro w0;first|(go_simp;done)|(go_simp;with_reducible rfl)
  go_simp
  refine wpAny_take (i:=10) (v:=?_) rfl (by kernel_rfl) (by kernel_rfl) (by kernel_rfl) (λ_ _ _ h=>h) (Or.inl ⟨by rfl,?_⟩) ?_
  rotate_left
  ·intro w0;first|(go_simp;done)|(go_simp;with_reducible rfl)
  go_simp
  refine wpAny_take (i:=11) (v:=?_) rfl (by kernel_rfl) (by kernel_rfl) (by kernel_rfl) (λ_ _ _ h=>h) (Or.inl ⟨by rfl,?_⟩) ?_
  rotate_left
  ·intro w0;first|(go_simp;done)|(go_simp;with_reducible rfl)
  go_simp
  refine wpAny_take (i:=12) (v:=?_) rfl (by kernel_rfl) (by kernel_rfl) (by kernel_rfl) (λ_ _ _ h=>h) (Or.inl ⟨by rfl,?_⟩) ?_
  rotate_left
  ·intro w0;first|(go_simp;done)|(go_simp;with_reducible rfl)
  go_simp
  refine wpAny_take (i:=13) (v:=?_) rfl (by kernel_rfl) (by kernel_rfl) (by kernel_rfl) (λ_ _ _ h=>h) (Or.inl ⟨by rfl,?_⟩) ?_
  rotate_left
  ·intro w0;first|(go_simp;done)|(go_simp;with_reducible rfl)
  go_simp
  refine wpAny_done (by kernel_rfl) ?_ _
  go_wp2_with fail
  refine C.mono ?_;rintro e o ⟨p,(⟨k,rfl⟩|⟨k,rfl⟩)⟩
  rotate_left
  ·exact⟨rfl,r.out _ _ p (.inr ⟨k,rfl⟩)⟩
  have E:=r.out _ _ p (.inl ⟨k,rfl⟩);rw[D.out k,<-jz]at E;clear k r C D
  go_wp2
  go_ret;exact E
end
end
section
open Go.RowKit
section
variable {cb mb b j cap:Nat} {Gw G:Nat->Prop} {W:WoS} {a:Option Addr} {l:List ByteArray}
theorem qee {w:World} {T:TypeId} (l:List Int):∀(q:Nat) x,l[q]?=some x->(w.alloc (.cells (qec l).toArray T)).cell? (AD w.heap.size (0+q))=some (U x):=λq x c=>by
 rw[Nat.zero_add];exact(qd.new (w:=w) (T:=T) (qec l) rfl).cell q _ (by unfold qec;rw[jcv,c];rfl)
theorem q9x (w:World) (h:vk w cb mb b Gw G W j a cap l):Ca 57 #[PP cb,.slice a l.length cap] w (jm 11 W l w cb mb G):=by
 have d:=hd1 h;have p:=qpc h.sm w h.gl h.st;clear h;go_enter Tryz.func57,Tryz.ntmps57
 go_wp2_with fail
 refine p.mono ?_;rintro e c ⟨f,(⟨i,rfl⟩|⟨i,rfl⟩)⟩
 ·have v:=(d.out.ck.later f).cell0;have k:=(d.out.ck.later f).pw.later (jcc _ c).drew;have s:=q81 c.drew k;have t:=q7z c.drew k;have m:Bw w ((c.alloc (.cells #[U W.net.length,U W.lost] 3)).drew):=(boxed f _).drew
  have q:=qb1 (b:=c.heap.size) (o:=0) (cap:=2) (l:=[(W.net.length:Int),W.lost]) (by simp) (by simp) (λx r=>by
   simp at r;rcases r with rfl|rfl
   ·have:=d.out.wi.wf.net;exact⟨by omega,by omega⟩
   exact d.out.di.lost) ((c.alloc (.cells #[U W.net.length,U W.lost] 3)).drew) (d.out.gl.later m) (by simp) (qee (w:=c) (T:=3) [(W.net.length:Int),W.lost])
  have u:Hid (∀g,Below ((c.alloc (.cells #[U W.net.length,U W.lost] 3)).drew).heap.size ((c.alloc (.cells #[U W.net.length,U W.lost] 3)).drew) g->jm 11 W l w cb mb G (.returned (.string (bya (qv [(W.net.length:Int),W.lost])))) g):=λg n=>d.out.told (by decide) i.out ⟨rfl,rfl,rfl⟩ (qa m n) (.inl ⟨rfl,rfl⟩)
  dsimp only[List.length_cons,List.length_nil,Nat.reduceAdd]at q
  clear m k p
  go_wp2
  go_region_with (first|(go_at_call 110;refine s.mono ?_;rintro e w2 ⟨rfl,rfl⟩)|(go_at_call 111;refine t.mono ?_;rintro e w2 ⟨rfl,rfl⟩)|(go_at_call 102;refine q.mono ?_;rintro e g ⟨rfl,n⟩))
  all_goals
   go_wp2
   go_ret;exact u.out _ n
 exact⟨rfl,d.out.no (by decide) i.out f⟩
end
end
section
open Go.RowKit Go.Maps
theorem q34 (x:List UInt8):x∈qc9↔∃i,i<19/\x=qn i:=by
 constructor
 ·intro h;obtain⟨i,hi,e⟩:=jdm.1 h;exact⟨i,hi,by unfold qn;rw[jdp,jcg hi];exact e.symm⟩
 rintro ⟨i,hi,rfl⟩;unfold qn;rw[jdp,jcg (show i<qc9.length from hi)];exact jdr _
theorem qup {w:World} {mb cb:Nat} {D:DataW Value} (h:w.ownsMap Tryz.prog 9 qcd mb 19 D) (d:qow D cb 19) {ss:List (List UInt8)} (hs:ss.Perm (Go.strKeys D)):ss.mergeSort (λx y=>decide (x<=y))=qc9:=by
 have hc:Go.Collected D (λ_=>false) qc9:=⟨by decide,λx=>by
  rw[q34]
  constructor
  ·rintro ⟨i,hi,rfl⟩;exact⟨(d.has i hi).1,rfl⟩
  rintro ⟨q,_⟩;rcases Classical.em (∃i,i<19/\x=qn i)with e|e
  ·exact e
  have:=(d.no x (λi hi e2=>e ⟨i,hi,e2⟩)).1;rw[q]at this
  cases this⟩
 exact qu9 (hs.trans (hc.perm h qhg Tryz.underlying9 (λ_=>rfl)).symm)
end
section
open Go.RowKit
def jal (cb:Nat) (w w':World):Prop:=∃mb G,qvq cb mb (qcb 2 2) w' G/\(∀k,G k->w.heap.size<=k)/\Bw w w'/\Gl w'
theorem qsk (w:World) (g:Gl w):Ca 8 #[] w λe w'=>∃cb,e=.returned (PP cb)/\jal cb w w':=by
 have i:=hd1 g;have o:=boxed (jcc w.heap.size w) (.cells #[.pointer none,.map none] 57);have p:=q02 w.heap.size (w.alloc (.cells #[.pointer none,.map none] 57));clear g;go_enter Tryz.func8,Tryz.ntmps8
 go_wp2_with fail
 refine p.mono ?_;rintro e d ⟨rfl,f,j⟩
 have r:(w.alloc (.cells #[.pointer none,.map none] 57)).heap.size=w.heap.size+1:=by simp
 rw[r]at f;have h:=(j.block w.heap.size (by rw[r];omega)).trans (by show (w.heap.push _)[w.heap.size]?=_;exact Array.getElem?_push_size)
 have C:d.cell? (AD w.heap.size 1)=some (.map none):=by rw[Lib.cell_of_heap h];rfl
 have f1:=Lib.frozen_of_heap h 1
 have s:(d.setCell (AD w.heap.size 1) (.map (some (w.heap.size+1)))).heap[w.heap.size]?=some (.cells #[.pointer none,.map (some (w.heap.size+1))] 57 (0,0)):=by simp[World.setCell,Array.getElem?_modify,h]
 have t:=qa o j;have l:Bw w (d.setCell (AD w.heap.size 1) (.map (some (w.heap.size+1)))):=jdz t (jcd _) _;have l1:=f.lt;have u:=qkq 2 2 _ s (i.out.later l);have v:=hd2 (show zm (d.setCell (AD w.heap.size 1) (.map (some (w.heap.size+1)))) (w.heap.size+1) w.heap.size 19 from f.kept (jce _ _ _ _ (by show w.heap.size+1≠w.heap.size;omega))) l;clear t l h s o j f p
 go_wp2_with fail
 refine u.mono ?_;rintro e D (⟨x,rfl,E,n,y,z,B,a⟩|⟨x,_⟩)
 rotate_left
 ·exact absurd (by omega) x
 have F:Hid (jal w.heap.size w D):=by
  obtain⟨m,b⟩:=v.out;have H:=b.size;have G:=m.lt
  have q:∀k,n k->w.heap.size+1<k:=λk c=>by have:=B k c;omega
  refine⟨w.heap.size+1,λk=>k=w.heap.size\/k=w.heap.size+1\/n k,⟨E,n,⟨y,m.kept (a.block _ G (by omega)),z,by omega,λe=>by have:=q _ e;omega,λe=>by have:=q _ e;omega⟩,λ_=>jdl⟩,λk c=>?_,?_,?_⟩
  ·rcases c with rfl|rfl|e
   ·exact jcd _
   ·omega
   have:=q k e;omega
  ·exact⟨a.os.trans b.os,a.tape.trans b.tape,a.output.trans b.output,jcn b.size a.size,λk c=>(a.block k (by omega) (by omega)).trans (b.block k c)⟩
  have I:=i.out.sz;exact(i.out.later b).kept (λk c=>a.block k (by omega) (by omega)) a.size
 clear y z B a u v C f1
 go_wp2
 go_ret;exact⟨_,rfl,F.out⟩
end
section
open Tryz Go.RowKit
theorem q3n:(prog.info? 75).map (λi=>(i.zero,i.size,i.bytes))=some (some (.pointer none),1,8):=by kernel_rfl
theorem q4m:(prog.info? 87).map (λi=>(i.zero,i.size,i.bytes))=some (some (.pointer none),1,8):=by kernel_rfl
theorem quc:(prog.info? 3).map (λi=>(i.zero,i.size,i.bytes))=some (some (U 0),1,8):=by kernel_rfl
variable {n:Nat}
theorem qry {w w':World} {B N:Nat} {T:TypeId} {v:Value} {xs:List Value} (h:w.ownsRow B T N v n xs) (a:Bw w w'):w'.ownsRow B T N v n xs:=qf h (λk e=>a.block k (h.lt k e).2)
theorem qo3 (a:n<=6) (w:World):(Instr.makeSlice 69 (U n) (U n)).run prog w=.ok (.slice (PT w.heap.size) n n) (w.alloc (.cells (madeCells #[U 0] n) 3)):=
 run_make_row' _ 3 (U 0) 8 underlying69 quc rfl .i64 .i64 n (by omega) (by omega) w
theorem ql9 (c:n<=6) (w:World):(w.alloc (.cells (madeCells #[U 0] n) 3)).ownsRow 0 3 1 (.slice (PT w.heap.size) n n) n (qdw (λ_=>0) n):=by
 obtain⟨d,hi,e,f,g⟩:=info_parts quc;obtain⟨h,a,b,_⟩:=run_make_full (P:=prog) w 0 69 3 d (U 0) 1 underlying69 hi e f .i64 .i64 n (by rw[g];omega) (by simp[maxLen];omega) (by omega);rw[qo3 c]at a;injection a with e1 e2;rw[<-e2,show (Value.int .i64 0).cells=#[Value.int .i64 0]from rfl,Nat.mul_one,toList_madeCells_one]at b;rw[show qdw (λ_=>0) n=List.replicate n (U 0) by unfold qdw;rw[List.map_const'];simp];exact b
theorem q42 {c:Nat} (h1:1<=n) (h4:n<=4) (h6:c<=6) (w:World):
 Ca 15 #[U n,U c] w λe w'=>e=.returned (.tuple #[PP (w.heap.size+1+1),U 0])/\∃G,RW w' (w.heap.size+1+1) G (qcb n c)/\(∀k,G k->w.heap.size<=k)/\Bw w w':=by
 obtain⟨i0,hi0,hz0,hz1,hz2⟩:=info_parts q3n;obtain⟨i5,hi5,hy0,hy1,hy2⟩:=info_parts q4m;have N:=qgy n 1 4 w;have O:=qgy c 0 6 w;rw[jk.2 (⟨by omega,by omega⟩:(1:Int)<=n/\(n:Int)<=4)]at N;rw[jk.2 (⟨by omega,by omega⟩:(0:Int)<=c/\(c:Int)<=6)]at O;have s:=hd2 h4 h6;have M1:=λw'=>qo3 (n:=n) (by omega) w';have M2:=λw'=>qo3 (n:=c) (by omega) w'
 have P:Hid (∃M b,qja w (w.heap.size+1+1) n c 0 0 M b ((((w.alloc (.cells (madeCells #[U 0] n) 3)).alloc (.cells (madeCells #[U 0] c) 3)).alloc (.cells #[.slice none 0 0,.slice (PT w.heap.size) n n,.slice none 0 0,.slice (PT (w.heap.size+1)) c c,.slice none 0 0,U 0] 74)).drew)):=by
  have Q:=boxed (jcc _ w) (.cells (madeCells #[U 0] n) 3);have t:=boxed (jcc _ (w.alloc (.cells (madeCells #[U 0] n) 3))) (.cells (madeCells #[U 0] c) 3);have l:=(boxed (jcc _ ((w.alloc (.cells (madeCells #[U 0] n) 3)).alloc (.cells (madeCells #[U 0] c) 3))) (.cells #[.slice none 0 0,.slice (PT w.heap.size) n n,.slice none 0 0,.slice (PT (w.heap.size+1)) c c,.slice none 0 0,U 0] 74)).drew;have R:=(qd.new (w:=(w.alloc (.cells (madeCells #[U 0] n) 3)).alloc (.cells (madeCells #[U 0] c) 3)) (T:=74) (n:=w.heap.size+1+1) [.slice none 0 0,.slice (PT w.heap.size) n n,.slice none 0 0,.slice (PT (w.heap.size+1)) c c,.slice none 0 0,U 0] (by simp)).drew;have S:=ql9 (n:=n) (by omega) w;have v:=ql9 (n:=c) (by omega) (w.alloc (.cells (madeCells #[U 0] n) 3));rw[jdi]at v;exact⟨_,_,qja.first R (qry (qry S t) l) (qry v l) (by omega) (by omega) (by omega) (jcd _) (by omega) (by omega) (qa (qa Q t) l)⟩
 have V:Hid (∃M b,qja w (w.heap.size+1+1) n c 0 0 M b ((((w.alloc (.cells (madeCells #[U 0] c) 3)).alloc (.cells (madeCells #[U 0] n) 3)).alloc (.cells #[.slice none 0 0,.slice (PT (w.heap.size+1)) n n,.slice none 0 0,.slice (PT w.heap.size) c c,.slice none 0 0,U 0] 74)).drew)):=by
  have Q:=boxed (jcc _ w) (.cells (madeCells #[U 0] c) 3);have t:=boxed (jcc _ (w.alloc (.cells (madeCells #[U 0] c) 3))) (.cells (madeCells #[U 0] n) 3);have l:=(boxed (jcc _ ((w.alloc (.cells (madeCells #[U 0] c) 3)).alloc (.cells (madeCells #[U 0] n) 3))) (.cells #[.slice none 0 0,.slice (PT (w.heap.size+1)) n n,.slice none 0 0,.slice (PT w.heap.size) c c,.slice none 0 0,U 0] 74)).drew;have R:=(qd.new (w:=(w.alloc (.cells (madeCells #[U 0] c) 3)).alloc (.cells (madeCells #[U 0] n) 3)) (T:=74) (n:=w.heap.size+1+1) [.slice none 0 0,.slice (PT (w.heap.size+1)) n n,.slice none 0 0,.slice (PT w.heap.size) c c,.slice none 0 0,U 0] (by simp)).drew;have S:=ql9 (n:=c) (by omega) w;have v:=ql9 (n:=n) (by omega) (w.alloc (.cells (madeCells #[U 0] c) 3));rw[jdi]at v;exact⟨_,_,qja.first R (qry v l) (qry (qry S t) l) (by omega) (by omega) (by omega) (by omega) (jcd _) (by omega) (qa (qa Q t) l)⟩
 clear h1 h4 h6;go_enter func15,ntmps15
 go_wp2_with (first|(go_at_call 28;with_reducible refine N.mono ?_;rintro e w1 ⟨rfl,x⟩;have W:=x.symm;clear x;subst W)|(go_at_call 28;with_reducible refine O.mono ?_;rintro e w1 ⟨rfl,x⟩;have W:=x.symm;clear x;subst W))
 go_region
 all_goals
  first
   |(obtain⟨B,C⟩:∃B,(((w.alloc (.cells (madeCells #[U 0] n) 3)).alloc (.cells (madeCells #[U 0] c) 3)).alloc (.cells #[.slice none 0 0,.slice (PT w.heap.size) n n,.slice none 0 0,.slice (PT (w.heap.size+1)) c c,.slice none 0 0,U 0] 74)).drew=B:=⟨_,rfl⟩
     rw[C]at P ⊢;have X:=P
     clear C)
   |(obtain⟨B,C⟩:∃B,(((w.alloc (.cells (madeCells #[U 0] c) 3)).alloc (.cells (madeCells #[U 0] n) 3)).alloc (.cells #[.slice none 0 0,.slice (PT (w.heap.size+1)) n n,.slice none 0 0,.slice (PT w.heap.size) c c,.slice none 0 0,U 0] 74)).drew=B:=⟨_,rfl⟩
     rw[C]at V ⊢;have X:=V
     clear C)
  go_wp2_with fail
  go_loopw [23] (λiv wr=>∃(k:Nat) (z:Int) (M:RoM) (b:Nat->Nat->Prop),k<=n/\z=k/\iv=U z/\Hid (qja w (w.heap.size+1+1) n c k 0 M b wr)) (λiv _=>n-(intOf iv).toNat)
  case atStart=>
   obtain⟨M,b,h⟩:=X.out;exact⟨0,0,M,b,by omega,rfl,rfl,h⟩
  clear X P V M1 M2 N O;obtain⟨k,z,M,b,hk,Y,rfl,a⟩:=hrel;have K:=hd1 Y;by_cases hlt:k<n
  ·have L:z<(n:Int):=by omega
   have g3:0<=z:=by omega
   have g4:z<4:=by have:=s.out;omega
   obtain⟨sa,Z,d,r⟩:=qq a.out.sr;have p:=hd1 d;have g:=a.out.box;rw[d]at g;have c0:=g.c 0;have hlw:=g.lt;have D:Bw wr ((wr.alloc (.cells #[U z,U 0,U 0,U 0,U 0,U 0,U 0,.slice none 0 0,.slice none 0 0,.slice none 0 0,U 0,U 0,U 0,U 0,U 0,U 0,U 0,U 0,U 0,U 0,U 0,U 0,U 0,U 0,U 0,U 0] 86)).alloc (.cells #[PP wr.heap.size] 75)):=boxed (boxed (jcc _ wr) _) _;have E:=qf a.out.sr (λq e=>D.block q (a.out.sr.lt q e).2);rw[d]at E;have B2:=g.later D;have HNB:Hid (M.sv.ownBlock≠some (w.heap.size+1+1)):=λe=>qpw a.out.ap (i:=0) (j:=1) (by decide) rfl (by show some M.sv.ownBlock=_;rw[e]);have F:=World.news_of_block (heap_alloc_new (wr.alloc (.cells #[U z,U 0,U 0,U 0,U 0,U 0,U 0,.slice none 0 0,.slice none 0 0,.slice none 0 0,U 0,U 0,U 0,U 0,U 0,U 0,U 0,U 0,U 0,U 0,U 0,U 0,U 0,U 0,U 0,U 0] 86)) (.cells #[PP wr.heap.size] 75));rw[jdi]at F;have hrl:=r.len;clear Y r d
   go_wp2_with (at_builtin;refine wpList_append_lies _ rfl (.tmp 30) (.tmp 34) 70 rfl 0 75 i0 (.pointer none) 1 8 underlying70 hi0 hz0 hz1 hz2 rfl (by decide) (.slice sa k Z) k (qgn M.bp k) rfl E (AD (wr.heap.size+1) 0) 1 1 [PP wr.heap.size] rfl rfl F (by intro u H;simp at H;rw[H];rfl) (by decide) (by have:=s.out;simp only[maxLen];omega) (by have:=s.out;omega) (jcw _) _ rfl ?_;intro g9 cap9 wE ownE I egE ltE;have J:qd wE (w.heap.size+1+1) _:=B2.grown I (λe=>HNB.out (by rw[p.out];exact e.symm));have e0:=J.c 0;have f0:=J.f 0)
   have NX:=hd1 (a.out.site (w2:=(wr.alloc (.cells #[U z,U 0,U 0,U 0,U 0,U 0,U 0,.slice none 0 0,.slice none 0 0,.slice none 0 0,U 0,U 0,U 0,U 0,U 0,U 0,U 0,U 0,U 0,U 0,U 0,U 0,U 0,U 0,U 0,U 0] 86)).alloc (.cells #[PP wr.heap.size] 75)) (T:=86) (o:=(.cells #[PP wr.heap.size] 75)) (by rw[K.out];rfl) ownE (by rw[p.out];exact I) (by rw[p.out];simpa using egE))
   go_roundw
   case rel=>exact⟨k+1,z+1,_,_,by omega,by have:=K.out;omega,by go_num,NX.out⟩
   simp[intOf];have:=K.out;omega
  have L:¬z<(n:Int):=by omega
  have ek:k=n:=by omega
  subst ek;have H0:=a;clear Y hlt K
  go_wp2_with fail
  clear L
  go_loopw [40] (λiv wr=>∃(m:Nat) (y:Int) (M:RoM) (b:Nat->Nat->Prop),m<=c/\y=m/\iv=U y/\Hid (qja w (w.heap.size+1+1) k c k m M b wr)) (λiv _=>c-(intOf iv).toNat)
  case atStart=>exact⟨0,0,M,b,by omega,rfl,rfl,H0.out⟩
  clear H0 a;obtain⟨m,y,M,b,hm,hy,rfl,a⟩:=hrel;have HY:=hd1 hy;by_cases hml:m<c
  ·have L:y<(c:Int):=by omega
   have g3:0<=y:=by omega
   have g4:y<6:=by have:=s.out;omega
   obtain⟨sa,Z,d,r⟩:=qq a.out.cr;have p:=hd1 d;have g:=a.out.box;rw[d]at g;have c0:=g.c 2;have hlw:=g.lt;have D:Bw wr ((wr.alloc (.cells #[U 0,U 0,U 0,U 0,U 0,U 0,U 0,U 0,.bool false,.slice none 0 0] 90)).alloc (.cells #[PP wr.heap.size] 87)):=boxed (boxed (jcc _ wr) _) _;have E:=qf a.out.cr (λq e=>D.block q (a.out.cr.lt q e).2);rw[d]at E;have B2:=g.later D;have HNB:Hid (M.cv.ownBlock≠some (w.heap.size+1+1)):=λe=>qpw a.out.ap (i:=0) (j:=3) (by decide) rfl (by show some M.cv.ownBlock=_;rw[e]);have F:=World.news_of_block (heap_alloc_new (wr.alloc (.cells #[U 0,U 0,U 0,U 0,U 0,U 0,U 0,U 0,.bool false,.slice none 0 0] 90)) (.cells #[PP wr.heap.size] 87));rw[jdi]at F;have hrl:=r.len;clear hy r d
   go_wp2_with (at_builtin;refine wpList_append_lies _ rfl (.tmp 46) (.tmp 49) 71 rfl 0 87 i5 (.pointer none) 1 8 underlying71 hi5 hy0 hy1 hy2 rfl (by decide) (.slice sa m Z) m (qgn M.bs m) rfl E (AD (wr.heap.size+1) 0) 1 1 [PP wr.heap.size] rfl rfl F (by intro u H;simp at H;rw[H];rfl) (by decide) (by have:=s.out;simp only[maxLen];omega) (by have:=s.out;omega) (jcw _) _ rfl ?_;intro g9 cap9 wE ownE I egE ltE;have J:qd wE (w.heap.size+1+1) _:=B2.grown I (λe=>HNB.out (by rw[p.out];exact e.symm));have e0:=J.c 2;have f0:=J.f 2)
   have NX:=hd1 (a.out.ses (T:=90) (o:=(.cells #[PP wr.heap.size] 87)) rfl ownE (by rw[p.out];exact I) (by rw[p.out];simpa using egE))
   go_roundw
   case rel=>exact⟨m+1,y+1,_,_,by omega,by have:=HY.out;omega,by go_num,NX.out⟩
   simp[intOf];have:=HY.out;omega
  have L:¬y<(c:Int):=by omega
  have em:m=c:=by omega
  subst em;clear hy
  go_wp2_with fail
  go_ret2;exact⟨rfl,_,a.out.done.1,a.out.done.2,a.out.hb⟩
theorem q2j {n c:Int} (h:¬((1<=n/\n<=4)/\(0<=c/\c<=6))) (w:World):
 Ca 15 #[U n,U c] w (Rn (.tuple #[.pointer none,U 2]) w):=by
 have g:=qgy n 1 4 w;have i:=qgy c 0 6 w;by_cases b:1<=n/\n<=4
 ·rw[jk.2 b]at g
  have d:inB c 0 6=false:=by
   cases q:inB c 0 6
   ·rfl
   exact absurd ⟨b,jk.1 q⟩ h
  rw[d]at i;clear b h d;go_enter func15,ntmps15
  go_wp2_with (first|(go_at_call 28;with_reducible refine g.mono ?_;rintro e j ⟨rfl,a⟩;have f:=a.symm;clear a;subst f)|(go_at_call 28;with_reducible refine i.mono ?_;rintro e j ⟨rfl,a⟩;have f:=a.symm;clear a;subst f))
  go_ret2;exact⟨rfl,jcc _ _⟩
 have d:inB n 1 4=false:=by
  cases q:inB n 1 4
  ·rfl
  exact absurd (jk.1 q) b
 rw[d]at g;clear b h d i;go_enter func15,ntmps15
 go_wp2_with (go_at_call 28;with_reducible refine g.mono ?_;rintro e j ⟨rfl,a⟩;have f:=a.symm;clear a;subst f)
 go_ret2;exact⟨rfl,jcc _ _⟩
end
section
open Go.RowKit
theorem q5g:yt 3:=λ{w w2 n0 hb b j cap nc Gw G W a na l ns} u h hn hlen ht _ hN hb2=>by
 have R:=(h.hs.later hb2).rw;obtain rfl:=qsd hlen;have C:=q8g w2 R h.wi.wf h.wi.nt;have c:=hd3 h hn hb2;clear h hn hb2 hlen ht hN R
 conv=>arg 2;whnf
 unfold qa3
 go_wp2_with fail
 refine C.mono ?_;rintro e i ⟨rfl,W',d,f⟩;have g:=hd1 (c.out.1.fin c.out.2.1 c.out.2.2 ⟨rfl,d.out.1,rfl⟩ (λ_=>rfl) f (jcc _ _));clear d f C
 go_wp2
 go_ret2;exact g.out
theorem q09:yt 15:=λ{w w2 n0 hb b j cap nc Gw G W a na l ns} u h hn hlen ht _ hN hb2=>by
 have R:=(h.hs.later hb2).rw;obtain⟨x,rfl⟩:=qit hlen;simp[qx,qb8,thB,thC]at ht;obtain⟨k,rfl,i,d,m⟩:=qac ht;obtain⟨g,rfl,o,p,q⟩:=hN.cell 0 _ rfl;have r:=hN.cap;have C:=q57 w2 R h.wi.wf i;have c:=hd4 h hn hb2 d;clear h hn hb2 hlen ht hN R d m
 conv=>arg 2;whnf
 unfold qa3
 go_wp2_with fail
 refine C.mono ?_;rintro e s ⟨rfl,f⟩;have n:=hd1 (c.out.1.fin c.out.2.1 c.out.2.2.1 ⟨rfl,by rw[if_pos c.out.2.2.2];exact⟨rfl,rfl⟩⟩ (λ_=>rfl) f (jcc _ _));clear f C
 go_wp2
 go_ret2;exact n.out
theorem q6s:yt 10:=λ{w w2 n0 hb b j cap nc Gw G W a na l ns} u h hn hlen ht _ hN hb2=>by
 have R:=(h.hs.later hb2).rw;obtain⟨x,rfl⟩:=qit hlen;simp[qx,qb8,thB,thC]at ht;obtain⟨k,rfl,n,d,o⟩:=qac ht;obtain⟨g,rfl,r,s,t⟩:=hN.cell 0 _ rfl;have v:=hN.cap;obtain⟨f,i⟩:∃f,W.net[k]?=some f:=⟨_,jcg n⟩;have C:=qzc w2 R h.wi.wf.net i;have c:=hd4 h hn hb2 d;clear h hn hb2 hlen ht hN R d o
 conv=>arg 2;whnf
 unfold qa3
 go_wp2_with fail
 refine C.mono ?_;rintro e z ⟨y,rfl,p,m⟩;have q:=hd1 (c.out.1.fin c.out.2.1 c.out.2.2.1 ⟨rfl,by rw[if_pos c.out.2.2.2];exact⟨rfl,rfl⟩⟩ (λ_=>rfl) m.out.2.2 (jcc _ _));clear m p C i
 go_wp2
 go_ret2;exact q.out
theorem q05:yt 16:=λ{w w2 n0 hb b j cap nc Gw G W a na l ns} u h hn hlen ht _ hN hb2=>by
 have R:=(h.hs.later hb2).rw;obtain⟨x,rfl⟩:=qit hlen;simp[qx,qb8,thB,thC]at ht;obtain⟨k,rfl,n,i,o⟩:=qac ht;obtain⟨g,rfl,r,s,t⟩:=hN.cell 0 _ rfl;have v:=hN.cap;obtain⟨d,f⟩:∃d,W.net[k]?=some d:=⟨_,jcg n⟩;have C:=q4u w2 R f;have p:=hd1 f;have c:=hd4 h hn hb2 i;clear h hn hb2 hlen ht hN R i o
 conv=>arg 2;whnf
 unfold qa3
 go_wp2_with fail
 refine C.mono ?_;rintro e y ⟨rfl,m⟩;have q:=hd1 (c.out.1.fin c.out.2.1 c.out.2.2.1 ⟨rfl,by rw[if_pos c.out.2.2.2];exact⟨⟨d,p.out,rfl⟩,rfl⟩⟩ (λ_=>rfl) m (jcc _ _));clear m C f
 go_wp2
 go_ret2;exact q.out
theorem que:yt 6:=λ{w w2 n0 hb b j cap nc Gw G W a na l ns} u h hn hlen ht _ hN hb2=>by
 have R:=(h.hs.later hb2).rw;obtain⟨x,rfl⟩:=qit hlen;simp[qx,qb8,thB,thC]at ht;obtain⟨k,rfl,s,i,t⟩:=qac ht;obtain⟨g,rfl,z,A,B⟩:=hN.cell 0 _ rfl;have D:=hN.cap;obtain⟨m,d⟩:∃m,W.net[k]?=some m:=⟨_,jcg s⟩;have C:=qzc w2 R h.wi.wf.net d;have f:=hd3 d h.wi.wf h.wi.nt;have c:=hd4 h hn hb2 i;clear h hn hb2 hlen ht hN R i t
 conv=>arg 2;whnf
 unfold qa3
 go_wp2_with fail
 refine C.mono ?_;rintro e E ⟨y,rfl,n,o⟩;have p:=qwm f.out.2.1 f.out.2.2 f.out.1 n o;clear o n C d
 go_wp2_with fail
 refine p.mono ?_;rintro e F ⟨rfl,W',q,r⟩;have v:=hd1 (c.out.1.fin c.out.2.1 c.out.2.2.1 ⟨rfl,by rw[if_pos c.out.2.2.2];exact⟨q.out,rfl⟩⟩ (λ_=>rfl) r (jcc _ _));clear q r p
 go_wp2
 go_ret2;exact v.out
end
section
open Go.RowKit
theorem qpv {b l:Nat} {wv:Value} {s:qy} {G:Nat->Prop} {F:Nat->Option Obj} {S:qe} (key:Int) (w:World) (h:qgs w b wv s) (B:RS w l G F S) (C:j3 S):
 Ca 32 #[PP b,PP l,U key] w (Rn (.tuple #[.string (vi S s key).1,U (vi S s key).2]) w):=by
 have D:=hd1 h;have n:=hd2 B C;have o:=h.box.c 8;have i:=qla key w h;cases ho:s.opn
 ·rw[ho]at o
  have f:Hid (vi S s key=(⟨#[]⟩,6)):=by show _=_;unfold vi;rw[ho];rfl
  rw[f.out];go_enter Tryz.func32,Tryz.ntmps32
  go_wp2_with fail
  go_ret2;exact⟨rfl,jcc _ _⟩
 rw[ho]at o;cases hw:qay s.ws key with
 |none=>
  obtain⟨⟨⟨p,q,rs,r,m,t⟩,u⟩,v⟩:∃x,qbq S key s.s0 s.s1 s.s2 s.s3=x:=⟨_,rfl⟩
  have f:Hid (vi S s key=(m,u)):=by show _=_;unfold vi;rw[ho,hw,v];rfl
  rw[hw,show qav s.ws key=⟨0,⟨#[]⟩,false⟩ by unfold qav;rw[hw];rfl]at i
  have E:Hid (∀w',Bw w w'->Ca 79 #[PP l,U key,.agg #[U s.s0,U s.s1,U s.s2,U s.s3]] w' λe H=>e=.returned (.tuple #[.agg #[U p,U q,U rs,U r,.string m,.bool t],U u])/\Bw w' H):=λw' I=>by
   have:=q07 key s.s0 s.s1 s.s2 s.s3 w' (n.out.1.later I) n.out.2;rw[v]at this;exact this
  rw[f.out];go_enter Tryz.func32,Tryz.ntmps32
  go_wp2_with fail
  refine i.mono ?_;rintro e y ⟨rfl,j⟩;rw[show wrV ⟨0,⟨#[]⟩,false⟩=.agg #[U 0,.string ⟨#[]⟩,.bool false]from rfl,show (none:Option Wr).isSome=false from rfl];have g:=boxed j (.cells #[U 0,.string ⟨#[]⟩,.bool false] 100);have k:=D.out.box.later g;have M:=k.c 4;have N:=k.c 5;have O:=k.c 6;have P:=k.c 7;have J:=E.out _ g
  go_wp2_with fail
  refine J.mono ?_;rintro e Q ⟨rfl,K⟩;have L:=boxed (qa g K) (.cells #[U p,U q,U rs,U r,.string m,.bool t] 130)
  go_wp2_with fail
  go_ret2;exact⟨rfl,L⟩
 |some x=>
  obtain⟨d,a,z⟩:=x;rw[hw,show qav s.ws key=⟨d,a,z⟩ by unfold qav;rw[hw];rfl]at i;cases z
  ·have f:Hid (vi S s key=(a,0)):=by show _=_;unfold vi;rw[ho,hw];rfl
   rw[f.out];go_enter Tryz.func32,Tryz.ntmps32
   go_wp2_with fail
   refine i.mono ?_;rintro e y ⟨rfl,j⟩;rw[show wrV ⟨d,a,false⟩=.agg #[U d,.string a,.bool false]from rfl,show (some (⟨d,a,false⟩:Wr)).isSome=true from rfl];have g:=boxed j (.cells #[U d,.string a,.bool false] 100)
   go_wp2_with fail
   go_ret2;exact⟨rfl,g⟩
  have f:Hid (vi S s key=(⟨#[]⟩,8)):=by show _=_;unfold vi;rw[ho,hw];rfl
  rw[f.out];go_enter Tryz.func32,Tryz.ntmps32
  go_wp2_with fail
  refine i.mono ?_;rintro e y ⟨rfl,j⟩;rw[show wrV ⟨d,a,true⟩=.agg #[U d,.string a,.bool true]from rfl,show (some (⟨d,a,true⟩:Wr)).isSome=true from rfl];have g:=boxed j (.cells #[U d,.string a,.bool true] 100)
  go_wp2_with fail
  go_ret2;exact⟨rfl,g⟩
end
open Go.Shelf
def jen:Go.Shelf.Ren:=⟨λ|192=>44|190=>92|125=>133|258=>132|128=>194|129=>195|302=>185|303=>186|304=>187|305=>188|306=>189|307=>190|308=>191|309=>192|310=>193|333=>232|329=>233|330=>234|334=>235|335=>236|336=>237|344=>267|n=>n,λ|31=>42|0=>0|9=>9|3=>3|46=>190|51=>250|53=>192|4=>4|183=>244|182=>243|131=>93|5=>5|218=>289|222=>293|228=>327|229=>144|n=>n,λ|n=>n⟩
theorem jez:Go.Proofs.Lays.n192 Tryz.prog jen:=by constructor<;>intros<;>kernel_rfl
open Go.Sort Go.RowKit in
theorem jek (a c cap:Nat) (b:List (List UInt8)) (w:World) (d:Holds encStr w a c b.toArray) (f:a<w.heap.size) (g:b.length<4611686018427387904):
 Ca 44 #[.slice (some (AD a c)) b.length cap] w λe w'=>
  e=.returned (.tuple #[])/\∃n os,w'=grow (putRow encStr (Sort.ahead w n) a c (b.mergeSort λx y=>decide (x<=y)).toArray) os:=Any.sort_Strings jez a c cap b w d f g
end Go.Proofs.YtoanjdndmlffdaaGreatDoor
