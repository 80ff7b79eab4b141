import Derived.Test.YtoanjdndmlffdaaGreatDoorRWoF
import Derived.Lib.SpaceUEq
import Derived.Shelf.Strings.Split
import Derived.Shelf.SlIter.Nil
import Derived.Shelf.SortM.Plain
import Derived.Shelf.SortM.SortNone
set_option maxHeartbeats 16000000
set_option maxRecDepth 1000000
namespace Go.Proofs.YtoanjdndmlffdaaGreatDoor
section
open Go.RowKit
variable {w w1:World} {b:Nat} {G:Nat->Prop}
theorem qae.bind {w2:World} {W1 c:WoS} (h:qae w b G W1 w1) (f:∀a,RW w1 b a W1->qae w1 b a c w2):qae w b G c w2:=by
 obtain⟨a,j,d,e⟩:=h;obtain⟨k,p1,p2,p3⟩:=f a j;have s:=e.size;exact⟨k,p1,λq l=>(p2 q l).elim (d q) (λr=>.inr (by omega)),e.more p3 d⟩
def jbq (w:World) (b:Nat) (G:Nat->Prop) (W:WoS) (i:Nat) (g:GrS) (e:Ending) (w':World):Prop:=
 ∃x:GrR,e=.returned (.agg (qbj x).toArray)/\x.g=g/\Hid (qr w' x.m.wa x.m.wc x.m.t.ws/\(∀s a0 a1 a2 a3,x.g.body=.ask s a0 a1 a2 a3->x.wa=none/\x.wc=0)/\qae w b G (qai W i) w')
variable {W:WoS} {i:Nat} {g:GrS}
theorem qzc (w:World) (h:RW w b G W) (c:W.net.length<=300) (hi:W.net[i]?=some g):
 Ca 38 #[PP b,U i] w (jbq w b G W i g):=by
 obtain⟨M,A,h,r⟩:=h
 have B:M.l.length=W.net.length:=by rw[<-h.nl];simp
 have s:i<M.l.length:=by have:=(jck.1 hi).1;omega
 obtain⟨x,d⟩:∃x,M.l[i]?=some x:=⟨_,jcg s⟩
 have t:x.g=g:=by
  have:=hi;rw[<-h.nl,jcv,d]at this;exact jcu this
 have f:=h.gr x (jcq d);refine(q95 w h c d rfl).mono λe w' ⟨u,v,n,y,a⟩=>⟨x,u,t,?_,f.none,?_⟩
 ·refine f.wi.kept (m:=x.m) (λk e=>?_);obtain⟨j,o,p,q⟩:=f.fr k e;exact((n.site (i:=j) p).frozen q).trans ((h.site p).frozen q).symm
 exact qc5.post (W:=W) ⟨v,M.l.eraseIdx i,n,λk e=>.inr (y k e),⟨a.os,a.tape,a.output,a.size,λk z c=>a.block k z (λe=>c (.inl e))⟩⟩ r rfl rfl
theorem qwm {x:GrR} (c:WfW W) (j:qeq W) (hi:W.net[i]?=some g) (a:x.g=g) (h:Hid (qr w1 x.m.wa x.m.wc x.m.t.ws/\(∀s a0 a1 a2 a3,x.g.body=.ask s a0 a1 a2 a3->x.wa=none/\x.wc=0)/\qae w b G (qai W i) w1)):
 Ca 37 #[PP b,.agg (qbj x).toArray] w1 λe w'=>e=.returned (.tuple #[])/\∃W',Hid (zy W i W')/\qae w b G W' w':=by
 have d:=jcq hi;have v:=h.out.2.2;obtain⟨y,k,s1,f⟩:=h.out.2.2;refine(qzo x w1 k (c.drop i) (by rw[a];exact c.tj g d) h.out.1 h.out.2.1 (by rw[a];exact j g d)).mono λe w' ⟨l,W',n,o⟩=>⟨l,W',⟨g,hi,by rw[<-a];exact n.out⟩,?_⟩;obtain⟨p,p1,p2,p3⟩:=o;have s:=f.size;exact⟨p,p1,λq u=>(p2 q u).elim (s1 q) (λr=>.inr (by omega)),f.more p3 s1⟩
theorem qt9 {cb:Nat} (w:World) (h:RW w b G W) (B:WfW W) (C:qeq W) (o:w.cell? (AD cb 0)=some (PP b)) (t:¬G cb):
 Ca 89 #[PP cb] w λe w'=>e=.returned (.tuple #[])/\∃W',Hid (qaf W W'/\WfW W'/\qeq W')/\qae w b G W' w':=by
 have u:=hd5 h B C o t;have L:cb<w.heap.size:=jcr _ _ o
 have D:Hid (∀w',qc G w w'->w'.cell? (AD cb 0)=some (PP b)):=λw' j=>by rw[jch (w:=w) (j.block cb L t)];exact o
 clear h B C o t;go_enter Tryz.func89,Tryz.ntmps89
 go_wp2_with fail
 go_loopg [1] (qjh W.net) (λk _ wr=>∃W1:WoS,qjh W1.net<=k/\Hid (WfW W1/\qeq W1/\qae w b G W1 wr/\∀W',qaf W1 W'->qaf W W'))
 case atStart=>exact⟨W,jcd _,u.out.2.1,u.out.2.2.1,qae.same u.out.1 (jcc _ _),λ_ h=>h⟩
 obtain⟨W1,Y,a⟩:=hrel
 have Z:wr.cell? (AD cb 0)=some (PP b):=by
  obtain⟨_,_,_,j⟩:=a.out.2.2.1;exact D.out wr j
 obtain⟨N,E,s1,F⟩:=a.out.2.2.1;have m:=hd3 (show RW wr b N W1 from E) s1 F;obtain⟨M,Gs,n,O⟩:=E
 have H:M.l.length=W1.net.length:=by rw[<-n.nl];simp
 obtain⟨na,nc,I,r⟩:=qq n.yr;have P:=n.box.c 4;rw[I]at P;have hrc:=r.cap;have hrl:=r.len;have hlt:=n.box.lt;clear r I n O s1 F;by_cases d:W1.net=[]
 ·have q:¬0<(M.l.length:Int):=by rw[H,d];simp
  go_wp2_with fail
  go_end0;exact⟨rfl,W1,⟨a.out.2.2.2 W1 (.none d),a.out.1,a.out.2.1⟩,a.out.2.2.1⟩
 obtain⟨g,v⟩:∃g,W1.net[0]?=some g:=by
  cases hn:W1.net with
  |nil=>exact absurd hn d
  |cons x r=>exact⟨x,rfl⟩
 have q:0<(M.l.length:Int):=by
  have:W1.net.length≠0:=λe=>d (jc2 e);omega
 have J:=hd2 (show W1.net≠[]from d) v
 have Q:Hid (∀w',Bw wr w'->Ca 38 #[PP b,U 0] w' (jbq w b G W1 0 g)):=λw' y=>(qzc (i:=0) w' (m.out.1.later y) a.out.1.net v).mono λe w2 ⟨x,R,z,f⟩=>⟨x,R,z,f.out.1,f.out.2.1,by
  obtain⟨S,p1,p2,p3⟩:=f.out.2.2;have s:=m.out.2.2.size;have s2:=y.size
  exact⟨S,p1,λq T=>(p2 q T).elim (m.out.2.1 q) (λr=>.inr (by omega)),(m.out.2.2.trans (qc.ofBelow y)).more p3 m.out.2.1⟩⟩
 clear H d v
 go_wp2_with fail
 go_region_law (first
  |(refine qah rfl 38 rfl #[PP b,U 0] (by go_simp) (Q.out _ (jcc _ _).drew) ?_
    rintro e w2 ⟨x,rfl,z,f⟩;refine⟨_,rfl,?_⟩
    have c92:w2.cell? (AD cb 0)=some (PP b):=by
        obtain⟨_,_,_,j⟩:=f.out.2.2
        exact D.out w2 j)
  |(refine qah rfl 37 rfl #[PP b,.agg (qbj x).toArray] (by go_simp) (qwm a.out.1 a.out.2.1 J.out.2 z f) ?_
    rintro e w3 ⟨rfl,K,p,V⟩
    refine⟨_,rfl,?_⟩))
 all_goals
  have wt:=qjk a.out.1 p.out
  go_wp2_with fail
  go_roundg (qjh K.net)
  case measure=>omega
  exact⟨K,jcd _,a.out.1.deliver p.out,a.out.2.1.deliver a.out.1 p.out,V,λW' X=>a.out.2.2.2 W' (.step J.out.1 p.out X)⟩
end
section
open Go.RowKit
variable {w:World} {b:Nat} {G:Nat->Prop} {W:WoS}
theorem RW.len0 (h:RW w b G W):∃a cap,w.cell? (AD b 0)=some (.slice a W.n cap)/\b<w.heap.size:=by
 obtain⟨M,g,h,_⟩:=h;obtain⟨d,e,f,r⟩:=qq h.sr;have c:=h.box.c 0;rw[f]at c;exact⟨d,e,c,h.box.lt⟩
theorem qae.get {w':World} {W':WoS} (h:qae w b G W' w'):∃a,RW w' b a W':=by
 obtain⟨a,c,_⟩:=h;exact⟨a,c⟩
theorem q8g (w:World) (h:RW w b G W) (K:WfW W) (hN:qeq W):
 Ca 41 #[PP b] w λe w'=>e=.returned (.tuple #[])/\∃W',Hid (qg9 W W'/\WfW W'/\qeq W')/\qae w b G W' w':=by
 have L:=boxed (jcc _ w) (.cells #[PP b] 44);have t:=qd.new (w:=w) (T:=44) (n:=w.heap.size) [PP b] rfl;change qd (w.alloc (.cells #[PP b] 44)) w.heap.size [PP b]at t;have D:=h.lt;have u:Hid (∀w',qc G (w.alloc (.cells #[PP b] 44)) w'->w'.cell? (AD w.heap.size 0)=some (PP b)):=λw' j=>(t.kept (j.block _ t.lt (λe=>by have:=D _ e;omega)) j.size).c 0;have M:=t.c 0;have N:=qt9 _ (h.later L) K hN M (λe=>by have:=D _ e;omega);have N4:=hd1 K.n4
 have NG:Hid (¬G w.heap.size):=λe=>by have:=D _ e;omega
 have FR:Hid (∀W' w',qae (w.alloc (.cells #[PP b] 44)) b G W' w'->qae w b G W' w'):=λW' w' O=>qae.from L O;obtain⟨w0,E⟩:∃w0,w.alloc (.cells #[PP b] 44)=w0:=⟨_,rfl⟩;obtain⟨cb,P⟩:∃cb,w.heap.size=cb:=⟨_,rfl⟩
 have BRX:Hid (∀l W1,WfW W1->qeq W1->qae w0 b G W1 l->Ca 89 #[PP cb] l λe w'=>e=.returned (.tuple #[])/\∃W',Hid (qaf W1 W'/\WfW W'/\qeq W')/\qae w0 b G W' w'):=λl W1 h1 h2 O=>by
  obtain⟨G1,a1,a2,a3⟩:=O;have s:=a3.size;rw[<-E]at a2 a3 s ⊢;rw[<-P];refine(qt9 l a1 h1 h2 (u.out l a3) (λe=>?_)).mono λe w' ⟨Q,W',hB,p⟩=>⟨Q,W',hB,?_⟩
  ·rcases a2 _ e with r|r
   ·exact NG.out r
   simp at r;omega
  obtain⟨G2,p1,p2,p3⟩:=p;exact⟨G2,p1,λq R=>(p2 q R).elim (a2 q) (λr=>.inr (by omega)),a3.more p3 a2⟩
 rw[E,P]at N M u;rw[E]at FR;clear h K hN D t NG;go_enter Tryz.func41,Tryz.ntmps41
 go_wp2_with fail
 refine N.mono ?_;rintro e l ⟨rfl,W1,F,p⟩;have H:=hd1 p;obtain⟨G1,P1⟩:=H.out.get;obtain⟨pa,pc,v,S⟩:=P1.len0;have V:=F.out.1.keep.n;rw[V]at v;have HN:=hd1 V
 have x:l.cell? (AD cb 0)=some (PP b):=by
  obtain⟨_,_,_,j⟩:=H.out;exact u.out l j
 clear N p V P1 M E P L
 go_wp2_with fail
 clear v x S
 go_loopw [13] (λiv wr=>∃(k:Nat) (z:Int) (g:WoS),k<=W.n/\z=k/\iv=U z/\Hid (WfW g/\g.n=W.n/\qc1 k W1 g/\qae w0 b G g wr/\qeq g)) (λiv _=>W.n-(intOf iv).toNat)
 case atStart=>exact⟨0,0,W1,by omega,rfl,rfl,F.out.2.1,HN.out,.zero,H.out,F.out.2.2⟩
 clear H;obtain⟨k,z,g,hk,X,rfl,d⟩:=hrel;have B:=hd1 X;by_cases hlt:k<W.n
 ·have g1:z<(W.n:Int):=by omega
  have g3:0<=z:=by omega
  have g4:z<4:=by have:=N4.out;omega
  obtain⟨G2,P2⟩:=d.out.2.2.2.1.get;obtain⟨pa2,pc2,v,S⟩:=P2.len0;rw[d.out.2.1]at v
  have x:wr.cell? (AD cb 0)=some (PP b):=by
   obtain⟨_,_,_,j⟩:=d.out.2.2.2.1;exact u.out wr j
  clear X P2
  go_wp2_with fail
  clear v x S
  go_loopw [21] (λY wr=>∃(m:Nat) (y:Int) (f:WoS),m<=W.n/\y=m/\Y=U y/\Hid (WfW f/\f.n=W.n/\qdo k m g f/\qae w0 b G f wr/\qeq f)) (λY _=>W.n-(intOf Y).toNat)
  case atStart=>exact⟨0,0,g,by omega,rfl,rfl,d.out.1,d.out.2.1,.zero,d.out.2.2.2.1,d.out.2.2.2.2⟩
  obtain⟨m,y,f,hm,I,rfl,a⟩:=hrel;have C:=hd1 I;by_cases hml:m<W.n
  ·have f1:y<(W.n:Int):=by omega
   have f3:0<=y:=by omega
   have f4:y<4:=by have:=N4.out;omega
   have x:wr.cell? (AD cb 0)=some (PP b):=by
        obtain⟨_,_,_,j⟩:=a.out.2.2.2.1;exact u.out wr j
   by_cases Z:m=k
   ·have f5:z=y:=by have:=B.out;omega
    subst f5;clear I
    go_wp2_with fail
    go_roundw
    case rel=>exact⟨m+1,z+1,f,by omega,by have:=C.out;omega,by go_num,a.out.1,a.out.2.1,.self a.out.2.2.1 Z,a.out.2.2.2⟩
    simp[intOf];have:=C.out;omega
   have f5:¬z=y:=by have:=B.out;omega
   have AK:Hid (Ca 36 #[PP b,U z,U y] wr λe w'=>e=.returned (.tuple #[])/\qae w0 b G (qme f k m) w'):=by
        obtain⟨G3,P3,s3,t3⟩:=a.out.2.2.2.1;have:=q5z wr P3 (i:=k) (o:=m) (by rw[a.out.2.1];exact hlt);rw[<-B.out,<-C.out]at this;refine this.mono λe w' ⟨Q,p⟩=>⟨Q,?_⟩;obtain⟨Gx,p1,p2,p3⟩:=p;have s:=t3.size;exact⟨Gx,p1,λq R=>(p2 q R).elim (s3 q) (λr=>.inr (by omega)),t3.more p3 s3⟩
   have HM:=hd3 (show m≠k from Z) hlt hml;clear I Z
   go_wp2_with fail
   refine AK.out.mono ?_;rintro e w4 ⟨rfl,hP4⟩;have WA:WfW (qme f k m):=a.out.1.send (by show m<f.n;rw[a.out.2.1];exact HM.out.2.2);have NA:qeq (qme f k m):=a.out.2.2.2.2.send (by show 0<=(k:Int)/\(k:Int)<(f.n:Int);rw[a.out.2.1];have:=HM.out.2.1;omega);have BR2:=hd1 (BRX.out w4 _ WA NA hP4);clear AK WA NA hP4 x
   go_wp2_with fail
   refine BR2.out.mono ?_;rintro e w5 ⟨rfl,W5,J,hP5⟩
   go_wp2_with fail
   go_roundw
   case rel=>exact⟨m+1,y+1,W5,by omega,by have:=C.out;omega,by go_num,J.out.2.1,(J.out.1.keep.n.trans (yb _ _).n).trans a.out.2.1,.ask a.out.2.2.1 HM.out.1 J.out.1,hP5,J.out.2.2⟩
   simp[intOf];have:=C.out;omega
  have f1:¬y<(W.n:Int):=by omega
  have e:m=W.n:=by omega
  clear I
  go_wp2_with fail
  go_roundw
  case rel=>exact⟨k+1,z+1,f,by omega,by have:=B.out;omega,by go_num,a.out.1,a.out.2.1,.next d.out.2.2.1 (by rw[d.out.2.1,<-e];exact a.out.2.2.1),a.out.2.2.2⟩
  simp[intOf];have:=B.out;omega
 have g1:¬z<(W.n:Int):=by omega
 have e:k=W.n:=by omega
 clear X
 go_wp2_with fail
 go_end0;exact⟨rfl,g,⟨⟨W1,F.out.1,by rw[HN.out,<-e];exact d.out.2.2.1⟩,d.out.1,d.out.2.2.2.2⟩,FR.out _ _ d.out.2.2.2.1⟩
end
section
open Go.RowKit
variable {G:Nat->Prop}
section
variable {w:World} {b:Nat} {M:RoM} {W:WoS} {Gs:Nat->Nat->Prop}
theorem RWo.clientsAt (h:RWo w b M W Gs):∃a e d f,w.cell? (AD b 2)=some (.slice a W.c e)/\W.c<=e/\w.cell? (AD b 3)=some (.slice d W.c f)/\W.c<=f/\(0<W.c->∃g g',a=some (AD g 0)/\d=some (AD g' 0)/\g<w.heap.size/\g'<w.heap.size/\∀j,j<W.c->w.cell? (AD g j)=some (PP (M.bs j))/\w.cell? (AD g' j)=some (U (W.at_ j))):=by
 obtain⟨a,e,n,r⟩:=qq h.cr;obtain⟨d,f,o,i⟩:=qq h.ar;have k:=h.box.c 2;have l:=h.box.c 3;rw[n]at k;rw[o]at l;refine⟨a,e,d,f,k,r.len,l,i.len,λv=>?_⟩;rcases r.held with q|⟨g,rfl,p,s⟩
 ·omega
 rcases i.held with q|⟨g',rfl,t,u⟩
 ·omega
 exact⟨g,g',rfl,rfl,p,t,λj m=>⟨s j _ (qn4 m),u j _ (qie m)⟩⟩
theorem RSe.snap {s:qy} (h:RSe w b G s):w.cell? (AD b 4)=some (U s.s0)/\w.cell? (AD b 5)=some (U s.s1)/\w.cell? (AD b 6)=some (U s.s2)/\w.cell? (AD b 7)=some (U s.s3)/\w.cell? (AD b 8)=some (.bool s.opn)/\b<w.heap.size:=by
 obtain⟨wv,h,_⟩:=h;exact⟨h.box.c 4,h.box.c 5,h.box.c 6,h.box.c 7,h.box.c 8,h.box.lt⟩
end
theorem q57 {b:Nat} {W:WoS} (w:World) (h:RW w b G W) (y:WfW W) {i:Nat} (hi:i<W.n):
 Ca 40 #[PP b,U i] w λe w'=>e=.returned (.tuple #[])/\qae w b G (qo2 W i) w':=by
 obtain⟨M,Gs,h,L⟩:=h;have d:=hd4 h L y hi;obtain⟨g,cap,Z,hcap,hg,N⟩:=h.sitesAt hi;have c1:=N i hi;have O:=h.box.lt
 have q1:(i:Int)<(W.n:Int):=by omega
 have HC6:=hd1 y.c6;obtain⟨ca,cca,da,dda,P,hcl,B,hdl,o⟩:=h.clientsAt;have C:=hd3 P B o;clear h L y N P B o hi;go_enter Tryz.func40,Tryz.ntmps40
 go_wp2_with fail
 refine qma (qv4 w d.out.1 d.out.2.2.2 _ ?_);rintro u15 u16 u17 u18 u19 u20 u21 u22 u23 u24 u25 u26 D w4 Q t R;have E:=hd3 Q t R;have c2:=cell_later t C.out.1;have hlt4:=jci O t.size;clear Q t R Z c1
 go_wp2_with fail
 clear c2
 go_loopw [32] (λiv wr=>∃(j:Nat) (z:Int),j<=W.c/\z=j/\iv=U z/\Hid (qd wr D (v4C (dwV W i j))/\Bw w wr)) (λiv _=>W.c-(intOf iv).toNat)
 case atStart=>exact⟨0,0,by omega,rfl,rfl,E.out.1,E.out.2.1⟩
 obtain⟨j,z,hj,H,rfl,a⟩:=hrel;have u:=hd1 H;by_cases I:j<W.c
 ·have g1:z<(W.c:Int):=by omega
  have g2:z.toNat=j:=by omega
  have g3:0<=z:=by omega
  have g4:z<6:=by have:=HC6.out;omega
  clear H;obtain⟨cg,cg',hca,hda,hcg,hcg',o⟩:=C.out.2.2 (by omega);subst hca;subst hda;have x0:=cell_later a.out.2 (o j I).1;have T:=cell_later a.out.2 (o j I).2;obtain⟨r,J⟩:∃r:Int,(W.at_ j:Int)=r:=⟨_,rfl⟩
  have x1:wr.cell? (AD cg' j)=some (U r):=by rw[<-J];exact T
  have V:=hd1 J;have B:=cell_later a.out.2 C.out.2.1;have ltr:=jci O a.out.2.size;obtain⟨s0,s1,s2,s3,X,sl⟩:=((d.out.1.later a.out.2).sess I).snap;clear J T o;cases ho:(W.ses j).opn;have s:Hid (dwV W i (j+1)=dwV W i j):=q49 (λq=>by rw[ho]at q;cases q.2);rw[ho]at X
  rotate_left
  rw[ho]at X;by_cases x:r=(i:Int)
  ·subst x;have s:Hid (dwV W i (j+1)=⟨qm (dwV W i j).v0 (W.ses j).s0,qm (dwV W i j).v1 (W.ses j).s1,qm (dwV W i j).v2 (W.ses j).s2,qm (dwV W i j).v3 (W.ses j).s3⟩):=q9r ⟨by have:=V.out;omega,ho⟩;obtain⟨v,k⟩:∃v,dwV W i j=v:=⟨_,rfl⟩;rw[k]at s
   have m:qd wr D [U v.v0,U v.v1,U v.v2,U v.v3]:=by have:=a.out.1;rw[k]at this;exact this
   have HF:=hd1 m;obtain⟨a0,a1,a2,a3⟩:=m.c4;have lv:=m.lt;have MI:Hid (∀w',Ca 86 #[.agg #[U v.v0,U v.v1,U v.v2,U v.v3],.agg #[U (W.ses j).s0,U (W.ses j).s1,U (W.ses j).s2,U (W.ses j).s3]] w' λe w''=>e=.returned (.agg #[U (qm v.v0 (W.ses j).s0),U (qm v.v1 (W.ses j).s1),U (qm v.v2 (W.ses j).s2),U (qm v.v3 (W.ses j).s3)])/\Bw w' w''):=λw'=>qgh _ _ _ _ _ _ _ _ w';clear ho m k
   go_wp2_with fail
   go_region_law (refine qah rfl 86 rfl #[.agg #[U v.v0,U v.v1,U v.v2,U v.v3],.agg #[U (W.ses j).s0,U (W.ses j).s1,U (W.ses j).s2,U (W.ses j).s3]] (by go_simp) (MI.out wr.drew) ?_
                  rintro e w7 ⟨rfl,hb7⟩;refine⟨_,rfl,?_⟩;have Y:=qa (jcc _ wr).drew hb7;have p:=HF.out.later Y;obtain⟨d0,d1,d2,d3⟩:=p.c4;have f0:=p.f 0;have f1:=p.f 1;have f2:=p.f 2
                  have f3:=p.f 3)
   all_goals
        go_wp2_with fail
        go_roundw
        case rel=>exact⟨j+1,z+1,by omega,by have:=u.out;omega,by go_num,by rw[s.out];exact qmu p _ _ _ _,qe8 (qa a.out.2 Y) E.out.2.2 _ _ _ _⟩
        simp[intOf];have:=u.out;omega
  have s:Hid (dwV W i (j+1)=dwV W i j):=q49 (λq=>x (by have:=V.out;have:=q.1;omega))
  have hq1:(r==(i:Int))=false:=by simp[x]
  have hq2:=decide_eq_false x
  all_goals
   clear ho
   go_wp2_with fail
   go_roundw
   case rel=>exact⟨j+1,z+1,by omega,by have:=u.out;omega,by go_num,by rw[s.out];exact a.out.1,a.out.2⟩
   simp[intOf];have:=u.out;omega
 have g1:¬z<(W.c:Int):=by omega
 have e:j=W.c:=by omega
 subst e;have R9:=a.out.1;have K:=hd2 (d.out.1.later a.out.2.drew) a.out.2.drew;obtain⟨v,k⟩:∃v,dwV W i W.c=v:=⟨_,rfl⟩
 have m:qd wr D [U v.v0,U v.v1,U v.v2,U v.v3]:=by have:=a.out.1;rw[k]at this;exact this
 have SW:Hid (Ca 88 #[.pointer (some (AD (M.bp i) 9)),.agg #[U v.v0,U v.v1,U v.v2,U v.v3]] wr.drew λe w'=>e=.returned (.tuple #[])/\RPo wr.drew (M.bp i) (Gs i) (M.F i) {W.S i with l:=qcr v.v0 v.v1 v.v2 v.v3 (W.S i).l} w'):=qy5 v.v0 v.v1 v.v2 v.v3 wr.drew (K.out.1.site d.out.2.2.2) (d.out.2.2.1.inv i d.out.2.2.2)
 have HW:Hid (qo2 W i=setSite W i {W.S i with l:=qcr v.v0 v.v1 v.v2 v.v3 (W.S i).l}):=by show _=_;rw[<-k];rfl
 obtain⟨z0,z1,z2,z3⟩:=m.c4;clear H R9 m k
 go_wp2_with fail
 go_region_law (refine qah rfl 88 rfl #[.pointer (some (AD (M.bp i) 9)),.agg #[U v.v0,U v.v1,U v.v2,U v.v3]] (by go_simp) SW.out ?_
                rintro e w8 ⟨rfl,hp⟩
                refine⟨_,rfl,?_⟩)
 all_goals
  go_wp2_with fail
  go_end0;refine⟨rfl,?_⟩;rw[HW.out];exact qae.from K.out.2 (K.out.1.stepS d.out.2.1 d.out.2.2.2 hp)
end
section
open Go.RowKit
section
variable {w w' wA wB:World} {b i:Nat} {M:RoM} {W:WoS} {Gs:Nat->Nat->Prop}
theorem RWo.kept (h:RWo w b M W Gs) (f:∀k,qg6 b M (W.n+W.c) Gs k->w'.heap[k]?=w.heap[k]?) (g:w.heap.size<=w'.heap.size):RWo w' b M W Gs:=by
 have l:=λk q=>f k (.inl q)
 have a:∀{x:Option Nat},x∈vx b M->∀k,x=some k->w'.heap[k]?=w.heap[k]?:=λd k e=>by rw[e]at d;exact l k d
 refine⟨h.box.kept (l b (by simp[ql,vx])) g,qf h.sr (a (by simp[vx])),qf h.wr (a (by simp[vx])),qf h.cr (a (by simp[vx])),qf h.ar (a (by simp[vx])),qf h.yr (a (by simp[vx])),h.nl,λx d=>(h.gr x d).tj (λi k o hi e=>?_),h.fam.tj (λj k p e=>f k (.inr ⟨j,p,e⟩)) g (λk e=>⟨.inl e,jci (h.ltF k e) g⟩),h.ap⟩;have:=(h.site hi).frozen e;exact⟨e,this,(f k (.inr ⟨i,by omega,(h.site hi).frozenG e⟩)).trans this⟩
theorem RWo.com (h:RWo w b M W Gs) (hi:i<W.c) (r:W.at_ i<W.n) {S':qe} {a:qy} {F':Nat->Option Obj} {Y:Nat->Prop} (s:∀k o,M.F (W.at_ i) k=some o->F' k=some o) (t:qfx (qjd (M.bs i) a) (qek (M.bp (W.at_ i)) F' S') w (Gs (W.n+i)) (Gs (W.at_ i)) Y w'):
 ∃d,RWo w' b {M with F:=jj M.F (W.at_ i) F'} (vf (setSite W (W.at_ i) S') i a) d/\(∀m k,d m k->Gs m k\/w.heap.size<=k)/\qc (λk=>Gs (W.n+i) k\/Gs (W.at_ i) k) w w':=by
 obtain⟨u,v,p1,x,p2,y,z,_,l⟩:=t
 obtain⟨d,f,g,A,l⟩:=h.fam.step2G (ps':=qdm {M with F:=jj M.F (W.at_ i) F'} (vf (setSite W (W.at_ i) S') i a)) (i:=W.n+i) (j:=W.at_ i) (by omega) (by omega) ⟨u,v,p1,x,p2,y,z,λ_ e=>e.elim,l⟩ (by
  show (if W.n+i<W.n then _ else _)=_;rw[if_neg (by omega)];show qjd (M.bs (W.n+i-W.n)) (jj W.ses i a (W.n+i-W.n))=_
  rw[show W.n+i-W.n=i by omega,qt]) (by
  show (if W.at_ i<W.n then qek (M.bp (W.at_ i)) (jj M.F (W.at_ i) F' (W.at_ i)) (jj W.S (W.at_ i) S' (W.at_ i))else _)=_
  rw[if_pos r,qt,qt]) (λm B C p=>by
  show (if m<W.n then qek (M.bp m) (jj M.F (W.at_ i) F' m) (jj W.S (W.at_ i) S' m)else qjd (M.bs (m-W.n)) (jj W.ses i a (m-W.n)))=(if m<W.n then _ else _);by_cases q:m<W.n
  ·rw[if_pos q,if_pos q,yq _ _ p,yq _ _ p]
  rw[if_neg q,if_neg q,yq _ _ (by omega)])
 refine⟨d,h.keep A f (λj k o D e=>?_) rfl rfl rfl rfl rfl rfl,g,l⟩;by_cases q:j=W.at_ i
 ·subst q;rw[qt];exact s k o e
 rw[yq _ _ q];exact e
end
def qi9 (wA:World) (b:Nat) (M:RoM) (W:WoS) (Gs:Nat->Nat->Prop) (i:Nat) (m:TxM) (ce:Int) (wB:World):Prop:=
 ce=wcE W i/\m.t=wcT W i/\qr wB m.wa m.wc m.t.ws/\∃F' Gs',RWo wB b {M with F:=jj M.F (W.at_ i) F'} (qd4 W i) Gs'/\(∀j k,Gs' j k->Gs j k\/wA.heap.size<=k)/\qc (λk=>Gs (W.n+i) k\/Gs (W.at_ i) k) wA wB/\∀k,m.blk k->∃o,F' k=some o
def jb5 (w:World) (b:Nat) (M:RoM) (W:WoS) (Gs:Nat->Nat->Prop) (i:Nat) (m:TxM) (ce:Int) (mb:Nat) (wC:World):Prop:=qd wC mb (txC m)/\w.heap.size<=mb/\qi9 w b M W Gs i m ce wC
section
variable {w wA wB wC:World} {b i:Nat} {M:RoM} {W:WoS} {Gs:Nat->Nat->Prop} {m:TxM} {ce:Int}
theorem qi9.lie (a:RWo w b M W Gs) (hi:i<W.c) (d:W.at_ i<W.n) {k:Nat} (f:w.heap.size<=k):¬(Gs (W.n+i) k\/Gs (W.at_ i) k):=λe=>by
 have:k<w.heap.size:=e.elim (λq=>a.ltG (by omega) q) (λq=>a.ltG (by omega) q);omega
theorem qi9.box (h:qi9 wA b M W Gs i m ce wB) (e:RWo w b M W Gs) (hi:i<W.c) (f:W.at_ i<W.n) {l:List Value} (a:qd wA w.heap.size l):qd wB w.heap.size l:=by
 obtain⟨_,_,_,_,_,_,_,d,_⟩:=h;exact a.kept (d.block _ a.lt (qi9.lie e hi f (jcd _))) d.size
theorem qi9.tj (h:qi9 wA b M W Gs i m ce wB) (d:RWo w b M W Gs) (f:W.at_ i<W.n) (g:Bw w wA) (l:∀k,(k<w.heap.size\/wA.heap.size<=k)->k<wB.heap.size->wC.heap[k]?=wB.heap[k]?) (p:qc (λk=>w.heap.size<=k) wB wC):qi9 w b M W Gs i m ce wC:=by
 obtain⟨y,z,A,F',r,a,t,B,u⟩:=h
 have C:∀k,qg6 b {M with F:=jj M.F (W.at_ i) F'} ((qd4 W i).n+(qd4 W i).c) r k->wC.heap[k]?=wB.heap[k]?:=λk e=>by
  rcases e with e|⟨j,v,e⟩
  ·exact l k (.inl (d.ltF k e)) (a.ltF k e)
  exact l k ((t j k e).imp (λq=>d.ltG v q) id) (a.ltG v e)
 have R:=a.kept C p.size;have s:=g.size;refine⟨y,z,?_,F',r,R,λj k e=>(t j k e).imp id (λq=>by omega),((qc.ofBelow g).trans B).more p (λk q=>.inr q),u⟩;refine A.kept (m:=m) (λk e=>?_);obtain⟨o,x⟩:=u k e;have D:=(R.site (i:=W.at_ i) f).frozen (o:=o) (k:=k) (by show jj M.F (W.at_ i) F' (W.at_ i) k=_;rw[qt];exact x);have E:=(a.site (i:=W.at_ i) f).frozen (o:=o) (k:=k) (by show jj M.F (W.at_ i) F' (W.at_ i) k=_;rw[qt];exact x);exact D.trans E.symm
end
variable {X:Nat->Prop} {w w':World}
theorem qwr (c:∀k,X k->k<w.heap.size) (h:jg X w w') (o:Obj):jg X w (w'.alloc o):=
 have b:=boxed (jcc w'.heap.size w') o
 ⟨b.os.trans h.os,b.tape.trans h.tape,b.output.trans h.output,jcn h.size b.size,λk a=>(b.block k (jci (c k a) h.size)).trans (h.block k a)⟩
theorem vy (h:jg X w w'):jg X w w'.drew:=
 have b:=(jcc w'.heap.size w').drew
 ⟨b.os.trans h.os,b.tape.trans h.tape,b.output.trans h.output,jcn h.size b.size,h.block⟩
theorem qzv (c:∀k,X k->k<w.heap.size) (h:jg X w w') {g j:Nat} (d:w.heap.size<=g) (u:Value):jg X w (w'.setCell (AD g j) u):=
 ⟨h.os,h.tape,h.output,by simpa[World.setCell]using h.size,λk a=>(jce _ _ _ _ (λe=>by have:=c k a;simp only at e;omega)).trans (h.block k a)⟩
variable {b i:Nat} {M:RoM} {W:WoS} {Gs:Nat->Nat->Prop}
theorem qi9.keeps {wA wB:World} {m:TxM} {ce:Int} (h:qi9 wA b M W Gs i m ce wB) (g:RWo w b M W Gs) (hi:i<W.c) (l:W.at_ i<W.n) (a:Bw w wA):jg (ql b M) w wB:=by
 obtain⟨_,_,_,_,_,_,_,d,_⟩:=h;have s:=a.size;refine⟨d.os.trans a.os,d.tape.trans a.tape,d.output.trans a.output,jcn s d.size,λk j=>?_⟩;have f:=g.fam.free k j;exact(d.block k (by omega) (λe=>e.elim (f.2 _ (by omega)) (f.2 _ (by omega)))).trans (a.block k f.1)
noncomputable def jbg:Code:=((Tryz.f34.body.bind (qa0 2)).getD .skip)
theorem q1p {Q S V Y y7 y8 Z aa ab ac ad ae af ag y17 y18 y19 y20 y21 y22 y23 y24 y25 y26 y27 y28 y29 y30 y31 y32 y33 y34 y35 y36 y37 y38 y39 y40 y41 ah ai aj ak al am an ao ap aq ar au av aw ax ay az aA aB aC aD aE aF aG aH aI:Value} (w:World) (h:RWo w b M W Gs) (J:WfW W) (hi:i<W.c) (hp:0<=(W.ses i).p0) (R:Act->World->Prop)
 (hR:∀(u17 u18 u19 u20 u21 u22 u23 u24 u25 u26 u27 u28 u29 u30 u31 u32 u33 u34 u35 u36 u37 u38 u39 u40 u41:Value) (o p q r s t v x:Int) (y:List Wr) (z:Option Addr) (B:Nat) (ce:Int) (mb:Nat) (wc:World),jb5 w b M W Gs i (⟨⟨o,p,q,r,s,t,v,x,y⟩,z,B⟩:TxM) ce mb wc->R ⟨List.toArray ((PP b)::(U i)::Q::S::V::Y::(U (W.at_ i))::(PP mb)::(U ce)::Z::aa::ab::ac::ad::ae::af::ag::u17::u18::u19::u20::u21::u22::u23::u24::u25::u26::u27::u28::u29::u30::u31::u32::u33::u34::u35::u36::u37::u38::u39::u40::u41::ah::ai::aj::ak::al::am::an::ao::ap::aq::ar::au::av::aw::ax::ay::az::aA::aB::aC::aD::aE::aF::aG::aH::aI::[]),[]⟩ wc):
 Code.wp Tryz.prog jbg (Exit.then R (λ_ _ _=>False)) ⟨List.toArray ((PP b)::(U i)::Q::S::V::Y::(U (W.at_ i))::y7::y8::Z::aa::ab::ac::ad::ae::af::ag::y17::y18::y19::y20::y21::y22::y23::y24::y25::y26::y27::y28::y29::y30::y31::y32::y33::y34::y35::y36::y37::y38::y39::y40::y41::ah::ai::aj::ak::al::am::an::ao::ap::aq::ar::au::av::aw::ax::ay::az::aA::aB::aC::aD::aE::aF::aG::aH::aI::[]),[]⟩ w:=by
 have HR:Hid _:=hR;clear hR;have C:=J.at_ i hi
 have CM:Hid (∀wA,Bw w wA->Ca 81 #[PP (M.bs i),.pointer (some (AD (M.bp (W.at_ i)) 0)),U (W.wall (W.at_ i))] wA λe wB=>∃(o p q r s t v x:Int) (y:List Wr) (z:Option Addr) (B:Nat) (ce:Int),e=.returned (.tuple #[.agg (List.toArray (T9 o p q r s t v x z y.length B)),U ce])/\Hid (qi9 wA b M W Gs i (⟨⟨o,p,q,r,s,t,v,x,y⟩,z,B⟩:TxM) ce wB)):=λwA hA=>by
  have F:=h.later hA;refine(qmi (W.wall (W.at_ i)) wA (F.sess hi) (F.site C) (J.inv _ C) (λk e1 e2=>F.fam.apart _ _ k (by omega) (by omega) (by omega) e1 e2) hp).mono λe wB ⟨⟨⟨o,p,q,r,s,t,v,x,y⟩,z,B⟩,he,hm,hh⟩=>⟨o,p,q,r,s,t,v,x,y,z,B,_,he,rfl,hm,hh.out.1,?_⟩;obtain⟨F',hFE,hl⟩:=hh.out.2;obtain⟨Gs',r1,r2,r3⟩:=F.com hi C hFE.1 hl;exact⟨F',Gs',r1,r2,r3,hFE.2⟩
 have d:=hd3 h hi C;obtain⟨g,cap,K,hcap,hg,hc⟩:=h.sitesAt C;have c0':=hc _ C;obtain⟨ca,cca,da,dda,L,hcl,c3,hdl,G⟩:=h.clientsAt;obtain⟨N,cg',rfl,rfl,hcg,hcg',G⟩:=G (by omega);have c2':=(G i hi).1;obtain⟨wv,wcp,hwv,wr⟩:=qq h.wr
 obtain⟨O,rfl,hwg,hwc⟩:∃g,wv=some (AD g 0)/\g<w.heap.size/\∀j u,(qdw W.wall W.n)[j]?=some u->w.cell? (AD g j)=some u:=by
  rcases wr.held with h0|h0
  ·omega
  exact h0
 have P:=h.box.c 1;rw[hwv]at P;have c1':=hwc _ _ (qie C);have hwl:=wr.len;have hlt:=h.box.lt
 have q1:(i:Int)<(W.c:Int):=by omega
 have q2:(W.at_ i:Int)<(W.n:Int):=by omega
 have FL:=h.ltF
 have H:ql b M b:=by simp[ql,vx]
 have fs:ql b M g:=by have:=h.box.c 0;rw[K]at this;unfold ql vx;rw[<-jcu this];simp[Value.ownBlock]
 have fw:ql b M O:=by unfold ql vx;rw[hwv];simp[Value.ownBlock]
 have fc:ql b M N:=by have:=h.box.c 2;rw[L]at this;unfold ql vx;rw[<-jcu this];simp[Value.ownBlock]
 have K0:=λ(w':World) (k:jg (ql b M) w w')=>(jch (w:=w) (a:=AD b 0) (k.block b H)).trans K;have K1:=λ(w':World) (k:jg (ql b M) w w')=>(jch (w:=w) (a:=AD b 1) (k.block b H)).trans P;have K2:=λ(w':World) (k:jg (ql b M) w w')=>(jch (w:=w) (a:=AD b 2) (k.block b H)).trans L;have K3:=λ(w':World) (k:jg (ql b M) w w')=>(jch (w:=w) (a:=AD g (W.at_ i)) (k.block g fs)).trans c0';have K4:=λ(w':World) (k:jg (ql b M) w w')=>(jch (w:=w) (a:=AD O (W.at_ i)) (k.block O fw)).trans c1';have K5:=λ(w':World) (k:jg (ql b M) w w')=>(jch (w:=w) (a:=AD N i) (k.block N fc)).trans c2';have K00:jg (ql b M) w w:=⟨rfl,rfl,rfl,jcd _,λ_ _=>rfl⟩;have KD:=vy K00;clear h hc G hwc J wr hi C K P L c0' c1' c2' H fs fw fc
 conv=>arg 2;whnf
 go_region_held3 (λw'=>jg (ql b M) w w') (repeat (first|(with_reducible assumption)|(with_reducible refine qwr FL ?_ _)|(with_reducible refine vy ?_)|(refine qzv FL ?_ (by first|exact jcd _|assumption|(simp;omega)) _))) (first
  |(go_at_call 81
    with_reducible refine(CM.out w.drew (jcc _ w).drew).mono ?_
    rintro e wB ⟨o,p,q,r,s,t,v,x,y,z,B,ce,rfl,D⟩;have E:Bw w _:=(jcc _ w).drew;have I:=D.out.keeps d.out.1 d.out.2.1 d.out.2.2 E;have hbs:=I.size
    have hs0:=hlt)
  |(go_at_call 81
    with_reducible refine(CM.out (w.alloc (.cells ZA 102)).drew (boxed (jcc _ w) (.cells ZA 102)).drew).mono ?_
    rintro e wB ⟨o,p,q,r,s,t,v,x,y,z,B,ce,rfl,D⟩;have E:Bw w _:=(boxed (jcc _ w) (.cells ZA 102)).drew;have I:=D.out.keeps d.out.1 d.out.2.1 d.out.2.2 E;have hbs:=I.size;have RW0:=(qd.new (w:=w) (T:=102) (n:=w.heap.size) ZL rfl).drew;have l:=D.out.box d.out.1 d.out.2.1 d.out.2.2 RW0;obtain⟨v0,v1,v2,v3,v4,v5,v6,v7,v8⟩:=l.c9;have f0:=l.f 0;have f1:=l.f 1;have f2:=l.f 2;have f3:=l.f 3;have f4:=l.f 4;have f5:=l.f 5;have f6:=l.f 6;have f7:=l.f 7
    have f8:=l.f 8))
 all_goals
  first
   |(have hck:=l.lt
     go_simp
     refine HR.out _ _ _ _ _ _ _ _ _ _ _ _ _ _ _ _ _ _ _ _ _ _ _ _ _ o p q r s t v x y z B ce _ _ ⟨yz l rfl _ _ _ _ _ _ _ _ _,jcd _,D.out.tj d.out.1 d.out.2.2 E (λk hk1 hk2=>qco (λe=>by simp at hk1;omega) _ _ _ _ _ _ _ _ _) (qaz (qc.ofBelow (jcc _ _)) (jcd _) _ _ _ _ _ _ _ _ _)⟩)
   |(go_simp
     refine HR.out _ _ _ _ _ _ _ _ _ _ _ _ _ _ _ _ _ _ _ _ _ _ _ _ _ o p q r s t v x y z B ce _ _ ⟨qd.new (w:=wB) (T:=102) (T9 o p q r s t v x z y.length B) rfl,I.size,D.out.tj d.out.1 d.out.2.2 E (λk hk1 hk2=>(boxed (jcc _ wB) _).block k hk2) (qc.ofBelow (boxed (jcc _ wB) _))⟩)
end
section
open Go.RowKit
def q6p (w:World) (b:Nat) (G:Nat->Prop) (W:WoS) (i:Nat) (e:Ending) (w':World):Prop:=
 ∃m:TxM,e=.returned (.tuple #[txV m,U (wcE W i)])/\m.t=wcT W i/\Hid (qr w' m.wa m.wc m.t.ws/\∃G',RW w' b G' (wcW W i)/\(∀k,G' k->G k\/w.heap.size<=k)/\qc G w w'/\∀k,m.blk k->G' k)
variable {w:World} {b:Nat}
theorem qh6 {tmps:Array Value} {x0 x1 x2 x3 d e f g:Int} {ev:Value} {a:Option Addr} {n c:Nat} (h:qd w b (T9 x0 x1 x2 x3 d e f g a n c)) (j:tmps[4]?=some (PP b)) (k:tmps[5]?=some ev):
 (results Tryz.f34 tmps).run Tryz.prog w=.ok (.tuple #[.agg (List.toArray (T9 x0 x1 x2 x3 d e f g a n c)),ev]) w:=by
 obtain⟨l,o,p,q,r,s,t,u,v⟩:=h.c9;simp[results,Tryz.results34,go_sem,j,k,l,o,p,q,r,s,t,u,v]
structure quy (w wr:World) (b:Nat) (G:Nat->Prop) (W':WoS) (m:TxM) (mb:Nat):Prop where
 rt:qd wr w.heap.size ZL
 rm:qd wr mb (txC m)
 ne:w.heap.size<mb
 wi:qr wr m.wa m.wc m.t.ws
 all:∃G',RW wr b G' W'/\(∀k,G' k->G k\/w.heap.size<k)/\qc (λk=>G k\/k=w.heap.size) w wr/\(∀k,m.blk k->G' k)
def jat (w:World) (b:Nat) (M:RoM) (W:WoS) (Gs:Nat->Nat->Prop) (i:Nat) (m:TxM) (F':Nat->Option Obj) (Gs':Nat->Nat->Prop) (mb:Nat) (wC:World):Prop:=qd wC mb (txC m)/\w.heap.size<=mb/\qr wC m.wa m.wc m.t.ws/\RWo wC b {M with F:=jj M.F (W.at_ i) F'} (qd4 W i) Gs'/\(∀j k,Gs' j k->Gs j k\/w.heap.size<=k)/\qc (λk=>Gs (W.n+i) k\/Gs (W.at_ i) k) w wC/\∀k,m.blk k->∃o,F' k=some o
variable {i mb:Nat} {G:Nat->Prop} {W:WoS} {m:TxM} {wr:World}
theorem jat.told {M:RoM} {t:Nat->Nat->Prop} {g:World} {W':WoS} (h:RWo w b M W t) (a:∀k,G k↔qg6 b M (W.n+W.c) t k) (hi:i<W.c) (u:W.at_ i<W.n) {F':Nat->Option Obj} {d:Nat->Nat->Prop} (H:jat (w.nu ZA 102) b M W t i m F' d mb g) (y:qc5 g b {M with F:=jj M.F (W.at_ i) F'} d W' wr) (v:W'.n=W.n) (z:W'.c=W.c):quy w wr b G W' m mb:=by
 obtain⟨A,Z,N,O,Q,p,B⟩:=H
 have aa:(w.nu ZA 102).heap.size=w.heap.size+1:=by simp
 have P:=y.post (W:=qd4 W i) (G:=qg6 b M (W.n+W.c) d) (λ_=>jdl) v z;obtain⟨x,C,p1,p2,f⟩:=y;obtain⟨G2,q1,q2,q3⟩:=P;have s1:=p.size
 have R:∀k,k=b\/M.yv.ownBlock=some k->k<w.heap.size:=λk e=>h.ltF k (by
  rcases e with e|e
  ·rw[e];simp[ql,vx]
  unfold ql vx;rw[e];simp)
 have D:∀k,w.heap.size<=k->¬(k=b\/M.yv.ownBlock=some k):=λk E e=>by have:=R k e;omega
 have S:=λk (E:w.heap.size<=k)=>qi9.lie (i:=i) h hi u E;have I:=qd.new (w:=w) (T:=102) (n:=w.heap.size) ZL rfl;have J:qd g w.heap.size _:=I.kept (p.block _ I.lt (S _ (jcd _))) p.size
 have V:∀k,qg6 b M (W.n+W.c) d k->G k\/w.heap.size<k:=λk e=>by
  rcases e with e|⟨j,X,e⟩
  ·exact .inl ((a k).2 (.inl e))
  exact(Q j k e).imp (λq=>(a k).2 (.inr ⟨j,X,q⟩)) (λq=>by omega)
 have Y:qc (λk=>G k\/k=w.heap.size) w g:=(qc.ofBelow (boxed (jcc _ w) _)).more p (λk e=>.inl (.inl (e.elim (λq=>(a k).2 (.inr ⟨_,by omega,q⟩)) (λq=>(a k).2 (.inr ⟨_,by omega,q⟩)))))
 have K:W.at_ i<W'.n:=by rw[v];exact u
 have L:∀{k o},F' k=some o->({M with F:=jj M.F (W.at_ i) F',yv:=x,l:=C}:RoM).F (W.at_ i) k=some o:=λ{k o} e=>by show jj M.F (W.at_ i) F' (W.at_ i) k=_;rw[qt];exact e
 refine⟨J.kept (f.block _ J.lt (D _ (jcd _))) f.size,A.kept (f.block _ A.lt (D _ (by omega))) f.size,by omega,?_,?_⟩
 ·refine N.kept (m:=m) (λk e=>?_);obtain⟨o,s⟩:=B k e;exact((p1.site K).frozen (L s)).trans ((O.site (i:=W.at_ i) u).frozen (o:=o) (k:=k) (by show jj M.F (W.at_ i) F' (W.at_ i) k=_;rw[qt];exact s)).symm
 refine⟨qg6 b {M with F:=jj M.F (W.at_ i) F',yv:=x,l:=C} (W'.n+W'.c) d,⟨_,d,p1,λ_=>jdl⟩,λk e=>?_,Y.more f (λk e=>.inl (.inl ((a k).2 (.inl (by
  rcases e with e|e
  ·rw[e];simp[ql,vx]
  unfold ql vx;rw[e];simp))))),λk e=>?_⟩
 ·rw[v,z]at e;rcases e with e|e
  ·have e:some k∈[some b,M.sv.ownBlock,M.wv.ownBlock,M.cv.ownBlock,M.av.ownBlock]++[x.ownBlock]:=e;rcases jcf.1 e with q|q
   ·exact .inl ((a k).2 (.inl (List.mem_append_left [M.yv.ownBlock] q)))
   rcases p2 k (jcj.1 q).symm with r|r
   ·exact .inl ((a k).2 (.inl (by unfold ql vx;rw[r];simp)))
   exact .inr (by omega)
  exact V k (.inr e)
 obtain⟨o,s⟩:=B k e;exact .inr ⟨W.at_ i,by omega,(p1.site K).frozenG (L s)⟩
theorem quy.done (h:quy w wr b G (wcW W i) m mb) (j:∀k,G k->k<w.heap.size) {d:World} (a:qc (λk=>k=w.heap.size) wr d):Hid (qr d m.wa m.wc m.t.ws/\∃c,RW d b c (wcW W i)/\(∀k,c k->G k\/w.heap.size<=k)/\qc G w d/\∀k,m.blk k->c k):=by
 obtain⟨c,a1,a2,a3,f⟩:=h.all
 have g:∀k,c k->k≠w.heap.size:=λk e q=>by
  rcases a2 k e with r|r
  ·have:=j k r;omega
  omega
 refine⟨h.wi.kept (m:=m) (λk e=>a.block k (a1.lt k (f k e)) (g k (f k e))),c,a1.kept (λk e=>a.block k (a1.lt k e) (g k e)) a.size,λk e=>(a2 k e).imp id (λq=>by omega),?_,f⟩;have s:=a3.size;exact⟨a.os.trans a3.os,a.tape.trans a3.tape,a.output.trans a3.output,jcn s a.size,λk l n=>(a.block k (by omega) (by omega)).trans (a3.block k l (λe=>e.elim n (by omega)))⟩
theorem q5w (h:¬0<(wcT W i).seq):wcW W i=qd4 W i:=if_neg h
theorem q9e (h:0<(wcT W i).seq):wcW W i=qam (wcT W i) W.n (qd4 W i):=if_pos h
theorem q2t (w:World) (h:RW w b G W) (L:WfW W) (hi:i<W.c) (hp:0<=(W.ses i).p0) (hs:0<(wcT W i).seq->(wcT W i).site=(W.at_ i:Int)):
 Ca 34 #[PP b,U i] w (q6p w b G W i):=by
 obtain⟨M,Gs,h,S⟩:=h;have ha:=L.at_ i hi;have hb0:=boxed (jcc _ w) (.cells ZA 102);have T:=h.later hb0;have HGL:=hd1 (RW.lt ⟨M,Gs,h,S⟩);have u:=hd6 h S hi ha L.n4 hs;have N:=hd3 T L hp;obtain⟨ca,cca,da,dda,c2,hcl,c3,hdl,O⟩:=T.clientsAt;obtain⟨cg,cg',rfl,rfl,hcg,hcg',O⟩:=O (by omega);have c3':=(O i hi).2;have hlt:=h.box.lt
 have q1:(i:Int)<(W.c:Int):=by omega
 clear h S L O T hi ha hs hp c2;go_enter Tryz.func34,Tryz.ntmps34
 go_wp2_with fail
 refine qma (q1p (i:=i) _ N.out.1 N.out.2.1 u.out.2.2.1 N.out.2.2 _ ?_);rintro u17 u18 u19 u20 u21 u22 u23 u24 u25 u26 u27 u28 u29 u30 u31 u32 u33 u34 u35 u36 u37 u38 u39 u40 u41 a d f g j l o p t x y ce mb J ⟨V,hmb,h1,h2,h3,F',X,h4,h5,tt,h6⟩;have C:=hd2 h1 h2;have D:Hid (jat (w.nu ZA 102) b M W Gs i (⟨⟨a,d,f,g,j,l,o,p,t⟩,x,y⟩:TxM) F' X mb J):=⟨V,hmb,h3,h4,h5,tt,h6⟩;have Y:=V;clear N h1 h2 h3 h4 h5 tt h6 V c3 c3' hmb;have lm:=Y.lt;obtain⟨x0,x1,x2,x3,Z,x5,x6,x7,x8⟩:=Y.c9;clear Y;by_cases hE:ce=0;subst hE;by_cases hsq:0<d
 ·have HT:Hid (wcW W i=qam ⟨a,d,f,g,j,l,o,p,t⟩ W.n (qd4 W i)/\a=(W.at_ i:Int)):=by
   have e:0<(wcT W i).seq:=by rw[<-C.out.2];exact hsq
   refine⟨?_,?_⟩
   ·rw[q9e e,<-C.out.2]
   have:=u.out.2.2.2.2.2 e;rw[<-C.out.2]at this;exact this
  obtain⟨sg,scap,s0o,hscap,hsg,hsc⟩:=D.out.2.2.2.1.sitesAt (i:=W.at_ i) u.out.2.2.2.1;have hlC:=D.out.2.2.2.1.box.lt;have s0:J.cell? (AD b 0)=some (.slice (PT sg) W.n scap):=s0o;have hscap:W.n<=scap:=hscap;clear hsc s0o
  go_wp2_with fail
  clear s0 x0 x1 x2 x3 Z x5 x6 x7 x8
  go_loopw [54] (λiv wr=>∃(k:Nat) (z:Int),k<=W.n/\z=k/\iv=U z/\Hid (qc5 J b {M with F:=jj M.F (W.at_ i) F'} X (qam ⟨a,d,f,g,j,l,o,p,t⟩ k (qd4 W i)) wr)) (λiv _=>W.n-(intOf iv).toNat)
  case atStart=>exact⟨0,0,by omega,rfl,rfl,qc5.none D.out.2.2.2.1 (jcc _ _)⟩
  obtain⟨k,z,hk,hz,rfl,P⟩:=hrel;have E:=hd1 hz;by_cases hlt2:k<W.n
  ·have g1:z<(W.n:Int):=by omega
   have g2:z.toNat=k:=by omega
   have g3:0<=z:=by omega
   have g4:z<4:=by have:=u.out.2.2.2.2.1;omega
   clear hz;obtain⟨ai,hai⟩:∃ai:Int,(W.at_ i:Int)=ai:=⟨_,rfl⟩;have HAI:=hd1 hai;rw[hai];clear hai;by_cases hka:z=ai
   ·have HT2:Hid (qam ⟨a,d,f,g,j,l,o,p,t⟩ (k+1) (qd4 W i)=qam ⟨a,d,f,g,j,l,o,p,t⟩ k (qd4 W i)):=if_pos (by show (k:Int)=a;rw[HT.out.2,HAI.out,<-E.out];exact hka);subst hka
    go_wp2_with fail
    go_roundw
    case rel=>exact⟨k+1,z+1,by omega,by have:=E.out;omega,by go_num,by rw[HT2.out];exact P.out⟩
    simp[intOf];have:=E.out;omega
   have HT2:Hid (qam ⟨a,d,f,g,j,l,o,p,t⟩ (k+1) (qd4 W i)=zk (qam ⟨a,d,f,g,j,l,o,p,t⟩ k (qd4 W i)) ⟨k,.tx ⟨a,d,f,g,j,l,o,p,t⟩⟩):=if_neg (by show ¬(k:Int)=a;rw[HT.out.2,HAI.out,<-E.out];exact hka);have v:=hd1 (D.out.told u.out.1 u.out.2.1 u.out.2.2.1 u.out.2.2.2.1 P.out (zx _ _ _).n (zx _ _ _).c);have RMr:=v.out.rm;have lmr:=RMr.lt;obtain⟨x0,x1,x2,x3,Z,x5,x6,x7,x8⟩:=RMr.c9
   have SX:Hid (Ca 82 #[PP b,.agg #[U z,U a,U d,U f,U g,U j,U l,U o,U p,.slice x t.length y,U 0,U 0,U 0,U 0,U 0]] wr λe w'=>e=.returned (.tuple #[])/\qc5 J b {M with F:=jj M.F (W.at_ i) F'} X (zk (qam ⟨a,d,f,g,j,l,o,p,t⟩ k (qd4 W i)) ⟨k,.tx ⟨a,d,f,g,j,l,o,p,t⟩⟩) w'):=by
        obtain⟨yv',l',p1,p2,Q⟩:=P.out
        have hin:W.at_ i<(qam ⟨a,d,f,g,j,l,o,p,t⟩ k (qd4 W i)).n:=by rw[(zx _ _ _).n];exact u.out.2.2.2.1
        have ok:GrR.Ok wr (qam ⟨a,d,f,g,j,l,o,p,t⟩ k (qd4 W i)).n ({M with F:=jj M.F (W.at_ i) F'}:RoM).F ⟨⟨k,.tx ⟨a,d,f,g,j,l,o,p,t⟩⟩,x,y⟩:=by
         refine⟨v.out.wi,λq e=>?_,λ_ _ _ _ _ e=>by simp at e⟩;obtain⟨ob,hob⟩:=D.out.2.2.2.2.2.2 q e;exact⟨W.at_ i,ob,hin,by show jj M.F (W.at_ i) F' (W.at_ i) q=_;rw[qt];exact hob⟩
        refine(qlu wr p1 ⟨⟨k,.tx ⟨a,d,f,g,j,l,o,p,t⟩⟩,x,y⟩ ok (by rw[E.out];rfl)).mono λe w' ⟨he,R⟩=>⟨he,?_⟩;have s:=Q.size;obtain⟨yv2,l2,g1',g2',gt⟩:=R;refine⟨yv2,l2,g1',λq e=>(g2' q e).elim (p2 q) (λr=>.inr (by omega)),Q.more gt (λq e=>?_)⟩;exact e.elim (λr=>.inl (.inl r)) (λr=>(p2 q r).imp .inr id)
   clear RMr v
   go_wp2_with fail
   refine SX.out.mono ?_;rintro e w5 ⟨rfl,R⟩;have SN:=hd1 R;clear SX R x0 x1 x2 x3 Z x5 x6 x7 x8
   go_wp2_with fail
   go_roundw
   case rel=>exact⟨k+1,z+1,by omega,by have:=E.out;omega,by go_num,by rw[HT2.out];exact SN.out⟩
   simp[intOf];have:=E.out;omega
  have g1:¬z<(W.n:Int):=by omega
  have e:k=W.n:=by omega
  clear hz
  have v:Hid (quy w wr b G (wcW W i) (⟨⟨a,d,f,g,j,l,o,p,t⟩,x,y⟩:TxM) mb):=by have:=D.out.told u.out.1 u.out.2.1 u.out.2.2.1 u.out.2.2.2.1 P.out (zx _ _ _).n (zx _ _ _).c;rw[e,<-HT.out.1]at this;exact this
  have H:=v.out.rm;have B:=v.out.rt;obtain⟨y0,y1,y2,y3,y4,y5,y6,y7,y8⟩:=H.c9;obtain⟨t0,t1,Q,t3,t4,t5,t6,t7,t8⟩:=B.c9;obtain⟨f0,f1,f2,f3,f4,f5,f6,f7,f8⟩:=B.f9;have I:=And.intro (yz B rfl a d f g j l o p (.slice x t.length y)) (v.out.done HGL.out (qaz (F:=λk=>k=w.heap.size) (qc.ofBelow (jcc _ wr)) rfl a d f g j l o p (.slice x t.length y)));simp only[js]at I;have K:Hid _:=I;have lm:=H.lt;have lr:=B.lt;have nm:=v.out.ne;clear I H B
  go_wp2_with fail
  (try simp only[Exit.inBlock,Exit.then])
  refine bodyPost_ret (qh6 K.out.1 rfl rfl) rfl ⟨(⟨⟨a,d,f,g,j,l,o,p,t⟩,x,y⟩:TxM),by rw[<-C.out.1];rfl,C.out.2,K.out.2⟩
 have HN:=hd1 (q5w (by rw[<-C.out.2];exact hsq))
 rotate_left
 have HN:=hd1 (q5w (by
  have e:wcE W i≠0:=by rw[<-C.out.1];exact hE
  have q:=qvj e;show ¬0<(qce _ _ _).seq;rw[q.1]
  decide))
 all_goals
  have v:Hid (quy w J b G (wcW W i) (⟨⟨a,d,f,g,j,l,o,p,t⟩,x,y⟩:TxM) mb):=by have:=D.out.told u.out.1 u.out.2.1 u.out.2.2.1 u.out.2.2.2.1 (qc5.none D.out.2.2.2.1 (jcc _ _)) rfl rfl;rw[<-HN.out]at this;exact this
  have H:=v.out.rm;have B:=v.out.rt;obtain⟨y0,y1,y2,y3,y4,y5,y6,y7,y8⟩:=H.c9;obtain⟨t0,t1,Q,t3,t4,t5,t6,t7,t8⟩:=B.c9;obtain⟨f0,f1,f2,f3,f4,f5,f6,f7,f8⟩:=B.f9;have I:=And.intro (yz B rfl a d f g j l o p (.slice x t.length y)) (v.out.done HGL.out (qaz (F:=λk=>k=w.heap.size) (qc.ofBelow (jcc _ J)) rfl a d f g j l o p (.slice x t.length y)));simp only[js]at I;have K:Hid _:=I;have lm:=H.lt;have lr:=B.lt;have nm:=v.out.ne;clear I H B
  go_wp2_with fail
  (try simp only[Exit.inBlock,Exit.then])
  refine bodyPost_ret (qh6 K.out.1 rfl rfl) rfl ⟨(⟨⟨a,d,f,g,j,l,o,p,t⟩,x,y⟩:TxM),by rw[<-C.out.1];rfl,C.out.2,K.out.2⟩
end
section
open Go.RowKit
structure qhp (w:World) (hb b:Nat) (Gw:Nat->Prop) (W:WoS):Prop where
 box:w.heap[hb]?=some (.cells #[PP b] 49 (0,0))
 rw:RW w b Gw W
 n:¬Gw hb
def q2o (hb:Nat) (W:WoS) (w:World) (G:Nat->Prop):Prop:=∃b Gw,qhp w hb b Gw W/\∀k,G k↔(k=hb\/Gw k)
variable {w1:World}
section
variable {w w':World} {hb b:Nat} {Gw G:Nat->Prop} {W W':WoS}
theorem qhp.lt (h:qhp w hb b Gw W):hb<w.heap.size:=(jcs.1 h.box).1
theorem qhp.kept (h:qhp w hb b Gw W) (a:∀k,(k=hb\/Gw k)->w'.heap[k]?=w.heap[k]?) (d:w.heap.size<=w'.heap.size):qhp w' hb b Gw W:=
 ⟨(a hb (.inl rfl)).trans h.box,h.rw.kept (λk e=>a k (.inr e)) d,h.n⟩
theorem q2o.lt (h:q2o hb W w G):∀k,G k->k<w.heap.size:=λk a=>by
 obtain⟨b,Gw,h,d⟩:=h;rcases(d k).1 a with rfl|e
 ·exact h.lt
 exact h.rw.lt k e
theorem q2o.kept (h:q2o hb W w G) (d:∀k,G k->w'.heap[k]?=w.heap[k]?) (g:w.heap.size<=w'.heap.size):q2o hb W w' G:=by
 obtain⟨b,Gw,h,a⟩:=h;exact⟨b,Gw,h.kept (λk e=>d k ((a k).2 e)) g,a⟩
def hsP (hb:Nat) (W:WoS):qfr:=⟨λw G=>q2o hb W w G,λ_ _ h=>h.lt,λ_ _ _ h=>h.kept⟩
theorem qhp.later (h:qhp w hb b Gw W) (a:Bw w w'):qhp w' hb b Gw W:=
 h.kept (λk e=>a.block k (by rcases e with rfl|e;exact h.lt;exact h.rw.lt k e)) a.size
theorem qhp.cell (h:qhp w hb b Gw W):w.cell? (AD hb 0)=some (PP b):=by rw[Lib.cell_of_heap h.box];rfl
theorem qhp.op (h:qhp w hb b Gw W) (d:∀k,G k↔(k=hb\/Gw k)) (g:Bw w w1) (m:qae w1 b Gw W' w'):qbi (hsP hb W') w G w':=by
 obtain⟨j,p1,p2,a⟩:=m;have l:=h.later g;have lc:=l.lt;refine⟨λk=>k=hb\/j k,⟨b,j,⟨(a.block hb lc h.n).trans l.box,p1,λe=>?_⟩,λ_=>jdl⟩,λk i=>?_,?_⟩
 ·rcases p2 hb e with q|q
  ·exact h.n q
  omega
 ·rcases i with rfl|e
  ·exact .inl ((d k).2 (.inl rfl))
  rcases p2 k e with q|q
  ·exact .inl ((d k).2 (.inr q))
  exact .inr (jcn g.size q)
 exact(qc.ofBelow g).trans ⟨a.os,a.tape,a.output,a.size,λk i o=>a.block k i (λe=>o ((d k).2 (.inr e)))⟩
theorem qhp.same (h:qhp w hb b Gw W) (d:∀k,G k↔(k=hb\/Gw k)) (a:Bw w w'):qbi (hsP hb W) w G w':=
 ⟨G,⟨b,Gw,h.later a,d⟩,λ_ e=>.inl e,qc.ofBelow a⟩
theorem q7n (h:qbi (hsP hb W') w G w1) (a:Bw w1 w'):qbi (hsP hb W') w G w':=by
 obtain⟨d,p1,p2,g⟩:=h;exact⟨d,p1.kept (λk e=>a.block k (p1.lt k e)) a.size,p2,g.trans (qc.ofBelow a)⟩
end
variable {w:World} {W:WoS}
theorem RW.lens {b:Nat} {G:Nat->Prop} (h:RW w b G W):∃a0 a a2 d e g,w.cell? (AD b 0)=some (.slice a0 W.n a)/\w.cell? (AD b 2)=some (.slice a2 W.c d)/\w.cell? (AD b 4)=some (.slice e W.net.length g)/\w.cell? (AD b 5)=some (U W.lost)/\b<w.heap.size:=by
 obtain⟨M,r,h,_⟩:=h;obtain⟨a0,a,m,_⟩:=qq h.sr;obtain⟨a2,d,o,_⟩:=qq h.cr;obtain⟨e,g,p,_⟩:=qq h.yr
 have q:M.l.length=W.net.length:=by rw[<-h.nl];simp
 have i:=h.box.c 0;have j:=h.box.c 2;have k:=h.box.c 4;rw[m]at i;rw[o]at j;rw[p,q]at k;exact⟨a0,a,a2,d,e,g,i,j,k,h.box.c 5,h.box.lt⟩
structure qx9 (w:World) (B:Nat) (a:Option Addr) (cap:Nat) (ns:List Int):Prop where
 cap:ns.length<=cap
 cell:∀(j:Nat) x,ns[j]?=some x->∃g,a=some (AD g 0)/\B<=g/\g<w.heap.size/\w.cell? (AD g j)=some (U x)
variable {ns:List Int}
theorem qx9.later {w':World} {B:Nat} {a:Option Addr} {cap:Nat} (h:qx9 w B a cap ns) (hb:Bw w w'):qx9 w' B a cap ns:=
 ⟨h.cap,λj x e=>by obtain⟨g,i,k,d,l⟩:=h.cell j x e;exact⟨g,i,k,jci d hb.size,(hb.cell (p:=AD g j) d).trans l⟩⟩
def thC (W:WoS) (c:UInt8) (n:Int):Bool:=if c=99 then inB n 0 ((W.c:Int)-1)else if c=115 then inB n 0 ((W.n:Int)-1)else if c=105 then inB n 0 ((W.net.length:Int)-1)else true
def thB (W:WoS):List UInt8->List Int->Bool
 |[],_=>true
 |c::f,ns=>if c=119 then thB W f ns else match ns with
  |[]=>true
  |n::r=>thC W c n&&thB W f r
def qhk:List UInt8->Nat
 |[]=>0
 |c::f=>if c=119 then qhk f else qhk f+1
variable {c:UInt8} {f:List UInt8}
theorem jbm (e:c=119):thB W (c::f) ns=thB W f ns:=if_pos e
theorem jbl {n:Int} {r:List Int} (e:¬c=119):thB W (c::f) (n::r)=(thC W c n&&thB W f r):=if_neg e
theorem q54 (e:c=119):qhk (c::f)=qhk f:=if_pos e
theorem qxs (e:¬c=119):qhk (c::f)=qhk f+1:=if_neg e
end
section
open Go.RowKit
theorem qxb {hb b B:Nat} {Gw:Nat->Prop} {W:WoS} {a:Option Addr} {cap:Nat} (f:List UInt8) (ns:List Int) (hf:f.length<=3) (ha:∀c∈f,c.toNat<128) (hn:qhk f=ns.length) (w:World) (h:qhp w hb b Gw W) (X:WfW W) (hN:qx9 w B a cap ns):
 Ca 30 #[PP hb,.string (bya f),.slice a ns.length cap] w (Rn (.bool (thB W f ns)) w):=by
 have hne:=qb.one;have hcn:=X.c6;have hnn:=X.n4;have hnet:=X.net;have hcap:=hN.cap;obtain⟨a0,k0,a2,k2,a4,k4,c0,c2,c4,_,hbl⟩:=h.rw.lens;have hc:=h.cell;have hbox:=h.lt;have HN:=hd1 hN;have HA:=hd1 ha
 have hn3:ns.length<=3:=by
  have:∀l:List UInt8,qhk l<=l.length:=λl=>by
   induction l with
   |nil=>exact jcd _
   |cons c r ih=>unfold qhk;split<;>simp only[List.length_cons]<;>omega
  have:=this f;omega
 have HF:=hd1 hn;clear h X hN ha hn;go_enter Tryz.func30,Tryz.ntmps30
 go_wp2
 go_loopw [7] (λkv wr=>∃(p k:Nat) (z:Int),p<=f.length/\k<=ns.length/\z=k/\kv=U z/\wr.heap[w.heap.size]?=some (.stringIter (bya f) p)/\Hid (thB W f ns=thB W (f.drop p) (ns.drop k)/\qhk (f.drop p)=(ns.drop k).length)/\Bw w wr) (λ_ wr=>f.length-wr.iterPos w.heap.size)
 case atStart=>exact⟨0,0,0,jcw _,jcw _,rfl,rfl,World.iter_heap w (bya f) 0,⟨rfl,HF.out⟩,(jcc _ w).alloc (jcd _) _⟩
 obtain⟨p,k,z,hp,hk,hz,rfl,H,Y,I⟩:=hrel;have R:=hd1 hz;have S:=hd1 H;by_cases Z:p<f.length
 ·obtain⟨c,T⟩:∃c,f[p]=c:=⟨_,rfl⟩
  have hdf:f.drop p=c::f.drop (p+1):=by rw[jdy Z,T]
  have C:(Instr.next (PP w.heap.size) true 0).run Tryz.prog wr=.ok (.tuple #[.bool true,U p,.int .i32 (c.toNat:Int)]) (wr.iterAt w.heap.size (bya f) (p+1)):=by
   have hs:p<(bya f).size:=by rw[Lib.size_eq];exact Z
   have hx:(bya f)[p]'hs=c:=by rw[<-T];rfl
   have:=Lib.run_next_ascii_at (P:=Tryz.prog) wr w.heap.size (bya f) p 0 H hs (by rw[hx];exact HA.out c (by rw[<-T];exact jdr Z));rw[hx]at this;exact this
  obtain⟨M,D⟩:∃M,wr.iterAt w.heap.size (bya f) (p+1)=M:=⟨_,rfl⟩
  have ot:∀j,j≠w.heap.size->M.heap[j]?=wr.heap[j]?:=λj hj=>by rw[<-D];exact Lib.iterAt_other _ _ _ _ _ hj
  have s1:M.heap.size=wr.heap.size:=by rw[<-D];exact Lib.iterAt_size _ _ _ _
  have aa:M.heap[w.heap.size]?=some (.stringIter (bya f) (p+1)):=by rw[<-D];exact Lib.iterAt_heap _ _ _ _ _ H
  have hb1:Bw w M:=by
   refine⟨?_,?_,?_,by rw[s1];exact I.size,λj hj=>(ot j (by omega)).trans (I.block j hj)⟩
   ·rw[<-D];exact I.os
   ·rw[<-D];exact I.tape
   rw[<-D];exact I.output
  have lt1:=(jcs.1 aa).1;rw[D]at C;have J:=hd1 aa;have u:=hd2 hb1 lt1;obtain⟨N,K⟩:=Y.out;rw[hdf]at N K;by_cases m:c=119
  ·have d:=hd2 (N.trans (jbm m)) ((q54 m).symm.trans K)
   have i:(c.toNat:Int)=119:=by rw[m];rfl
   rw[i]at C;clear i m N K hdf D ot H aa T
   go_wp2
   go_roundw
   case rel=>exact⟨p+1,k,z,by omega,hk,R.out,rfl,J.out,d.out,u.out.1⟩
   rw[iterPos_of J.out,iterPos_of S.out];omega
  have hk2:k<ns.length:=by
   rw[qxs m,jdt]at K;omega
  obtain⟨n,hnx⟩:∃n,ns[k]=n:=⟨_,rfl⟩
  have hdn:ns.drop k=n::ns.drop (k+1):=by rw[jdy hk2,hnx]
  obtain⟨g,rfl,_,hgl,cg⟩:=HN.out.cell k n (by rw[jcg hk2,hnx]);rw[hdn]at N K;have o:=N.trans (jbl m)
  have E:qhk (f.drop (p+1))=(ns.drop (k+1)).length:=by
   rw[qxs m,List.length_cons]at K;omega
  have O:=λ(q:Addr) (v:Value) (hq:q.block<w.heap.size) (e:w.cell? q=some v)=>qb.cell ((hb1.cell (p:=q) hq).trans e);have l0:=O (AD hb 0) _ hbox hc;have l1:=O (AD b 0) _ hbl c0;have l2:=O (AD b 2) _ hbl c2;have l4:=O (AD b 4) _ hbl c4;have l5:=O (AD g k) _ hgl cg
  have g1:0<=z:=by omega
  have g2:z<(ns.length:Int):=by omega
  have g3:z.toNat=k:=by omega
  have g4:z<3:=by omega
  clear N K hdf hdn D ot H aa T O hz hnx Y hb1;by_cases F:c=99
  ·have s:thC W c n=inB n 0 ((W.c:Int)-1):=by unfold thC;rw[if_pos F]
   have i:(c.toNat:Int)=99:=by rw[F];rfl
   cases hin:inB n 0 ((W.c:Int)-1)
   ·have y:=λx:World=>vj hin x
    have d:Hid (thB W f ns=false):=by show _=_;rw[o,s,hin];rfl
    clear hin s o F m;rw[i]at C;clear i
    go_wp2_with fail
    refine wrl ?_
    repeat (go_big_quiet_step (first|rfl|(go_at_call 28;with_reducible exact qg (y _))))
    refine wpQuiet_nil ?_;rintro w2 ⟨⟨_,t⟩,rfl⟩
    go_wp2
    go_ret;exact⟨by rw[d.out];rfl,qa u.out.1 t⟩
   have y:=λx:World=>vj hin x;have d:=hd2 (show thB W f ns=thB W (f.drop (p+1)) (ns.drop (k+1))from by rw[o,s,hin];rfl) E;clear hin s o E F m;rw[i]at C;clear i
   go_wp2_with fail
   refine wrl ?_
   repeat (go_big_quiet_step (first|rfl|(go_at_call 28;with_reducible exact qg (y _))))
   refine wpQuiet_nil ?_;rintro w2 ⟨⟨_,t⟩,rfl⟩;have G:=(t.block _ (by have:=u.out.2;omega)).trans J.out;have V:=qa u.out.1 t
   go_wp2
   go_roundw
   case rel=>exact⟨p+1,k+1,z+1,by omega,by omega,by have:=R.out;omega,by go_num,G,d.out,V⟩
   rw[iterPos_of G,iterPos_of S.out];omega
  by_cases L:c=115
  ·have s:thC W c n=inB n 0 ((W.n:Int)-1):=by unfold thC;rw[if_neg F,if_pos L]
   have i:(c.toNat:Int)=115:=by rw[L];rfl
   cases hin:inB n 0 ((W.n:Int)-1)
   ·have y:=λx:World=>vj hin x
    have d:Hid (thB W f ns=false):=by show _=_;rw[o,s,hin];rfl
    clear hin s o L m;rw[i]at C;clear i
    go_wp2_with fail
    refine wrl ?_
    repeat (go_big_quiet_step (first|rfl|(go_at_call 28;with_reducible exact qg (y _))))
    refine wpQuiet_nil ?_;rintro w2 ⟨⟨_,t⟩,rfl⟩
    go_wp2
    go_ret;exact⟨by rw[d.out];rfl,qa u.out.1 t⟩
   have y:=λx:World=>vj hin x;have d:=hd2 (show thB W f ns=thB W (f.drop (p+1)) (ns.drop (k+1))from by rw[o,s,hin];rfl) E;clear hin s o E L m;rw[i]at C;clear i
   go_wp2_with fail
   refine wrl ?_
   repeat (go_big_quiet_step (first|rfl|(go_at_call 28;with_reducible exact qg (y _))))
   refine wpQuiet_nil ?_;rintro w2 ⟨⟨_,t⟩,rfl⟩;have G:=(t.block _ (by have:=u.out.2;omega)).trans J.out;have V:=qa u.out.1 t
   go_wp2
   go_roundw
   case rel=>exact⟨p+1,k+1,z+1,by omega,by omega,by have:=R.out;omega,by go_num,G,d.out,V⟩
   rw[iterPos_of G,iterPos_of S.out];omega
  by_cases Q:c=105
  ·have s:thC W c n=inB n 0 ((W.net.length:Int)-1):=by unfold thC;rw[if_neg F,if_neg L,if_pos Q]
   have i:(c.toNat:Int)=105:=by rw[Q];rfl
   cases hin:inB n 0 ((W.net.length:Int)-1)
   ·have y:=λx:World=>vj hin x
    have d:Hid (thB W f ns=false):=by show _=_;rw[o,s,hin];rfl
    clear hin s o Q m;rw[i]at C;clear i
    go_wp2_with fail
    refine wrl ?_
    repeat (go_big_quiet_step (first|rfl|(go_at_call 28;with_reducible exact qg (y _))))
    refine wpQuiet_nil ?_;rintro w2 ⟨⟨_,t⟩,rfl⟩
    go_wp2
    go_ret;exact⟨by rw[d.out];rfl,qa u.out.1 t⟩
   have y:=λx:World=>vj hin x;have d:=hd2 (show thB W f ns=thB W (f.drop (p+1)) (ns.drop (k+1))from by rw[o,s,hin];rfl) E;clear hin s o E Q m;rw[i]at C;clear i
   go_wp2_with fail
   refine wrl ?_
   repeat (go_big_quiet_step (first|rfl|(go_at_call 28;with_reducible exact qg (y _))))
   refine wpQuiet_nil ?_;rintro w2 ⟨⟨_,t⟩,rfl⟩;have G:=(t.block _ (by have:=u.out.2;omega)).trans J.out;have V:=qa u.out.1 t
   go_wp2
   go_roundw
   case rel=>exact⟨p+1,k+1,z+1,by omega,by omega,by have:=R.out;omega,by go_num,G,d.out,V⟩
   rw[iterPos_of G,iterPos_of S.out];omega
  have e119':¬((c.toNat:Int)=119):=λq=>m (UInt8.toNat.inj (by show c.toNat=119;omega));have e99':¬((c.toNat:Int)=99):=λq=>F (UInt8.toNat.inj (by show c.toNat=99;omega));have e115':¬((c.toNat:Int)=115):=λq=>L (UInt8.toNat.inj (by show c.toNat=115;omega));have e105':¬((c.toNat:Int)=105):=λq=>Q (UInt8.toNat.inj (by show c.toNat=105;omega));have d:=hd2 (show thB W f ns=thB W (f.drop (p+1)) (ns.drop (k+1))from by rw[o];unfold thC;rw[if_neg F,if_neg L,if_neg Q];rfl) E;clear o E
  go_wp2
  go_roundw
  case rel=>exact⟨p+1,k+1,z+1,by omega,by omega,by have:=R.out;omega,by go_num,J.out,d.out,u.out.1⟩
  rw[iterPos_of J.out,iterPos_of S.out];omega
 have C:(Instr.next (PP w.heap.size) true 0).run Tryz.prog wr=.ok (.tuple #[.bool false]) wr:=Lib.run_next_end_at wr w.heap.size (bya f) p 0 H (by rw[Lib.size_eq];exact Z)
 have d:Hid (thB W f ns=true):=by
  show _=_;rw[Y.out.1,jdw (by omega)];rfl
 have HB:=hd1 I;clear Y I H hz
 go_wp2
 go_ret;exact⟨by rw[d.out];rfl,HB.out⟩
end
section
open Go.RowKit
variable {w:World} {b:Nat}
theorem qc4 {tmps:Array Value} {x0 x1 x2 x3 d e f g:Int} {ev:Value} {a:Option Addr} {n c:Nat} (h:qd w b (T9 x0 x1 x2 x3 d e f g a n c)) (i:tmps[6]?=some (PP b)) (j:tmps[7]?=some ev):
 (results Tryz.f150 tmps).run Tryz.prog w=.ok (.tuple #[.agg (List.toArray (T9 x0 x1 x2 x3 d e f g a n c)),ev]) w:=by
 obtain⟨k,l,m,o,p,q,r,s,t⟩:=h.c9;simp[results,Tryz.results150,go_sem,i,j,k,l,m,o,p,q,r,s,t]
variable {G:Nat->Prop}
theorem qc8.left {w':World} {a:qy} (h:qc8 w b G a w'):qbi (qix b a) w G w':=h
theorem qol {I:Nat} {Gx:Nat->Prop} {s:qy} {S:qe} (now:Int) (w:World) (h:PSe w b G s) (hS:PS w I Gx S) (hI:j3 S) (hd:∀k,G k->¬Gx k):
 Ca 150 #[PP b,PP I,U now] w (q33 w b I G Gx S s now):=by
 have E:=hd7 h hS hI hd h.own h.lt hS.lt;obtain⟨mv,h0,hm⟩:=h;have hb1:=boxed (jcc _ w) (.cells ZA 102);have RT:=qd.new (w:=w) (T:=102) ZL rfl;change qd (w.alloc (.cells ZA 102)) w.heap.size ZL at RT
 have HN2:Hid (∀(B:World),w.heap.size<B.heap.size->∀k,k=w.heap.size->w.heap.size<=k/\k<B.heap.size):=λB hA k e=>by omega
 have B1:=h0.later hb1;have k4:=B1.c 4;rcases hm with ⟨ho,rfl,_,_⟩|⟨ho,bm,rfl,hne,hM,hG⟩
 ·rw[ho]at k4;have J:Hid (qeg S s now=6/\qce S s now=tx0.t/\qcc S s now=S/\j0 S s now=s):=qmm ho;clear hS hI hd h0 B1 ho;go_enter Tryz.func150,Tryz.ntmps150
  go_wp2_with fail
  refine bodyPost_ret (qc4 RT rfl rfl) rfl ⟨tx0,by rw[J.out.1];rfl,J.out.2.1.symm,⟨qk4 _,qtr (Z:=NoY) ?_ qfb⟩⟩;rw[J.out.2.2.1,J.out.2.2.2];exact qod (p:=qix b s) (q:=qfp I S) E.out.1 E.out.2.1 E.out.2.2.2.1 hb1 _ (λ_ M=>M)
 rw[ho]at k4;have HO:=hd1 ho;have M1:=hM.later hb1;have LEN:=M1.len;have k9:=B1.c 9;by_cases hl:(jh s.ws).length=0
 ·have J:Hid (qeg S s now=0/\qce S s now=tx0.t/\qcc S s now=S/\j0 S s now=qc3 s):=qml HO.out hl;rw[hl]at LEN;have EN:=qom (w.alloc (.cells ZA 102)) (E.out.1.later hb1);clear hS hI hd h0 B1 ho M1 hM hl;go_enter Tryz.func150,Tryz.ntmps150
  go_wp2_with fail
  refine EN.mono ?_;rintro e wD ⟨rfl,hpo⟩;have HPO:=hd1 hpo;obtain⟨G',_,_,tD⟩:=hpo;have RTD:=RT.kept (tD.block _ RT.lt (λe=>by have:=E.out.2.2.2.2.2.1 _ e;omega)) tD.size;clear tD EN k4 k9 LEN;obtain⟨r0,r1,r2,r3,r4,r5,r6,r7,r8⟩:=RTD.c9;obtain⟨p0,p1,p2,p3,p4,p5,p6,p7,p8⟩:=RTD.f9;have RZ:=yz RTD rfl 0 0 0 0 0 0 0 0 (.slice none 0 0);have FIN:=qid (p:=qix b (qc3 s)) (q:=qfp I S) (Y:=NoY) (N:=λk=>k=w.heap.size) E.out.2.2.2.2.2.1 E.out.2.2.2.2.2.2 E.out.2.2.2.1 hb1 (HN2.out _ (by simp)) (PPo.same (E.out.2.1.later hb1) (jcc _ _)) (λk M=>M.elim) (qc.ofBelow (jcc _ _)) HPO.out.left (qaz (b:=w.heap.size) (F:=λk=>k=w.heap.size) (qc.ofBelow (jcc _ wD)) rfl 0 0 0 0 0 0 0 0 (.slice none 0 0));clear RTD RT HPO
  go_wp2_with fail
  refine bodyPost_ret (qc4 RZ rfl rfl) rfl ⟨tx0,by rw[J.out.1];rfl,J.out.2.1.symm,⟨qk4 _,qtr (Z:=NoY) ?_ qfb⟩⟩;rw[J.out.2.2.1,J.out.2.2.2];exact FIN.1
 have HY:Hid (qeg S s now=qfl S now s.s0 s.s1 s.s2 s.s3 (jh s.ws)/\qce S s now=qha S now s.s0 s.s1 s.s2 s.s3 (jh s.ws)/\qcc S s now=qf3 S now s.s0 s.s1 s.s2 s.s3 (jh s.ws)):=qjx HO.out hl;have HLN:Hid ((jh s.ws).length≠0):=hl
 have l0:¬(((jh s.ws).length:Int)=0):=by omega
 have l1:((((jh s.ws).length:Int))==0)=false:=by simpa using l0
 obtain⟨⟨a,j,o,r,u,x,y,z,l⟩,hct⟩:∃t,qha S now s.s0 s.s1 s.s2 s.s3 (jh s.ws)=t:=⟨_,rfl⟩;obtain⟨ce,hce⟩:∃ce,qfl S now s.s0 s.s1 s.s2 s.s3 (jh s.ws)=ce:=⟨_,rfl⟩;have HB0:=hd2 h0 hM
 have HW1:Hid ((w.alloc (.cells ZA 102)).heap.size=w.heap.size+1):=by show _=_;simp
 have hbR:=(jcc (w.alloc (.cells ZA 102)).heap.size (w.alloc (.cells ZA 102))).drew;have hbS:=boxed hbR (.cells ZA 102);have RXS:=qd.new (w:=(w.alloc (.cells ZA 102)).drew) (T:=102) (n:=w.heap.size+1) ZL (by show (w.alloc (.cells ZA 102)).heap.size=_;simp);change qd ((w.alloc (.cells ZA 102)).drew.alloc (.cells ZA 102)) (w.heap.size+1) ZL at RXS;have RTR:=RT.drew;have RTS:=RTR.boxed (.cells ZA 102)
 have RI:Hid (∀wx,Below (w.alloc (.cells ZA 102)).heap.size (w.alloc (.cells ZA 102)) wx->Ca 207 #[PP b] wx λe w'=>∃K L,e=.returned (.slice K (jh s.ws).length L)/\w'.ownsRow wx.heap.size 100 3 (.slice K (jh s.ws).length L) (jh s.ws).length (qcf (jh s.ws))/\Bw wx w'/\Bw w w'/\qd w' b (yj s (.map (some bm)))/\w.heap.size+1<=wx.heap.size):=λwx hx=>by
  have hbx:=qa hb1 hx;refine(qya wx (HB0.out.1.later hbx) (HB0.out.2.later hbx)).mono ?_;rintro e w' ⟨v,rfl,ownv,hbv⟩;obtain⟨K,L,rfl,_⟩:=qbg ownv;have:=hx.size;have e1:=HW1.out;exact⟨K,L,rfl,ownv,hbv,qa hbx hbv,HB0.out.1.later (qa hbx hbv),by omega⟩
 have CM:Hid (∀(Bs:Nat) (B:World) (K:Option Addr) (L:Nat),Bw w B->w.heap.size+1<=Bs->B.ownsRow Bs 100 3 (.slice K (jh s.ws).length L) (jh s.ws).length (qcf (jh s.ws))->Ca 206 #[PP I,U now,.agg #[U s.s0,U s.s1,U s.s2,U s.s3],.slice K (jh s.ws).length L] B λe C=>∃(d:Option Addr) (i:Nat),e=.returned (.tuple #[.agg (List.toArray (T9 a j o r u x y z d l.length i)),jc ce])/\Hid (qr C d i l/\qbi (qeu I (qf3 S now s.s0 s.s1 s.s2 s.s3 (jh s.ws)) (⟨⟨a,j,o,r,u,x,y,z,l⟩,d,i⟩:TxM).blk) B Gx C/\∀k,(⟨⟨a,j,o,r,u,x,y,z,l⟩,d,i⟩:TxM).blk k->B.heap.size<=k)/\(∀k,w.heap.size<=k->k<B.heap.size->C.heap[k]?=B.heap[k]?)/\B.heap.size<=C.heap.size):=λBs B K L hba hle own=>by
  obtain⟨a2,c2,e2,hWv⟩:=qbg own;injection e2 with e2 _ e3;subst e2 e3;refine(qtk now s.s0 s.s1 s.s2 s.s3 B (E.out.2.1.later hba) E.out.2.2.1 hWv (λk off hne e hg=>?_)).mono ?_
  ·obtain⟨g,cc,e1,e2,e3⟩:=own.form (List.length_pos_iff.2 hne);injection e1 with e1;rw[e1]at e;injection e with e;injection e with e;have:=E.out.2.2.2.2.2.2 k hg;omega
  rintro e C ⟨⟨mt,d,i⟩,G',rfl,hmt,H⟩;rw[hct]at hmt;simp only at hmt;subst hmt;rw[hce];have tB:=H.out.2.2.2.1;exact⟨d,i,rfl,⟨H.out.1,⟨G',⟨H.out.2.1,λk M=>(H.out.2.2.2.2 k M).2⟩,H.out.2.2.1,tB⟩,λk M=>(H.out.2.2.2.2 k M).1⟩,λk h1 h2=>tB.block k h2 (λe=>by have:=E.out.2.2.2.2.2.2 _ e;omega),tB.size⟩
 have k5:=B1.c 5;have k6:=B1.c 6;have k7:=B1.c 7;have k8:=B1.c 8;have HBL:=hd1 h0.lt
 have hbl1:b<w.heap.size+1:=by have:=HBL.out;omega
 clear hS hI hd h0 ho M1 hM hl;go_enter Tryz.func150,Tryz.ntmps150
 go_wp2_with fail
 go_region_law (first
  |(refine je rfl 207 #[PP b] (by go_simp) (RI.out _ hbR) ?_
    rintro e O ⟨K,L,rfl,ownv,hbv,hba,P,hle⟩;refine⟨_,rfl,?_⟩;have RTa:=RTR.later hbv;have hla:=P.lt;have z5:=P.c 5;have z6:=P.c 6;have z7:=P.c 7
    have z8:=P.c 8)
  |(refine je rfl 207 #[PP b] (by go_simp) (RI.out _ hbS) ?_
    rintro e O ⟨K,L,rfl,ownv,hbv,hba,P,hle⟩;refine⟨_,rfl,?_⟩;have RTa:=RTS.later hbv;have RXa:=RXS.later hbv;have hla:=P.lt;have z5:=P.c 5;have z6:=P.c 6;have z7:=P.c 7
    have z8:=P.c 8)
  |(refine je rfl 206 #[PP I,U now,.agg #[U s.s0,U s.s1,U s.s2,U s.s3],.slice K (jh s.ws).length L] (by go_simp) (CM.out _ (O.alloc (.cells ZA 102)) K L (boxed hba _) hle (ownv.alloc _)) ?_
    rintro e C ⟨d,i,rfl,H,hkB,hsB⟩;refine⟨_,rfl,?_⟩;have hla2:=RTa.lt;have RTB:=(RTa.boxed (.cells ZA 102)).kept (hkB _ (jcd _) (by simp;omega)) hsB;have Q:=(qd.new (w:=O) (T:=102) ZL rfl).kept (hkB _ (by omega) (by simp)) hsB;obtain⟨x0,x1,x2,x3,x4,x5,x6,x7,x8⟩:=Q.c9;have q0:=Q.f 0;have q1:=Q.f 1;have q2:=Q.f 2;have q3:=Q.f 3;have q4:=Q.f 4;have q5:=Q.f 5;have q6:=Q.f 6;have q7:=Q.f 7
    have q8:=Q.f 8)
  |(refine je rfl 206 #[PP I,U now,.agg #[U s.s0,U s.s1,U s.s2,U s.s3],.slice K (jh s.ws).length L] (by go_simp) (CM.out _ O K L hba hle ownv) ?_
    rintro e C ⟨d,i,rfl,H,hkB,hsB⟩;refine⟨_,rfl,?_⟩;have RTB:=RTa.kept (hkB _ (jcd _) RTa.lt) hsB;have R:=RXa.kept (hkB _ (by omega) RXa.lt) hsB;obtain⟨x0,x1,x2,x3,x4,x5,x6,x7,x8⟩:=R.c9;have q0:=R.f 0;have q1:=R.f 1;have q2:=R.f 2;have q3:=R.f 3;have q4:=R.f 4;have q5:=R.f 5;have q6:=R.f 6;have q7:=R.f 7
    have q8:=R.f 8)
  |(refine je rfl 206 #[PP I,U now,.agg #[U s.s0,U s.s1,U s.s2,U s.s3],.slice K (jh s.ws).length L] (by go_simp) (CM.out _ O K L hba hle ownv) ?_
    rintro e C ⟨d,i,rfl,H,hkB,hsB⟩;refine⟨_,rfl,?_⟩
    have RTB:=RTa.kept (hkB _ (jcd _) RTa.lt) hsB))
 all_goals
  have hlT:=RTB.lt;have hlTa:=RTa.lt
  first
   |(have X:=yz Q rfl a j o r u x y z (.slice d l.length i)
     have V:=qtu RTB (by omega:w.heap.size≠O.heap.size) a j o r u x y z (.slice d l.length i)
     have bneX:b≠O.heap.size:=by have:=HBL.out;omega
     have hxge:w.heap.size<=O.heap.size:=by omega
     have PK:Hid (∃B N,Bw w B/\(∀k,N k->w.heap.size<=k/\k<B.heap.size)/\N w.heap.size/\qbi (qeu I (qf3 S now s.s0 s.s1 s.s2 s.s3 (jh s.ws)) (⟨⟨a,j,o,r,u,x,y,z,l⟩,d,i⟩:TxM).blk) B Gx C/\qr C d i l/\(∀k,(⟨⟨a,j,o,r,u,x,y,z,l⟩,d,i⟩:TxM).blk k->B.heap.size<=k)/\qc N C (js C O.heap.size a j o r u x y z (.slice d l.length i))):=⟨O.alloc (.cells ZA 102),λk=>k=w.heap.size\/k=O.heap.size,boxed hba _,λk e=>by simp;omega,.inl rfl,H.out.2.1,H.out.1,H.out.2.2,qaz (qc.ofBelow (jcc _ C)) (.inr rfl) a j o r u x y z (.slice d l.length i)⟩;obtain⟨W,hWC⟩:∃W,js C O.heap.size a j o r u x y z (.slice d l.length i)=W:=⟨_,rfl⟩;rw[hWC]at X V PK;simp only[js]at hWC
     clear Q RTB)
   |(have X:=yz R rfl a j o r u x y z (.slice d l.length i)
     have V:=qtu RTB (by omega:w.heap.size≠w.heap.size+1) a j o r u x y z (.slice d l.length i)
     have bneX:b≠w.heap.size+1:=by have:=HBL.out;omega
     have hxge:w.heap.size<=w.heap.size+1:=by omega
     have hlX:=RXa.lt;have PK:Hid (∃B N,Bw w B/\(∀k,N k->w.heap.size<=k/\k<B.heap.size)/\N w.heap.size/\qbi (qeu I (qf3 S now s.s0 s.s1 s.s2 s.s3 (jh s.ws)) (⟨⟨a,j,o,r,u,x,y,z,l⟩,d,i⟩:TxM).blk) B Gx C/\qr C d i l/\(∀k,(⟨⟨a,j,o,r,u,x,y,z,l⟩,d,i⟩:TxM).blk k->B.heap.size<=k)/\qc N C (js C (w.heap.size+1) a j o r u x y z (.slice d l.length i))):=⟨O,λk=>k=w.heap.size\/k=w.heap.size+1,hba,λk e=>by omega,.inl rfl,H.out.2.1,H.out.1,H.out.2.2,qaz (qc.ofBelow (jcc _ C)) (.inr rfl) a j o r u x y z (.slice d l.length i)⟩;obtain⟨W,hWC⟩:∃W,js C (w.heap.size+1) a j o r u x y z (.slice d l.length i)=W:=⟨_,rfl⟩;rw[hWC]at X V PK;simp only[js]at hWC
     clear R RXa hlX RTB)
   |(have X:=qd.new (w:=C) (T:=102) (T9 a j o r u x y z d l.length i) rfl
     change qd (C.alloc (.cells (List.toArray (T9 a j o r u x y z d l.length i)) 102)) C.heap.size (T9 a j o r u x y z d l.length i)at X;have V:=RTB.boxed (.cells (List.toArray (T9 a j o r u x y z d l.length i)) 102)
     have bneX:b≠C.heap.size:=by have:=HBL.out;omega
     have hxge:w.heap.size<=C.heap.size:=by omega
     have PK:Hid (∃B N,Bw w B/\(∀k,N k->w.heap.size<=k/\k<B.heap.size)/\N w.heap.size/\qbi (qeu I (qf3 S now s.s0 s.s1 s.s2 s.s3 (jh s.ws)) (⟨⟨a,j,o,r,u,x,y,z,l⟩,d,i⟩:TxM).blk) B Gx C/\qr C d i l/\(∀k,(⟨⟨a,j,o,r,u,x,y,z,l⟩,d,i⟩:TxM).blk k->B.heap.size<=k)/\qc N C (C.alloc (.cells (List.toArray (T9 a j o r u x y z d l.length i)) 102))):=⟨O,λk=>k=w.heap.size,hba,λk e=>by omega,rfl,H.out.2.1,H.out.1,H.out.2.2,qc.ofBelow (boxed (jcc _ C) _)⟩;obtain⟨W,hWC⟩:∃W,C.alloc (.cells (List.toArray (T9 a j o r u x y z d l.length i)) 102)=W:=⟨_,rfl⟩;rw[hWC]at X V PK
     clear RTB)
  (try clear x0 x1 x2 x3 x4 x5 x6 x7 x8 q0 q1 q2 q3 q4 q5 q6 q7 q8)
  clear k4 k5 k6 k7 k8 k9 z5 z6 z7 z8 LEN RI CM B1 RT RTR RTS RXS hbR hbS H ownv hbv P RTa hlT hlTa hkB hsB
  have PSC:PSe W b G s:=by
   obtain⟨B,N,hA,hN,hNw,hPB,hWB,hnb,TC⟩:=PK.out;have mid:=qz8 (q:=qeu I (qf3 S now s.s0 s.s1 s.s2 s.s3 (jh s.ws)) (⟨⟨a,j,o,r,u,x,y,z,l⟩,d,i⟩:TxM).blk) E.out.2.2.2.2.2.1 E.out.2.2.2.1 hA hN hPB TC;exact E.out.1.kept mid.1 mid.2
  by_cases hE:ce=0
  ·subst hE
   have J:Hid (j0 S s now=atLeast a j (qc3 s)/\a=S.id):=by
        have:=qrv (S:=S) (s:=s) (now:=now) HO.out HLN.out hce;rw[hct]at this;exact this
   have HCE:=hd2 (HY.out.1.trans hce) (HY.out.2.1.trans hct)
   have i0:0<=a:=by rw[J.out.2];exact E.out.2.2.1.id0
   have i3:a<=3:=by rw[J.out.2];exact E.out.2.2.1.id3
   have i4:a<4:=by omega
   have EN:=qom W PSC;rw[show jc 0=.nilIface from rfl];clear hct hce
   go_wp2_with (rw[hWC])
   refine EN.mono ?_;rintro e wD ⟨rfl,hpo⟩;have HPO:=hd1 hpo;obtain⟨G',⟨mv',B',_⟩,_,tD⟩:=hpo;have RTD:=V.kept (tD.block _ V.lt (λe=>by have:=E.out.2.2.2.2.2.1 _ e;omega)) tD.size;have RXD:=X.kept (tD.block _ X.lt (λe=>by have:=E.out.2.2.2.2.2.1 _ e;omega)) tD.size;obtain⟨D,hD⟩:∃D,qp a (qc3 s).p0 (qc3 s).p1 (qc3 s).p2 (qc3 s).p3=D:=⟨_,rfl⟩
   have HPA:Hid ((yj (qc3 s) mv')[a.toNat]?=some (U D)):=by show _=_;rw[q5u i0 i3,hD]
   have HS2:Hid (j0 S s now=qnk a.toNat (jd D j) (qc3 s)):=by show _=_;rw[J.out.1,qlh i0 i3,hD]
   clear hD tD EN V X hxge;have x0:=RXD.c 0;have x1:=RXD.c 1;have y0:=B'.cell _ _ HPA.out;have g0:=B'.free a.toNat (by simp[yj];omega)
   have bne:b≠w.heap.size:=λe=>by have:=HBL.out;omega
   go_wp2_with fail
   go_region
   all_goals
        obtain⟨mx,hmx⟩:∃mx,(if D<j then j else D)=mx:=⟨_,rfl⟩;rw[hmx];have HMX:Hid (jd D j=mx):=hmx;have P4:=(qc8.past E.out.2.2.2.2.1 HPO.out (n:=a.toNat) (by omega) mx).after ((jcc _ (wD.setCell (AD b a.toNat) (U mx))).drew);have RT4:=(RTD.far (AD b a.toNat) (U mx) bne).drew;have RX4:=(RXD.far (AD b a.toNat) (U mx) bneX).drew;obtain⟨W4,hW4⟩:∃W4,(wD.setCell (AD b a.toNat) (U mx)).drew=W4:=⟨_,rfl⟩;rw[hW4]at P4 RT4 RX4
        (try rw[hW4])
        clear x0 x1 y0 g0 B' RTD RXD hmx;obtain⟨x0,x1,x2,x3,x4,x5,x6,x7,x8⟩:=RX4.c9;obtain⟨r0,r1,r2,r3,r4,r5,r6,r7,r8⟩:=RT4.c9;obtain⟨p0,p1,p2,p3,p4,p5,p6,p7,p8⟩:=RT4.f9;have RZ:=yz RT4 rfl a j o r u x y z (.slice d l.length i)
        have FIN:qr (js W4 w.heap.size a j o r u x y z (.slice d l.length i)) d i l/\qfx (qix b (qnk a.toNat mx (qc3 s))) (qeu I (qf3 S now s.s0 s.s1 s.s2 s.s3 (jh s.ws)) (⟨⟨a,j,o,r,u,x,y,z,l⟩,d,i⟩:TxM).blk) w G Gx (⟨⟨a,j,o,r,u,x,y,z,l⟩,d,i⟩:TxM).blk (js W4 w.heap.size a j o r u x y z (.slice d l.length i)):=by
         obtain⟨B,N,hA,hN,hNw,hPB,hWB,hnb,TC⟩:=PK.out;obtain⟨r1,r2⟩:=qid (p:=qix b (qnk a.toNat mx (qc3 s))) (q:=qeu I (qf3 S now s.s0 s.s1 s.s2 s.s3 (jh s.ws)) (⟨⟨a,j,o,r,u,x,y,z,l⟩,d,i⟩:TxM).blk) (Y:=(⟨⟨a,j,o,r,u,x,y,z,l⟩,d,i⟩:TxM).blk) E.out.2.2.2.2.2.1 E.out.2.2.2.2.2.2 E.out.2.2.2.1 hA hN hPB (λk M=>⟨hnb k M,qr.blk_lt (m:=(⟨⟨a,j,o,r,u,x,y,z,l⟩,d,i⟩:TxM)) hWB k M⟩) TC P4.left (qaz (b:=w.heap.size) (qc.ofBelow (jcc _ W4)) hNw a j o r u x y z (.slice d l.length i));exact⟨qr.kept (m:=(⟨⟨a,j,o,r,u,x,y,z,l⟩,d,i⟩:TxM)) hWB (λk M=>r2 k M),r1⟩
        clear RT4 RX4
        go_wp2_with (rw[hW4])
        refine bodyPost_ret (qc4 RZ rfl rfl) rfl ⟨(⟨⟨a,j,o,r,u,x,y,z,l⟩,d,i⟩:TxM),by rw[HCE.out.1];rfl,HCE.out.2.symm,⟨FIN.1,?_⟩⟩;rw[HY.out.2.2,HS2.out,HMX.out];exact FIN.2
  have J:=hd1 (qp7 HO.out HLN.out (by rw[hce];exact hE));have HCE:=hd3 (HY.out.1.trans hce) (HY.out.2.1.trans J.out.2.2) (HY.out.2.2.trans J.out.2.1);have RZ:=yz V rfl 0 0 0 0 0 0 0 0 (.slice none 0 0)
  have FIN:qfx (qix b s) (qfp I S) w G Gx NoY (js W w.heap.size 0 0 0 0 0 0 0 0 (.slice none 0 0)):=by
   obtain⟨B,N,hA,hN,hNw,hPB,hWB,hnb,TC⟩:=PK.out;rw[J.out.2.1]at hPB;exact q74 (qid (p:=qix b s) (q:=qeu I S (⟨⟨a,j,o,r,u,x,y,z,l⟩,d,i⟩:TxM).blk) (Y:=NoY) E.out.2.2.2.2.2.1 E.out.2.2.2.2.2.2 E.out.2.2.2.1 hA hN hPB (λk M=>M.elim) TC (qc8.same PSC (jcc _ _)).left (qaz (b:=w.heap.size) (qc.ofBelow (jcc _ W)) hNw 0 0 0 0 0 0 0 0 (.slice none 0 0))).1
  rw[show jc ce=.iface 26 (U ce) by unfold jc;rw[if_neg hE]];clear hct hce;obtain⟨r0,r1,r2,r3,r4,r5,r6,r7,r8⟩:=V.c9;obtain⟨p0,p1,p2,p3,p4,p5,p6,p7,p8⟩:=V.f9;clear V X
  go_wp2_with (rw[hWC])
  refine bodyPost_ret (qc4 RZ rfl rfl) rfl ⟨tx0,by rw[HCE.out.1];unfold jc;rw[if_neg hE];rfl,HCE.out.2.1.symm,⟨qk4 _,qtr (Z:=NoY) ?_ qfb⟩⟩;rw[J.out.1,HCE.out.2.2];exact FIN
end
def vm (c:UInt8):List UInt8->List (List UInt8)
 |[]=>[[]]
 |x::r=>if x=c then []::vm c r else
  match vm c r with
  |h::t=>(x::h)::t
  |[]=>[[x]]
theorem qgw (s:List UInt8):qao s=vm 10 s:=by
 induction s with
 |nil=>rfl
 |cons x r ih=>
  unfold qao vm;rw[ih]
  generalize vm 10 r=z
  cases z<;>rfl
theorem qg2 (c x:UInt8) (r:List UInt8):Lib.index (x::r) [c]=if x=c then 0 else if Lib.index r [c]== -1 then-1 else Lib.index r [c]+1:=by
 conv=>lhs;unfold Lib.index
 by_cases e:x=c
 ·simp[e,List.isPrefixOf]
 simp[e,List.isPrefixOf,Ne.symm e]
theorem qoi (c:UInt8):Lib.index [] [c]= -1:=by unfold Lib.index;simp
theorem qvv (c:UInt8) (s:List UInt8) (h:s.count c=0):Lib.index s [c]= -1:=by
 induction s with
 |nil=>exact qoi c
 |cons x r ih=>
  have e:¬x=c:=λe=>by subst e;simp at h
  rw[qg2,if_neg e,ih (by rw[List.count_cons]at h;omega)];rfl
theorem qu2 (c:UInt8) (s:List UInt8):∀k,s.count c<=k->Lib.splitK [c] 0 k s=vm c s:=by
 induction s with
 |nil=>
  intro k _;cases k with
  |zero=>rfl
  |succ k=>unfold Lib.splitK;rw[qoi];rfl
 |cons x r ih=>
  intro k a;by_cases e:x=c
  ·subst e;rw[List.count_cons_self]at a;obtain⟨m,rfl⟩:∃m,k=m+1:=⟨k-1,by omega⟩;unfold Lib.splitK vm;rw[qg2,if_pos rfl,if_pos rfl];show []::Lib.splitK [x] 0 m r=_;rw[ih m (by omega)]
  have d:r.count c<=k:=by rw[List.count_cons]at a;simp[e]at a;exact a
  have I:=ih k d;have g:=Lib.index_ge r [c];unfold vm;rw[if_neg e,<-I];by_cases q:Lib.index r [c]= -1
  ·have b:Lib.index (x::r) [c]= -1:=by rw[qg2,if_neg e,q];rfl
   cases k with
   |zero=>rfl
   |succ m=>
    unfold Lib.splitK;rw[q,b];rfl
  cases k with
  |zero=>exact absurd (qvv c r (by omega)) q
  |succ m=>
   have b:Lib.index (x::r) [c]=Lib.index r [c]+1:=by rw[qg2,if_neg e,if_neg (by simpa using q)]
   unfold Lib.splitK;rw[b,if_neg (show ¬(Lib.index r [c]+1== -1)=true by simp;omega),if_neg (show ¬(Lib.index r [c]== -1)=true by simpa using q)]
   have f:(Lib.index r [c]+1).toNat=(Lib.index r [c]).toNat+1:=by omega
   rw[f];rfl
section
open Go.Lib
def wds:List UInt8->List UInt8->List (List UInt8)
 |cur,[]=>if cur=[]then []else [cur]
 |cur,c::r=>if c=32 then (if cur=[]then wds [] r else cur::wds [] r)else wds (cur++[c]) r
theorem qvn:∀(k:Nat) (cur l:List UInt8),k<=l.length->(∀j,j<k->l.getD j 0≠32)->wds cur l=wds (cur++l.take k) (l.drop k)
 |0,cur,l,_,_=>by simp
 |k+1,cur,[],h,_=>by simp at h
 |k+1,cur,b::t,h,hz=>by
  have a:b≠32:=hz 0 (by omega)
  have e:wds cur (b::t)=wds (cur++[b]) t:=by rw[wds,if_neg a]
  rw[e,qvn k (cur++[b]) t (by simp at h;omega) (λj c=>hz (j+1) (by omega))];simp
theorem qh9 (c:UInt8) (s:List UInt8):vm c s≠[]:=by
 cases s with
 |nil=>simp[vm]
 |cons x r=>
  unfold vm;split
  ·simp
  split<;>simp
theorem q5q (l:List UInt8):∀cur h t,vm 32 l=h::t->wds cur l=((cur++h)::t).filter (λx=>decide (x≠[])):=by
 induction l with
 |nil=>
  intro cur h t e;cases e;unfold wds
  by_cases q:cur=[]<;>simp[q]
 |cons c r ih=>
  intro cur h t e;unfold vm at e;unfold wds
  obtain⟨f,g,d⟩:∃f g,vm 32 r=f::g:=by
   cases q:vm 32 r with
   |nil=>exact absurd q (qh9 _ _)
   |cons a b=>exact⟨a,b,rfl⟩
  by_cases i:c=32
  ·rw[if_pos i]at e ⊢;injection e with e1 e2;subst e1 e2;have:=ih [] f g d;by_cases q:cur=[]
   ·rw[if_pos q,this,d,q];simp
   rw[if_neg q,this,d];simp[q]
  rw[if_neg i,d]at e;rw[if_neg i];injection e with e1 e2;subst e1 e2;rw[ih (cur++[c]) f g d];simp
theorem qwz (s:ByteArray) (a:Nat) (h:a<s.size):if (Utf8.decode s a).1=32 then (s.data.toList.drop a=32::s.data.toList.drop (a+1)/\(Utf8.decode s a).2=1)else ∀j,j<(Utf8.decode s a).2->(s.data.toList.drop a).getD j 0≠32:=by
 have l:a<s.data.toList.length:=by rw[<-size_eq];exact h
 have m:s.data.toList.getD a 0=s.data.toList[a]:=by rw[jdp,jcg l];rfl
 have n:∀b:UInt8,b.toNat=32->b=32:=λb c=>UInt8.toNat.inj (by rw[c];rfl);have g:=decodeN_cases (s.data.toList.length-a) (s.data.toList.getD a 0).toNat (s.data.toList.getD (a+1) 0).toNat (s.data.toList.getD (a+2) 0).toNat (s.data.toList.getD (a+3) 0).toNat;have e:=decodeN_conts (s.data.toList.length-a) (s.data.toList.getD a 0).toNat (s.data.toList.getD (a+1) 0).toNat (s.data.toList.getD (a+2) 0).toNat (s.data.toList.getD (a+3) 0).toNat
 have i:(s.data.toList.getD a 0).toNat=32->(Utf8.decode s a).1=32:=λq=>by rw[decode_N,q];simp[decodeN]
 rw[<-decode_N]at g e
 generalize Utf8.decode s a=d at g e i
 obtain⟨r,k⟩:=d;simp only[Prod.mk.injEq]at g e i ⊢;by_cases f:r=32
 ·rw[if_pos f];subst f
  have q:(s.data.toList.getD a 0).toNat=32/\k=1:=by omega
  refine⟨?_,q.2⟩;rw[jdy l,<-m,n _ q.1]
 rw[if_neg f];intro j v;rw[getD_dropU];intro o
 have c:(s.data.toList.getD (a+j) 0).toNat=32:=by rw[o];rfl
 obtain⟨p,t,u,w⟩:=e;rcases j with _|_|_|_|j
 ·exact f (i c)
 ·have:=p (by omega);simp only[Nat.zero_add]at c;omega
 ·have:=t (by omega);simp only[Nat.zero_add,Nat.reduceAdd]at c;omega
 ·have:=u (by omega);simp only[Nat.zero_add,Nat.reduceAdd]at c;omega
 omega
theorem qh5 (s:ByteArray):∀(f c:Nat) (d:Option Nat) (i:List (Nat×Nat)),s.size<=c+f->c<=s.size->(∀a,d=some a->a<c)->
 i.map (λp=>pieceU s.data.toList p.1 p.2)++wds (openPiece s.data.toList d c) (s.data.toList.drop c)=(closeSpans s (spansFromP (λr=>decide (r=32)) s f c d i)).map (λp=>pieceU s.data.toList p.1 p.2)
 |0,c,d,i,h,hp,hst=>by
  obtain rfl:c=s.size:=by omega
  have l:s.data.toList.drop s.size=[]:=jdw (by rw[<-size_eq];exact jcd _);rw[l,wds];cases d with
  |none=>simp[spansFromP,closeSpans,openPiece]
  |some a=>
   have:=pieceU_ne s.data.toList a s.size (hst a rfl) (by rw[<-size_eq];exact jcd _);simp[spansFromP,closeSpans,openPiece,this]
 |f+1,c,d,i,h,hp,hst=>by
  by_cases m:c<s.size
  ·have q:=width_pos s c
   have n:c+(Utf8.decode s c).2<=s.size:=by
    have:=decodeN_le_n' (s.size-c) (s.get! c).toNat (s.get! (c+1)).toNat (s.get! (c+2)).toNat (s.get! (c+3)).toNat (by omega);rw[<-decode_at]at this;omega
   have j:=qwz s c m;simp only[spansFromP,if_pos m];by_cases k:(Utf8.decode s c).1=32
   ·rw[if_pos k]at j;rw[if_pos (decide_eq_true k),j.1,j.2,wds,if_pos rfl];cases d with
    |none=>
     have g:=qh5 s f (c+1) none i (by omega) (by omega) (λa h=>by cases h);simpa[openPiece]using g
    |some a=>
     have o:=pieceU_ne s.data.toList a c (hst a rfl) (by rw[<-size_eq];omega);have g:=qh5 s f (c+1) none (i++[(a,c)]) (by omega) (by omega) (λa h=>by cases h);simpa[openPiece,o]using g
   rw[if_neg k]at j;rw[if_neg (by simpa using k),qvn _ _ _ (by rw[jdt,<-size_eq];omega) j,List.drop_drop];cases d with
   |none=>
    have g:=qh5 s f (c+(Utf8.decode s c).2) (some c) i (by omega) n (λa h=>by cases h;omega)
    have e:([]:List UInt8)++(s.data.toList.drop c).take (Utf8.decode s c).2=pieceU s.data.toList c (c+(Utf8.decode s c).2):=by
     unfold pieceU;rw[jda,Nat.add_sub_cancel_left]
    simp only[openPiece]at g ⊢;rw[e];exact g
   |some a=>
    have g:=qh5 s f (c+(Utf8.decode s c).2) (some a) i (by omega) n (λb h=>by cases h;have:=hst a rfl;omega);simp only[openPiece]at g ⊢;rw[pieceU_grow _ _ _ _ (Nat.le_of_lt (hst a rfl))];exact g
  obtain rfl:c=s.size:=by omega
  have l:s.data.toList.drop s.size=[]:=jdw (by rw[<-size_eq];exact jcd _);rw[l,wds,spansFromP_end _ s _ _ _ _ m];cases d with
  |none=>simp[closeSpans,openPiece]
  |some a=>
   have:=pieceU_ne s.data.toList a s.size (hst a rfl) (by rw[<-size_eq];exact jcd _);simp[closeSpans,openPiece,this]
theorem qwu (s:ByteArray):qa9 s=((vm 32 s.data.toList).filter (λx=>decide (x≠[]))).map bya:=by
 have h:=qh5 s s.size 0 none [] (by omega) (jcw _) (λa h=>by cases h);simp only[List.map_nil,jda,openPiece,List.drop_zero]at h
 obtain⟨c,d,e⟩:∃c d,vm 32 s.data.toList=c::d:=by
  cases q:vm 32 s.data.toList with
  |nil=>exact absurd q (qh9 _ _)
  |cons a b=>exact⟨a,b,rfl⟩
 rw[q5q _ [] c d e,jda,<-e]at h;unfold qa9 goFieldsP spansOfP;rw[h,List.map_map]
 congr 1
 funext p
 have q:(s.extract p.1 p.2).data.toList=pieceU s.data.toList p.1 p.2:=by simp[pieceU]
 show s.extract p.1 p.2=bya (pieceU s.data.toList p.1 p.2);rw[<-q]
theorem q3l (s t:List UInt8):vm 10 (s++10::t)=vm 10 s++vm 10 t:=by
 rw[<-qgw,<-qgw,<-qgw,qxl]
theorem qqc:∀(s:List UInt8) (x:UInt8),x≠10->(vm 10 (s++[x])).getLast?≠some []
 |[],x,h=>by simp[vm,h]
 |c::r,x,h=>by
  have d:=qqc r x h;rw[jdj];unfold vm;by_cases e:c=10
  ·rw[if_pos e,List.getLast?_cons];cases q:vm 10 (r++[x])with
   |nil=>exact absurd q (qh9 _ _)
   |cons a b=>rw[q]at d;simpa[List.getLast?_cons]using d
  rw[if_neg e];cases q:vm 10 (r++[x])with
  |nil=>exact absurd q (qh9 _ _)
  |cons a b=>
   rw[q]at d;cases b with
   |nil=>simp
   |cons y z=>simpa[List.getLast?_cons]using d
theorem quq (s:List UInt8):qfq s=if 1<(vm 10 s).length/\(vm 10 s).getLast?=some []then (vm 10 s).dropLast else vm 10 s:=by
 unfold qfq;rw[qgw];rcases List.eq_nil_or_concat s with rfl|⟨a,x,rfl⟩
 ·simp[Lib.trimSuffix,Lib.hasSuffix,vm]
 rw[List.concat_eq_append];by_cases e:x=10
 ·subst e;rw[qtq,q3l];have b:0<(vm 10 a).length:=List.length_pos_iff.2 (qh9 _ _);rw[if_pos ⟨by simp[vm];omega,by simp[vm]⟩];simp[vm]
 have:=qqc a x e;rw[if_neg (λq=>this q.2)]
 congr 1
 have q:=q4s a [x] (by simp);rw[q];unfold Lib.trimSuffix;rw[if_neg (by simp[Lib.hasSuffix,List.isSuffixOf,List.isPrefixOf];exact λh=>e h.symm)]
end
section
open Go.Shelf
def jem:Go.Shelf.Ren:=⟨λ|146=>14|221=>27|268=>72|138=>73|143=>74|195=>122|197=>123|218=>124|219=>121|260=>171|217=>167|225=>168|224=>169|267=>170|266=>226|314=>227|n=>n,λ|9=>9|31=>42|3=>3|4=>4|0=>0|105=>177|21=>21|5=>5|46=>190|119=>281|139=>284|138=>283|146=>279|51=>250|n=>n,λ|1=>1|3=>4|4=>5|n=>n⟩
theorem je2:Go.Proofs.Lays.n146 Tryz.prog jem:=by constructor<;>intros<;>kernel_rfl
open Go.RowKit Go.Lib in
theorem jee (s a:ByteArray) (m:Int) (w:World) (b:s.size<4294967281) (c:w.cell? (AD 1 0)=some (U m)) (d:1<=a.size):
 Ca 14 #[.string s,.string a] w λe w'=>
  e=.returned (.slice (PT w.heap.size) (Lib.countB s a+1) (Lib.countB s a+1))/\w'=w.alloc (.cells ((Lib.splitB a 0 (Lib.countB s a) s).map Value.string).toArray 9):=Any.strings_Split je2 (by kernel_rfl) s a m w b c d
end
section
open Go.RowKit
theorem qo4 (p:Addr) (w:World):
 CallsD Tryz.prog 25 #[.pointer (some p)] .returning w λe a w'=>e=.returned (.tuple #[])/\a=.returning/\w'=w:=by
 have b:∀w,(Instr.typeAssert .nilIface 20 26 true).run Tryz.prog w=.ok (.tuple #[U 0,.bool false]) w:=λ_=>by kernel_rfl
 refine callsD_of_wpS Tryz.func25 rfl λc f d=>?_
 apply wpS_seq
 apply wpS_region
 simp[wpOpsS,go_sem,recoverD,d,Tryz.ntmps25,Exit.thenS,b]
 apply wpS_seq
 apply wpS_region
 simp[wpOpsS,go_sem,Exit.thenS];refine wpS_cond (t:=false) (by simp[Act.eval,Array.replicate]) ?_;simp only[Bool.false_eq_true,if_false];refine wpS_of_wp (wp_skip ?_);cases c
 simp_all [bodyPostS,results,Tryz.results25]
theorem qny (p:Addr) (s:Value) (n:Int) (f:wfI n) (b:List PanicEntry) (w:World) (g:Gl w) (c:w.cell? p=some s) (h:w.frozen? p=false):
 CallsD Tryz.prog 25 #[.pointer (some p)] (.panicking ({v:=.iface 26 (U n),recovered:=false}::b)) w λe i w'=>
  e=.returned (.tuple #[])/\i=.panicking ({v:=.iface 26 (U n),recovered:=true}::b)/\∃w2,Bw w w2/\w'=w2.setCell p (.string (bya (qgt n))):=by
 have j:∀w,(Instr.typeAssert (.iface 26 (U n)) 20 26 true).run Tryz.prog w=.ok (.tuple #[U n,.bool true]) w:=λ_=>by kernel_rfl
 have k:=qq7 n f w g;refine callsD_of_wpS Tryz.func25 rfl λm o l=>?_
 apply wpS_seq
 apply wpS_region
 simp[wpOpsS,go_sem,recoverD,l,Tryz.ntmps25,Exit.thenS,j]
 apply wpS_seq
 apply wpS_region
 simp[wpOpsS,go_sem,Exit.thenS];refine wpS_cond (t:=true) (by simp[Act.eval,Array.replicate]) ?_;simp only[if_true];refine wpS_of_wp ?_;simp only[Array.replicate,List.replicate,List.setIfInBounds_toArray,List.set_cons_zero,List.set_cons_succ,List.append_toArray,jdj,jda]
 go_wp2_with fail
 refine k.mono ?_;rintro e w2 ⟨rfl,a⟩;have d:=jcr _ _ c;have q:=(a.cell d).trans c;have r:=(a.frozen d).trans h
 go_wp2
 simp[bodyPostS,results,Tryz.results25];exact⟨w2,a,rfl⟩
end
section
open Go.RowKit
theorem zo (l:List UInt8):(bya l).size=l.length:=by simp[ByteArray.size]
theorem qm2 {w:World} {b:Nat} {a0 a1 a2 a3:Int} (h:qo w b a0 a1 a2 a3):∀(q:Nat) x,[a0,a1,a2,a3][q]?=some x->w.cell? (AD b (0+q))=some (U x)
 |0,x,hx=>by simp at hx;subst hx;exact h.c0
 |1,x,hx=>by simp at hx;subst hx;exact h.c1
 |2,x,hx=>by simp at hx;subst hx;exact h.c2
 |3,x,hx=>by simp at hx;subst hx;exact h.c3
 |q+4,x,hx=>by simp at hx
end
section
def Few (n:Int):Prop:=0<=n/\n<=100
theorem Few.wf {n:Int} (h:Few n):wfI n:=⟨by have:=h.1;omega,by have:=h.2;omega⟩
variable {c:Prop}
theorem qdq [Decidable c] {a b:Int} (h:Few a) (k:Few b):Few (if c then a else b):=by
 by_cases q:c
 ·rw[if_pos q];exact h
 rw[if_neg q];exact k
theorem qdh:Few 0:=⟨by decide,by decide⟩
theorem jak:Few 1:=⟨by decide,by decide⟩
theorem qdu:Few 2:=⟨by decide,by decide⟩
theorem jaf:Few 3:=⟨by decide,by decide⟩
theorem jbs:Few 4:=⟨by decide,by decide⟩
theorem qrj:Few 6:=⟨by decide,by decide⟩
theorem jah:Few 8:=⟨by decide,by decide⟩
theorem qts:Few 10:=⟨by decide,by decide⟩
theorem qyd:Few 12:=⟨by decide,by decide⟩
theorem q9l (s:qy):Few (qi5 s):=qdq qrj qdh
theorem q8c (S:qe) (s:qy):Few (qhl S s):=qdq qrj (qdq qts qdh)
theorem q0s (s:qy) (x:Wr):Few (qaj s x):=qdq qrj (qdq qdu (qdq jbs (qdq jak (qdq qyd qdh))))
theorem q6c (W:WoS) (k:Nat):Few (qll W k):=qdq qrj qdh
variable {α:Type}
theorem q5n [Decidable c] {a b:α×Int} (h:Few a.2) (k:Few b.2):Few (if c then a else b).2:=by
 by_cases q:c
 ·rw[if_pos q];exact h
 rw[if_neg q];exact k
theorem qn9 {β:Type} [Decidable c] {a b:α×β×Int} (h:Few a.2.2) (k:Few b.2.2):Few (if c then a else b).2.2:=by
 by_cases q:c
 ·rw[if_pos q];exact h
 rw[if_neg q];exact k
theorem q5i (a b c:Int):Few (qcp a b c).2.2:=qn9 qdu (qn9 qdu (qn9 qdh (qn9 qyd qdh)))
theorem jbo (o:Option Ver):Few (qjj o).2:=by
 unfold qjj
 repeat' split
 all_goals first|exact qdh|exact jah
theorem qxv (S:qe) (n:Nat) (now a b d e:Int) (ws:List Wr):Few (ji S n now a b d e ws):=by
 unfold ji;exact qdq jak (qdq qts (qdq qts (qdq qyd (q5i ..))))
theorem q8b (W:WoS) (k:Nat):Few (wcE W k):=qdq qrj (qdq qdh (qxv ..))
theorem ja4 (S:qe) (k a0 a1 a2 a3:Int):Few (qbq S k a0 a1 a2 a3).2:=q5n (q5n (jbo _) qdu) qts
theorem q55 (S:qe) (s:qy) (k:Int):Few (vi S s k).2:=by
 unfold vi;by_cases q:s.opn=false
 ·rw[if_pos q];exact qrj
 rw[if_neg q];cases qay s.ws k with
 |none=>exact ja4 ..
 |some x=>
  by_cases g:x.gone=true
  ·simp only[if_pos g];exact jah
  simp only[if_neg g];exact qdh
variable {i:Nat} {W W':WoS} {er:Int} {t:List UInt8}
theorem qaa.few {l:List Int} {d:ByteArray} (h:qaa i W l d W' er t):Few er:=by
 unfold qaa at h;split at h
 case h_1=>have h:=h.2;split at h<;>(rw[h.2];first|exact q9l _|exact qdu)
 case h_2=>have h:=h.2;split at h<;>(rw[h.2];first|exact qdh|exact qdu)
 case h_3=>have h:=h.2;split at h<;>(rw[h.2];first|exact q8c _ _|exact qdu)
 case h_4=>rw[h.2.2];exact qdh
 case h_5=>have h:=h.2;split at h<;>(rw[h.2];first|exact qdh|exact qdu)
 case h_6=>split at h<;>(rw[h.2.2];first|exact q8b _ _|exact qdu)
 case h_7=>have h:=h.2;split at h<;>(rw[h.2];first|exact qdh|exact qdu)
 case h_8=>have h:=h.2;split at h<;>(rw[h.2];first|exact q0s _ _|exact qdu)
 case h_9=>have h:=h.2;split at h<;>(rw[h.2];first|exact qdh|exact qdu)
 case h_10=>rw[h.2.2];exact qdh
 case h_11=>have h:=h.2;split at h<;>(rw[h.2];first|exact qdh|exact qdu)
 case h_12=>rw[h.2.2];exact qdh
 case h_13=>have h:=h.2;split at h<;>(rw[h.2];first|exact q6c _ _|exact qdu)
 case h_14=>have h:=h.2;split at h<;>(rw[h.2];first|exact q55 _ _ _|exact qdu)
 case h_15=>have h:=h.2;split at h<;>(rw[h.2];first|exact qdh|exact qdu)
 case h_16=>have h:=h.2;split at h<;>(rw[h.2];first|exact qdh|exact qdu)
 case h_17=>have h:=h.2;split at h<;>(rw[h.2];first|exact qdh|exact qdu)
 case h_18=>have h:=h.2;split at h<;>(rw[h.2];first|exact qdh|exact qdu)
 case h_19=>have h:=h.2;split at h<;>(rw[h.2];first|exact q0s _ _|exact qdu)
 exact h.elim
theorem qc2.few {l:List ByteArray} (h:qc2 i W l W' er t):Few er:=by
 unfold qc2 at h;split at h
 ·rw[h.2.1];exact jaf
 exact h.few
end
def jb4 (x y:List UInt8):Bool:=decide (x<=y)
theorem qv2:qc9.Pairwise (λx y=>jb4 x y=true):=by decide
theorem qu9 {d:List (List UInt8)} (h:d.Perm qc9):d.mergeSort (λx y=>decide (x<=y))=qc9:=by
 have g:∀a b c:List UInt8,decide (a<=b)=true->decide (b<=c)=true->decide (a<=c)=true:=λa b c e f=>decide_eq_true (List.le_trans (of_decide_eq_true e) (of_decide_eq_true f))
 have i:∀a b:List UInt8,(decide (a<=b)||decide (b<=a))=true:=λa b=>by
  rcases List.le_total a b with q|q<;>simp[q]
 have j:=List.pairwise_mergeSort g i d;have k:=(List.mergeSort_perm d (λx y=>decide (x<=y))).trans h;exact k.eq_of_pairwise (λa b _ _ e f=>List.le_antisymm (of_decide_eq_true e) (of_decide_eq_true f)) j qv2
section
open Tryz Go.RowKit Go.Maps Go.Sort Go.Shelf
def jea:Go.Shelf.Ren:=⟨λ|7=>108|10=>157|n=>n,λ|23=>55|26=>9|3=>65|28=>34|0=>0|27=>33|33=>24|4=>4|n=>n,λ|n=>n⟩
theorem jes:Go.Proofs.SlLaysZ.n7 prog jea:={
 mixed:=by kernel_rfl
 f7:=⟨f108.name,by decide,func108.trans (congrArg some (by kernel_rfl))⟩
 f10:=⟨f157.name,by decide,func157.trans (congrArg some (by kernel_rfl))⟩
 t0:=underlying0
 a0:=Tryz.isAgg0
 z0:=Tryz.sizeOf0
 v0:=Tryz.zeroValue0
 t4:=underlying4
 a4:=Tryz.isAgg4
 z4:=Tryz.sizeOf4
 v4:=Tryz.zeroValue4
 t23:=underlying55
 a23:=Tryz.isAgg55
 z23:=Tryz.sizeOf55
 v23:=Tryz.zeroValue55
 t26:=underlying9
 a26:=Tryz.isAgg9
 z26:=Tryz.sizeOf9
 v26:=Tryz.zeroValue9
 t27:=underlying33
 a27:=Tryz.isAgg33
 z27:=Tryz.sizeOf33
 v27:=Tryz.zeroValue33
 t28:=underlying34
 a28:=Tryz.isAgg34
 z28:=Tryz.sizeOf34
 v28:=Tryz.zeroValue34
 t33:=underlying24
 a33:=Tryz.isAgg24
 z33:=Tryz.sizeOf24
 v33:=Tryz.zeroValue24}
def jd6:Go.Shelf.Ren:=⟨λ|6=>107|8=>156|9=>92|11=>214|13=>133|12=>132|23=>194|24=>195|14=>185|15=>186|16=>187|17=>188|18=>189|19=>190|20=>191|21=>192|22=>193|25=>232|26=>233|27=>234|28=>235|29=>236|30=>237|31=>267|n=>n,λ|26=>9|28=>34|24=>42|0=>0|3=>3|37=>190|48=>250|50=>192|4=>4|40=>244|39=>243|45=>93|5=>5|9=>9|51=>289|55=>293|57=>327|58=>144|33=>24|n=>n,λ|n=>n⟩
theorem jeu:Go.Proofs.SlLaysZ.n6 prog jd6:={
 mixed:=by kernel_rfl
 f6:=⟨f107.name,by decide,func107.trans (congrArg some (by kernel_rfl))⟩
 f8:=⟨f156.name,by decide,func156.trans (congrArg some (by kernel_rfl))⟩
 f11:=⟨f214.name,by decide,func214.trans (congrArg some (by kernel_rfl))⟩
 t0:=underlying0
 a0:=Tryz.isAgg0
 z0:=Tryz.sizeOf0
 v0:=Tryz.zeroValue0
 t24:=underlying42
 a24:=Tryz.isAgg42
 z24:=Tryz.sizeOf42
 v24:=Tryz.zeroValue42
 t26:=underlying9
 a26:=Tryz.isAgg9
 z26:=Tryz.sizeOf9
 v26:=Tryz.zeroValue9
 t28:=underlying34
 a28:=Tryz.isAgg34
 z28:=Tryz.sizeOf34
 v28:=Tryz.zeroValue34
 i26:=by kernel_rfl}
def jet:Go.Shelf.Ren:=⟨λ|6=>92|8=>133|9=>132|19=>194|20=>195|21=>185|22=>186|23=>187|24=>188|25=>189|26=>190|27=>191|28=>192|29=>193|36=>232|31=>233|32=>234|37=>235|38=>236|39=>237|41=>267|n=>n,λ|27=>42|29=>9|3=>3|32=>190|26=>42|0=>0|44=>250|46=>192|4=>4|36=>244|35=>243|41=>93|5=>5|9=>9|53=>289|57=>293|63=>327|64=>144|n=>n,λ|n=>n⟩
theorem jev:Go.Proofs.SlLaysM.n6 prog jet:={
 mixed:=by kernel_rfl
 f6:=⟨f92.name,by decide,func92.trans (congrArg some (by kernel_rfl))⟩
 f8:=func133.trans (congrArg some (by kernel_rfl))
 f9:=⟨f132.name,by decide,func132.trans (congrArg some (by kernel_rfl))⟩
 f19:=func194.trans (congrArg some (by kernel_rfl))
 f20:=func195.trans (congrArg some (by kernel_rfl))
 f21:=⟨f185.name,by decide,func185.trans (congrArg some (by kernel_rfl))⟩
 f22:=⟨f186.name,by decide,func186.trans (congrArg some (by kernel_rfl))⟩
 f23:=⟨f187.name,by decide,func187.trans (congrArg some (by kernel_rfl))⟩
 f24:=⟨f188.name,by decide,func188.trans (congrArg some (by kernel_rfl))⟩
 f25:=⟨f189.name,by decide,func189.trans (congrArg some (by kernel_rfl))⟩
 f26:=⟨f190.name,by decide,func190.trans (congrArg some (by kernel_rfl))⟩
 f27:=⟨f191.name,by decide,func191.trans (congrArg some (by kernel_rfl))⟩
 f28:=⟨f192.name,by decide,func192.trans (congrArg some (by kernel_rfl))⟩
 f29:=⟨f193.name,by decide,func193.trans (congrArg some (by kernel_rfl))⟩
 f31:=func233.trans (congrArg some (by kernel_rfl))
 f32:=func234.trans (congrArg some (by kernel_rfl))
 f36:=⟨f232.name,by decide,func232.trans (congrArg some (by kernel_rfl))⟩
 f37:=⟨f235.name,by decide,func235.trans (congrArg some (by kernel_rfl))⟩
 f38:=⟨f236.name,by decide,func236.trans (congrArg some (by kernel_rfl))⟩
 f39:=⟨f237.name,by decide,func237.trans (congrArg some (by kernel_rfl))⟩
 f41:=⟨f267.name,by decide,func267.trans (congrArg some (by kernel_rfl))⟩
 t0:=underlying0
 a0:=Tryz.isAgg0
 z0:=Tryz.sizeOf0
 v0:=Tryz.zeroValue0
 t3:=underlying3
 a3:=Tryz.isAgg3
 z3:=Tryz.sizeOf3
 v3:=Tryz.zeroValue3
 t4:=underlying4
 a4:=Tryz.isAgg4
 z4:=Tryz.sizeOf4
 v4:=Tryz.zeroValue4
 t5:=underlying5
 a5:=Tryz.isAgg5
 z5:=Tryz.sizeOf5
 v5:=Tryz.zeroValue5
 t9:=underlying9
 a9:=Tryz.isAgg9
 z9:=Tryz.sizeOf9
 v9:=Tryz.zeroValue9
 t26:=underlying42
 a26:=Tryz.isAgg42
 z26:=Tryz.sizeOf42
 v26:=Tryz.zeroValue42
 t27:=underlying42
 a27:=Tryz.isAgg42
 z27:=Tryz.sizeOf42
 v27:=Tryz.zeroValue42
 t29:=underlying9
 a29:=Tryz.isAgg9
 z29:=Tryz.sizeOf9
 v29:=Tryz.zeroValue9
 t32:=underlying190
 a32:=Tryz.isAgg190
 z32:=Tryz.sizeOf190
 v32:=Tryz.zeroValue190
 t35:=underlying243
 a35:=Tryz.isAgg243
 z35:=Tryz.sizeOf243
 v35:=Tryz.zeroValue243
 t36:=underlying244
 a36:=Tryz.isAgg244
 z36:=Tryz.sizeOf244
 v36:=Tryz.zeroValue244
 t41:=underlying93
 a41:=Tryz.isAgg93
 z41:=Tryz.sizeOf93
 v41:=Tryz.zeroValue93
 t44:=underlying250
 a44:=Tryz.isAgg250
 z44:=Tryz.sizeOf250
 v44:=Tryz.zeroValue250
 t46:=underlying192
 a46:=Tryz.isAgg192
 z46:=Tryz.sizeOf192
 v46:=Tryz.zeroValue192
 t53:=underlying289
 a53:=Tryz.isAgg289
 z53:=Tryz.sizeOf289
 v53:=Tryz.zeroValue289
 t57:=underlying293
 a57:=Tryz.isAgg293
 z57:=Tryz.sizeOf293
 v57:=Tryz.zeroValue293
 t63:=underlying327
 a63:=Tryz.isAgg327
 z63:=Tryz.sizeOf327
 v63:=Tryz.zeroValue327
 t64:=underlying144
 a64:=Tryz.isAgg144
 z64:=Tryz.sizeOf144
 v64:=Tryz.zeroValue144}
theorem jey (m:Nat):AnyZ.SortsIn prog jd6 Fence.wide m:=
 ⟨λa b cap c W d e f=>callsIn_wide.2 (AnyM.slices_Sort_string jev a b cap c W d e f),
  λp cap W=>callsIn_wide.2 (AnyM.slices_Sort_string_none jev p cap W)⟩
theorem jef (mb:Option Nat) (W:World):CallsIn Fence.wide 5 prog 108 #[.map mb] W λe w'=>e=.returned (.func (.func 157) #[] #[PP W.heap.size])/\w'=W.alloc (.cells #[.map mb] 55):=
 AnyZ.keys_in jes Fence.wide 5 trivial rfl mb W
theorem jd3 {H:Type} (b d:Nat) (a:DataW H) (R:Value->Option (DataW H×List MemPlace)) (w:World) (f:w.ownsMap prog 9 R b d a) (g:Maps.size a<=maxLen) (h:Maps.size a*16<=140737488355328):
 CallsIn Fence.wide 5 prog 107 #[.func (.func 157) #[] #[PP w.heap.size]] (w.alloc (.cells #[.map (some b)] 55)) λe w'=>∃(v:Value) (c:List (List UInt8)),e=.returned v/\c.Perm (strKeys a)/\
  w'.ownsRow (w.alloc (.cells #[.map (some b)] 55)).heap.size 9 1 v c.length ((c.mergeSort (λx y=>decide (x<=y))).map encStr)/\(v=.slice none 0 0↔c=[])/\Below (w.alloc (.cells #[.map (some b)] 55)).heap.size (w.alloc (.cells #[.map (some b)] 55)) w':=by
 have i:=f.lt
 have j:SeqGives Fence.wide 2 prog 157 #[PP w.heap.size] encStr (λc=>c.Perm (strKeys a)) (Maps.size a) (w.alloc (.cells #[.map (some b)] 55)):=
  AnyZ.keys_gives (ρ:=jea) {jes with} Fence.wide _ trivial rfl (by omega) w.heap.size b d a _ (by simp) (by simp) (by
   obtain⟨k,l,m,n,o,p⟩:=f
   exact⟨k,l,(jdg _ _ b i).trans m,n,o,p⟩)
 exact AnyZ.sorted_in jeu Fence.wide 5 trivial trivial trivial trivial rfl (by omega) (jey _) (enters_of func92 (by kernel_rfl) rfl) 157 #[PP w.heap.size] trivial (enters_of func157 (by kernel_rfl) rfl) _ _ g h _ j
end
section
open Tryz Go.RowKit
def qht (B b:Nat) (l:List UInt8) (w:World) (G:Nat->Prop):Prop:=
 B<=b/\∃p v,(p=.pointer none\/p=.pointer (PT b))/\w.heap[b]?=some (.cells #[p,v] 32 (0,0))/\w.ownsRow B 5 1 v (Lib.byteCells l).length (Lib.byteCells l)/\v.ownBlock≠some b/\∀k,G k↔(k=b\/v.ownBlock=some k)
variable {B b:Nat} {l:List UInt8} {w:World} {G:Nat->Prop}
theorem qht.lt (h:qht B b l w G):∀k,G k->k<w.heap.size:=λk a=>by
 obtain⟨_,p,v,_,c,d,_,f⟩:=h;rcases(f k).1 a with rfl|e
 ·exact(jcs.1 c).1
 exact(d.lt k e).2
theorem qht.kept {w':World} (h:qht B b l w G) (c:∀k,G k->w'.heap[k]?=w.heap[k]?):qht B b l w' G:=by
 obtain⟨d,p,v,f,g,i,j,a⟩:=h;exact⟨d,p,v,f,(c b ((a b).2 (.inl rfl))).trans g,qf i (λk e=>c k ((a k).2 (.inr e))),j,a⟩
def q2z (B b:Nat) (l:List UInt8):qfr:=⟨λw G=>qht B b l w G,λ_ _ h=>h.lt,λ_ _ _ h hk _=>h.kept hk⟩
theorem qht.is (h:qht B b l w G):Lib.IsBuilder 32 5 B b (Lib.byteCells l) w:=by
 obtain⟨a,p,v,f,c,d,e,g⟩:=h;rcases f with rfl|rfl
 ·exact .inl ⟨a,v,c,d,e⟩
 exact .inr ⟨a,v,c,d,e⟩
theorem qt2:(prog.info? 5).map (λi=>(i.zero,i.size,i.bytes))=some (some (.int .u8 0),1,1):=by kernel_rfl
theorem qz6:(prog.info? 32).map (·.size)=some 2:=by kernel_rfl
theorem q8h:liesAt prog prog.depth 32 (2/prog.cellsOf 32) 0 32 1=true:=by kernel_rfl
theorem qpg (b:Nat) (w:World) (c:w.cell? (AD b 0)=some (PP b)):
 Ca 24 #[PP b] w λe w'=>e=.returned (.tuple #[])/\w'=w:=by
 obtain⟨j,a,_⟩:=Option.map_eq_some_iff.1 qz6;go_enter func24,ntmps24
 go_wp2
 rw[Lib.run_neq_ptr_same w _ underlying29 a]
 go_wp2
 go_end0;exact⟨rfl,rfl⟩
theorem qnp (b:Nat) (w:World) (f:w.cell? (AD b 0)=some (.pointer none)) (a:w.shape? b=some (32,2)) (g:w.frozen? (AD b 0)=false):
 Ca 24 #[PP b] w λe w'=>e=.returned (.tuple #[])/\w'=w.setCell (AD b 0) (PP b):=by
 obtain⟨j,c,d⟩:=Option.map_eq_some_iff.1 qz6;have h:=@run_callFunc_extern prog 69 _ Extern.AbiNoEscape.same func69 (by kernel_rfl) (by kernel_rfl) (by kernel_rfl) (by kernel_rfl);have i:=λx w=>Lib.run_noEscape (P:=prog) (w:=w) x;have k:=Lib.run_to_unsafe (P:=prog) w (AD b 0) underlying29 underlying117 c (by rw[d];decide) a (Nat.zero_lt_succ 1);have m:=Lib.run_from_unsafe (P:=prog) w (AD b 0) underlying117 underlying29 c a q8h;go_enter func24,ntmps24
 go_wp2
 go_end0;exact⟨rfl,rfl⟩
theorem qkv (w:World) (h:qht B b l w G):
 Ca 24 #[PP b] w λe w'=>e=.returned (.tuple #[])/\∃v,w'.heap[b]?=some (.cells #[PP b,v] 32 (0,0))/\w'.ownsRow B 5 1 v (Lib.byteCells l).length (Lib.byteCells l)/\v.ownBlock≠some b/\(∀k,G k↔(k=b\/v.ownBlock=some k))/\qc G w w':=by
 obtain⟨m,p,v,i,a,g,c,d⟩:=h;rcases i with rfl|rfl
 ·refine(qnp b w (by rw[Lib.cell_of_heap a];rfl) (by simp[World.shape?,a]) (Lib.frozen_of_heap a 0)).mono ?_;rintro e w' ⟨rfl,rfl⟩;refine⟨rfl,v,by simp[World.setCell,Array.getElem?_modify,a],qf g (λk e=>jce _ _ _ _ (λf=>c (by rw[e,f]))),c,d,rfl,rfl,rfl,by simp[World.setCell],λk _ j=>jce _ _ _ _ (λf=>j ((d k).2 (.inl f)))⟩
 refine(qpg b w (by rw[Lib.cell_of_heap a];rfl)).mono ?_;rintro e w' ⟨rfl,rfl⟩;exact⟨rfl,v,a,g,c,d,qc.ofBelow (jcc _ _)⟩
theorem q0u {g:List UInt8} {v v':Value} {a w2:World} (p:B<=b) (c:qc G w a) (d:∀k,G k↔(k=b\/v.ownBlock=some k))
 (m:w2.heap[b]?=some (.cells #[PP b,v] 32 (0,0))) (n:w2.ownsRow B 5 1 v' (Lib.byteCells g).length (Lib.byteCells g)) (q:∀k,v'.ownBlock=some k->v.ownBlock=some k\/a.heap.size<=k)
 (r:a.heap.size<=w2.heap.size/\w2.os=a.os/\w2.tape=a.tape/\w2.output=a.output/\∀k,k<a.heap.size->v.ownBlock≠some k->w2.heap[k]?=a.heap[k]?):
 qbi (q2z B b g) w G (w2.setCell (AD b 1) v'):=by
 have o:=Lib.ownBlock_ne n m (by decide);obtain⟨s,t,u,x,y⟩:=r;refine⟨λk=>k=b\/v'.ownBlock=some k,⟨p,PP b,v',.inr rfl,by simp[World.setCell,Array.getElem?_modify,m],qf n (λk e=>jce _ _ _ _ (λi=>o (by rw[e,i]))),o,λ_=>jdl⟩,λk f=>?_,?_⟩
 ·rcases f with rfl|e
  ·exact .inl ((d k).2 (.inl rfl))
  rcases q k e with h|h
  ·exact .inl ((d k).2 (.inr h))
  exact .inr (jcn c.size h)
 refine⟨t.trans c.os,u.trans c.tape,x.trans c.output,jcn c.size (by simp[World.setCell];exact s),λk f j=>?_⟩;rw[jce _ _ _ _ (λi=>j ((d k).2 (.inl i))),y k (jci f c.size) (λe=>j ((d k).2 (.inr e))),c.block k f j]
theorem qkw (a b:List UInt8):Lib.byteCells (a++b)=Lib.byteCells a++Lib.byteCells b:=by simp[Lib.byteCells]
theorem qfd (a:List UInt8):(Lib.byteCells a).length=a.length:=by simp[Lib.byteCells]
variable {P:Program}
theorem qqm (w:World) (r:Nat) (t u c e:TypeId) (i:TypeInfo) (d:P.underlying t=some (.slice e)) (f:P.underlying u=some .string) (hi:P.info? e=some i) (m:i.zero=some (.int .u8 0)) (h:i.size=1) (o:i.bytes=1)
 (v:Value) (n:Nat) (xs:List Value) (j:w.ownsRow r e 1 v n xs) (s:ByteArray) (x:n+s.size<=maxLen) (D:n+s.size<=140737488355328):
 ∃v' w',(Builtin.append_ #[t,u] c #[v,.string s]).run P w=.ok v' w'/\∀k,v'.ownBlock=some k->v.ownBlock=some k\/k=w.heap.size:=by
 have E:n+s.size<=9223372036854775807:=by simp only[maxLen]at x;omega
 have y:xs.length=n:=by simpa using j.1
 rcases j.2 with ⟨rfl,rfl⟩|⟨g,cap,cur,rfl,F,z,H,I,J,K⟩
 ·by_cases p:s.size=0
  ·refine⟨.slice none 0 0,w,?_,λk a=>.inl a⟩;have q:=Lib.run_firstCells_string (P:=P) w 1 s;rw[p]at q;simp[Builtin.append_,run_underlying d,run_underlying f,sizeOf,typeInfo,hi,h,Builtin.lenOf,p,q]
  exact⟨_,_,run_append_nil_string (P:=P) w t u c e i (.int .u8 0) d f hi m s (by omega) (by omega) (by rw[o];omega),λk a=>.inr (by simpa[Value.ownBlock,eq_comm]using a)⟩
 by_cases A:n+s.size<=cap
 ·exact⟨_,_,Lib.run_append_room_string (P:=P) w t u c e i d f hi h g n cap cur z s A (by omega),λk a=>.inl (by simpa[Value.ownBlock]using a)⟩
 have C:=j.cells (g:=g) rfl;exact⟨_,_,Lib.run_append_grow_string (P:=P) w t u c e i (.int .u8 0) d f hi m (AD g 0) n cap xs (by rw[h];simpa using y) C s (by omega) (by omega) (by rw[o];exact growslice_fits (by omega) (by omega)),λk a=>.inr (by simpa[Value.ownBlock,eq_comm]using a)⟩
theorem ql8 (w:World) {d:Array Oper} {rest:List Oper} {o:Oper} {a:Act} {Q:Exit->Act->World->Prop} (D:o.guard=none) (f x:Operand) (t u:TypeId)
 (E:o.op=.call {callee:=.builtin .append,args:=#[f,x],argTypes:=#[t,u]})
 (c:Nat) (e:TypeId) (i:TypeInfo) (g:P.underlying t=some (.slice e)) (j:P.underlying u=some .string) (hi:P.info? e=some i) (m:i.zero=some (.int .u8 0))
 (p:i.size=1) (q:i.bytes=1)
 (v:Value) (n:Nat) (xs:List Value) (F:a.eval f=v) (r:w.ownsRow c e 1 v n xs) (s:ByteArray) (H:a.eval x=.string s)
 (y:n+s.size<=maxLen) (z:n+s.size<=140737488355328) (I:c<=w.heap.size)
 (h:∀v' w',w'.ownsRow c e 1 v' (n+s.size) (xs++Lib.strCells s)->w.grownBy w' v.ownBlock->(∀k,v'.ownBlock=some k->v.ownBlock=some k\/k=w.heap.size)->wpList P d Q rest (a.put o.dst v') w'):wpList P d Q (o::rest) a w:=by
 refine wpList_plain D λK J=>?_;obtain⟨v',w',A,L,M,O⟩:=Lib.run_append_own_string (P:=P) w c t u o.type e i g j hi m p q v n xs r s y z I;obtain⟨R,w2,C,N⟩:=qqm (P:=P) w c t u o.type e i g j hi m p q v n xs r s y z;rw[A]at C;injection C with e1 e2;subst e1;unfold Oper.wp execOp;simp only[E,resolve,invoke,builtin,Sem.run_bind,Sem.run_pure,Result.andThen_ok,List.map_toArray,List.map_cons,List.map_nil,F,H,A];exact J _ _ (h v' w' L M N)
theorem qnq (s:ByteArray) (w:World) (h:qht B b l w G) (J:l.length+s.size<=140737488355328) (K:B<=w.heap.size):
 Ca 10 #[PP b,.string s] w λe w'=>e=.returned (.tuple #[U s.size,.nilIface])/\qbi (q2z B b (l++s.data.toList)) w G w':=by
 obtain⟨u,hi,x,y,z⟩:=info_parts qt2;have o:=qkv w h;have C:=hd1 h.1;clear h;go_enter func10,ntmps10
 go_wp2_with fail
 refine o.mono ?_;clear o;rintro e D ⟨rfl,v,c,p,q,r,f⟩
 have L:D.cell? (AD b 1)=some v:=by rw[Lib.cell_of_heap c];rfl
 go_wp2_with (at_builtin;refine ql8 _ rfl _ _ 30 9 rfl B 5 u underlying30 underlying9 hi x y z _ _ _ rfl p s rfl ?c3 ?c4 ?c5 ?_)
 case c3=>rw[qfd];unfold maxLen;omega
 case c4=>rw[qfd];omega
 case c5=>have:=f.size;omega
 intro v' w2 i a t;have E:=(jcs.1 c).1;have d:=(a.block b E (λe=>q e.symm)).trans c
 have M:w2.cell? (AD b 1)=some v:=by rw[Lib.cell_of_heap d];rfl
 have f1:=Lib.frozen_of_heap d 1
 obtain⟨j,m,cap,rfl⟩:∃j m cap,v'=.slice j m cap:=by
  rcases i.2 with ⟨n,_⟩|⟨g,cap,cur,n,_⟩
  ·exact⟨_,_,_,n⟩
  exact⟨_,_,_,n⟩
 have F:Hid (qbi (q2z B b (l++s.data.toList)) w G (w2.setCell (AD b 1) (.slice j m cap))):=
  q0u C.out f r d (by rw[qkw,jcl];simpa[Lib.strCells_length,Lib.strCells,Lib.byteCells]using i) (λk e=>(t k e).imp_right (λe=>by omega)) ⟨a.size,a.os,a.tape,a.output,λk H I=>a.block k H (λe=>I e.symm)⟩
 clear i a t r f p c q d
 go_wp2
 go_ret2;exact⟨rfl,F.out⟩
theorem qql (c:UInt8) (z:Int) (o:z=c.toNat) (w:World) (h:qht B b l w G) (O:l.length+1<=140737488355328) (Q:B<=w.heap.size):
 Ca 12 #[PP b,.int .u8 z] w λe w'=>e=.returned .nilIface/\qbi (q2z B b (l++[c])) w G w':=by
 obtain⟨D,hi,E,F,H⟩:=info_parts qt2;have p:=qkv w h;have I:=hd1 h.1;have J:=hd1 o;clear h o;go_enter func12,ntmps12
 go_wp2_with fail
 refine p.mono ?_;clear p;rintro e d ⟨rfl,v,f,q,r,s,n⟩;have K:=(jcs.1 f).1
 have t:d.cell? (AD b 1)=some v:=by rw[Lib.cell_of_heap f];rfl
 go_wp2_with (at_builtin;refine wpList_append_lies _ rfl _ _ 30 rfl B 5 D (.int .u8 0) 1 1 underlying30 hi E F H rfl (by decide) _ _ _ rfl (q.alloc _) (AD d.heap.size 0) 1 1 [.int .u8 z] rfl rfl ?t ?c2 (by decide) ?c3 ?c4 ?c5 _ rfl ?_)
 case t=>
  intro j u i
  match j,i with
  |0,i=>simp at i;subst i;simp[Addr.add]
 case c2=>intro u x;simp at x;subst x;rfl
 case c3=>rw[qfd];unfold maxLen;omega
 case c4=>rw[qfd];omega
 case c5=>have:=n.size;simp;omega
 intro g cap w2 y a C R
 have m:w2.heap[b]?=some (.cells #[PP b,v] 32 (0,0)):=by
  rw[a.block b (by simp;omega) (λe=>r e.symm),Lib.alloc_old d _ b K];exact f
 have S:w2.cell? (AD b 1)=some v:=by rw[Lib.cell_of_heap m];rfl
 have f1:=Lib.frozen_of_heap m 1
 have L:Hid (qbi (q2z B b (l++[c])) w G (w2.setCell (AD b 1) (.slice (PT g) ((Lib.byteCells l).length+1) cap))):=
  q0u I.out n s m (by rw[qkw,jcl];simpa[Lib.byteCells,J.out]using y) (λk e=>by
   simp[Value.ownBlock]at e;subst e;rcases C with h|h
   ·exact .inl h
   exact .inr (by rw[h];simp)) ⟨by have:=a.size;simp at this;omega,a.os,a.tape,a.output,λk M N=>(a.block k (by simp;omega) (λe=>N e.symm)).trans (Lib.alloc_old d _ k M)⟩
 clear y a C s n q f r m
 go_wp2
 go_ret;exact⟨rfl,L.out⟩
end
section
open Go.RowKit
def q6w {α:Type} (F:Fence) (n:Nat) (P:Program) (gf:Nat) (lb:Array Value) (encs:α->Array Value) (xs:List α) (N:World->Prop) (w0:World):Prop:=
 ∀(l:Nat) (J:List α->World->Prop) (W:World),Bw w0 W->(∀s A,J s A->N A)->(∀s A B,J s A->Bw A B->J s B)->
  (∀pre x rest W,J pre W->xs=pre++x::rest->YieldAt F (n-1) P l (encs x) W λe W'=>e=.returned (.bool true)/\J (pre++[x]) W')->J [] W->
  CallsIn F n P gf (#[.func (.yield l) #[] #[]]++lb) W λe W'=>(∃v,e=.returned v)/\J xs W'
structure q56 (B:Nat) (W W':World):Prop where
 a:W'.heap[B]?=W.heap[B]?
 b:W'.heap[B+1]?=W.heap[B+1]?
def q9a {α:Type} (B:Nat) (I:List α->World->Prop) (xs:List α) (W:World):Exit->Act->World->Prop
 |.normal,_,W'=>q56 B W W'/\I xs W'
 |_,_,_=>False
theorem qli {F:Fence} {n:Nat} {P:Program} {α:Type} {g:Operand} {ps:Array Tmp} {assign body:Code} {Q:Exit->Act->World->Prop} {a:Act} {w:World}
 (hro:F.round=none) (h1:1<=n) {gf:Nat} {lb:Array Value} (hg:a.eval g=.func (.func gf) #[] lb) (hFg:F.fn gf) (eg:∀args w,(callFunc gf args).run P w=.ok (.enter gf args) w)
 {encs:α->Array Value} {xs:List α} {N:World->Prop} {w0:World} (hseq:q6w F (n-1) P gf lb encs xs N w0) (hb0:Bw w0 w) (hps:∀x,(encs x).size=ps.size)
 (I:List α->World->Prop) (hIN:∀s A,I s A->N A) (hIb:∀s A B,I s A->Bw A B->I s B) (hIl:∀s A o,I s A->I s (A.putObj (w.heap.size+1) o)) (h0:I [] w) (a₁:α->Act)
 (hassign:∀(l:Nat) (x:α) (W:World) (K:Act->World->Prop),K (a₁ x) W->
   assign.wpIn (F.inRound l) (n-1-1) P (Exit.then K (λ_ _ _=>False)) {tmps:=(ps.zip (encs x)).foldl (λt (p,v)=>t.setIfInBounds p v) a.tmps,defers:=[]} W)
 (hbody:∀(l:Nat) (pre:List α) (x:α) (rest:List α) (W:World),xs=pre++x::rest->w.heap.size+2<=W.heap.size->I pre W->body.wpIn (F.inRound l) (n-1-1) P (q9a w.heap.size I (pre++[x]) W) (a₁ x) W)
 (hdone:∀(W:World),I xs W->W.heap[w.heap.size]?=some (.deferred (some []))->Q .normal {a with defers:={target:=.collected w.heap.size,args:=#[]}::a.defers} W):
 (Code.rangeFunc g ps assign body).wpIn F n P Q a w:=by
 refine wpIn_rangeFunc ?_;intro fn hfn;rw[hro];obtain⟨rec,hrec⟩:∃rec:LoopState->Option Code->Loop,rec=λst pe=>{state:=st,pending:=pe,fn,tmps:=a.tmps,params:=ps,assign,body,defers:=w.heap.size}:=⟨_,rfl⟩;obtain⟨W1,hW1⟩:∃W1,(w.alloc (.deferred (some []))).alloc (.loop (rec .ready none))=W1:=⟨_,rfl⟩
 have hL1:W1.heap[w.heap.size+1]?=some (.loop (rec .ready none)):=by
  rw[<-hW1];have:=World.alloc_heap_new (w.alloc (.deferred (some []))) (.loop (rec .ready none));rwa [jdi]at this
 have hK1:W1.heap[w.heap.size]?=some (.deferred (some [])):=by
  rw[<-hW1];exact(jdg _ _ _ (by simp)).trans (World.alloc_heap_new w _)
 have hbw:Bw w W1:=by rw[<-hW1];exact((jcc _ w).alloc (jcd _) _).alloc (by simp) _
 have hI1:=hIb _ _ _ h0 hbw;have hb1:=hb0.trans (hbw.mono hb0.size)
 refine⟨w.heap.size+1,[{target:=.collected w.heap.size,args:=#[]}],W1,{target:=.fn (.func gf) lb,args:=#[.func (.yield (w.heap.size+1)) #[] #[]]},W1,gf,
  #[.func (.yield (w.heap.size+1)) #[] #[]]++lb,W1,?_,?_,?_,?_,λ_=>h1,?_⟩
 ·rw[<-hW1,hrec];exact run_enterLoop_outer _ _ _ _ _
 ·simp only[resolve,hg];simp[go_sem]
 ·intro f' hf';simp[Target.leads]at hf';subst hf';exact hFg
 ·simp[invoke,go_sem,eg]
 have blk:∀{A B:World} {k:Nat} {o:Obj},Bw A B->A.heap[k]?=some o->B.heap[k]?=some o:=λhb h=>(hb.block _ (jcs.1 h).1).trans h
 refine(hseq (w.heap.size+1)
  (λpre W=>I pre W/\W.heap[w.heap.size+1]?=some (.loop (rec .ready none))/\W.heap[w.heap.size]?=some (.deferred (some [])))
  W1 hb1 (λs A hs=>hIN s A hs.1) (λs A B hs hb=>⟨hIb s A B hs.1 hb,blk hb hs.2.1,blk hb hs.2.2⟩) ?_ ⟨hI1,hL1,hK1⟩).mono ?_
 ·rintro pre x rest W ⟨hi,hl,hk⟩ hx;have hlt:=(jcs.1 hl).1;have hy:=run_yield (P:=P) (args:=encs x) hl (by rw[hrec];exact hps x);rw[hrec]at hy;refine⟨fn,_,assign,body,hy,roundIn_of_wpIn hfn (hassign _ x W _ ⟨_,run_beginRound hl (by rw[hrec]),?_⟩)⟩;have hl2:(W.putObj (w.heap.size+1) (.loop {rec .ready none with state:=.busy})).heap[w.heap.size+1]?=some (.loop {rec .ready none with state:=.busy}):=World.putObj_heap_same hlt;have hk2:(W.putObj (w.heap.size+1) (.loop {rec .ready none with state:=.busy})).heap[w.heap.size]?=some (.deferred (some [])):=(World.putObj_heap_other (by omega)).trans hk;refine wpIn_mono (hbody _ pre x rest _ hx (by simp;omega) (hIl _ _ _ hi)) ?_;rintro e a3 W3 hp;cases e with
  |normal=>
   obtain⟨hk3,hi3⟩:=hp;have hl3:=hk3.b.trans hl2;have hr:=run_endRound (P:=P) none hl3;rw[hrec]at hr;exact⟨_,_,hr,rfl,hIl _ _ _ hi3,by rw[hrec];exact World.putObj_heap_same (jcs.1 hl3).1,(World.putObj_heap_other (by omega)).trans (hk3.a.trans hk2)⟩
  |ret=>exact hp.elim
  |exit id=>exact hp.elim
  |goto t=>exact hp.elim
  |panic ch=>exact hp.elim
  |outgrown=>exact hp.elim
 rintro e W2 ⟨⟨v,rfl⟩,hi,hl,hk⟩;exact⟨none,_,by have:=run_endLoop (P:=P) hl (by rw[hrec];simp);rw[hrec]at this;exact this,hdone _ (hIl _ _ _ hi) ((World.putObj_heap_other (by omega)).trans hk)⟩
end
section
open Go.RowKit
theorem q60 (s:ByteArray) (w:World):Ca 9 #[.string s] w λe w'=>e=.returned (.func (.func 21) #[] #[PP w.heap.size])/\w'=w.alloc (.cells #[.string s] 9):=by
 have hmf:∀(fn:Fn) (first cap:Array Value) (w:World),(Instr.makeFunc fn first cap).run Tryz.prog w=.ok (.func fn first cap) w:=λ_ _ _ _=>rfl;go_enter Tryz.func9,Tryz.ntmps9
 go_wp2
 go_ret;exact⟨rfl,rfl⟩
def jam (s:List UInt8) (pre:List ByteArray) (rest:List UInt8) (more:Bool):Prop:=rest.length<=s.length/\(qfq s).map bya=pre++if more=true then (qao rest).map bya else []
def q6r:Value->Nat
 |.string b=>b.size
 |_=>0
def jao:Value->Nat
 |.bool true=>1
 |_=>0
theorem qym (n:Nat) (hn:1<=n) (s:ByteArray) (M:s.size<=20000) (B:Nat) (w:World) (N:B<w.heap.size) (t:w.cell? (AD B 0)=some (.string s)):
 q6w Fence.wide n Tryz.prog 21 #[PP B] (λx:ByteArray=>#[.string x]) ((qfq s.data.toList).map bya) Gl w:=λl J W v O P C Q=>by
 have R:=(v.cell (p:=AD B 0) N).trans t
 have S:s.data.toList.length<=20000:=by rw[<-Lib.size_eq];exact M
 have D:=jd7 s ⟨#[10]⟩ W (by omega);refine callsIn_of_wp Tryz.func21 rfl trivial ?_ rfl;simp only[Tryz.ntmps21,List.size_toArray,List.length_cons,List.length_nil,Nat.reduceAdd,Nat.reduceSub,Array.replicate_succ,Array.replicate_zero,List.push_toArray,List.append_toArray,jda,jdj]
 gi_wp2_with (refine⟨trivial,?_⟩;gi_at_call 22;refine(callsIn_wide.2 D).mono ?_;rintro e w' ⟨rfl,rfl⟩)
 clear D R v t;have T:=hd1 S
 gi_loopw [3,4] (λd g wr=>∃(a:List ByteArray) (r:List UInt8) (m:Bool),d=.string ⟨r.toArray⟩/\g=.bool m/\Hid (jam s.data.toList a r m)/\J a wr) (λd g _=>q6r d+jao g)
 case atStart=>exact⟨[],_,true,rfl,rfl,⟨by unfold Lib.trimSuffix;split<;>simp,by simp[qfq]⟩,Q⟩
 obtain⟨a,r,m,rfl,rfl,b,h⟩:=hrel;cases m with
 |false=>
  gi_wp2
  go_end0;have e:=b.out.2;simp only[Bool.false_eq_true,if_false,jdx]at e;rw[e];exact⟨⟨_,rfl⟩,h⟩
 |true=>
  obtain⟨k,E⟩:=(O _ _ h).ml;have i:=jer ⟨r.toArray⟩ ⟨#[10]⟩ k wr (by have:=b.out.1;have:=T.out;show r.toArray.size<_;simp;omega) E;obtain⟨⟨x,y,f⟩,c⟩:∃z,Lib.cut r [10]=z:=⟨_,rfl⟩;have j:=qxi r;have o:=q4q r;rw[c]at j o
  replace i:Ca 23 #[.string ⟨r.toArray⟩,.string ⟨#[10]⟩] wr λe w'=>e=.returned (.tuple #[.string ⟨x.toArray⟩,.string ⟨y.toArray⟩,.bool f])/\∃q,w'=wr.drewN q:=i.mono λe w' ⟨F,q,V⟩=>by
   have X:Lib.cut (⟨r.toArray⟩:ByteArray).data.toList (⟨#[10]⟩:ByteArray).data.toList=(x,y,f):=c;rw[X]at F;exact⟨F,q,V⟩
  have Y:=b.out.1;have e:=b.out.2;rw[if_pos rfl,j]at e
  have G:Hid (∃rest,(qfq s.data.toList).map bya=a++bya x::rest/\jam s.data.toList (a++[bya x]) y f/\y.length+(if f=true then 1 else 0)<r.length+1):=by
   cases f with
   |true=>
    have l1:=o rfl;simp only at l1;simp only[if_true]at e ⊢;exact⟨(qao y).map bya,by rw[e];rfl,⟨by omega,by rw[e];simp⟩,by omega⟩
   |false=>
    simp only[Bool.false_eq_true,if_false]at e ⊢
    have Z:y=[]:=by
     have q:(Lib.cut r [10]).2.2=false:=by rw[c]
     have:(Lib.cut r [10]).2.1=[]:=by
         unfold Lib.cut at q ⊢;split at q
         ·cases q
         rename_i u;rw[if_neg u]
     rw[c]at this;exact this
    subst Z;exact⟨[],by rw[e];rfl,⟨by simp,by rw[e];simp⟩,by simp⟩
  obtain⟨rest,H,I,K⟩:=G.out;have L:=hd2 I K;have YY:Hid (∀q,YieldAt Fence.wide (n-1) Tryz.prog l #[.string ⟨x.toArray⟩] (wr.drewN q) λe W'=>e=.returned (.bool true)/\J (a++[bya x]) W'):=λq=>C a (bya x) rest (wr.drewN q) (P _ _ _ h ⟨rfl,rfl,rfl,jcd _,λ_ _=>rfl⟩) H;clear C Y e H I K G b j o E c
  gi_wp2_with (refine⟨trivial,?_⟩;gi_at_call 23;refine(callsIn_wide.2 i).mono ?_;rintro e w' ⟨rfl,q,rfl⟩)
  obtain⟨fn,tmps,assign,body,hyy,hR⟩:=YY.out q;rw[hyy]
  gi_wp2
  refine hR.mono ?_;rintro e W3 ⟨rfl,hJ3⟩
  gi_wp2
  go_roundw
  case rel=>exact⟨_,y,f,rfl,rfl,L.out.1,hJ3⟩
  have:=L.out.2
  cases f<;>simp[q6r,jao,Lib.size_eq]at this ⊢<;>omega
end
section
open Go.RowKit
variable {l:List (Option Nat)}
theorem q4i (h:l.Pairwise (λx y=>∀k,x=some k->y≠some k)) (i:Nat) {x:Option Nat} (r:∀k,x=some k->l[i]?=some (some k)\/∀y∈l,y≠some k):(l.set i x).Pairwise (λx y=>∀k,x=some k->y≠some k):=by
 refine List.pairwise_iff_getElem.2 λa c s t p k e d=>?_
 have f:a<l.length:=by simpa using s
 have j:c<l.length:=by simpa using t
 have P:=List.pairwise_iff_getElem.1 h;rw[List.getElem_set]at e d;split at e
 ·rename_i u;split at d
  ·omega
  rcases r k e with q|q
  ·rw[u,jcg f]at q;exact P a c f j p k (jcu q) d
  exact q _ (jdr j) d
 split at d
 ·rename_i v;rcases r k d with q|q
  ·rw[v,jcg j]at q;exact P a c f j p k e (jcu q)
  exact q _ (jdr f) e
 exact P a c f j p k e d
theorem jax {w:World} {id:Int} (T:TypeId):RS (w.nu (vz (qg8 id) (.slice none 0 0) (.slice none 0 0) (.slice none 0 0)).toArray T) w.heap.size (λk=>k=w.heap.size) (λ_=>none) (qg8 id):=by
 have B:=qd.new (w:=w) (T:=T) (vz (qg8 id) (.slice none 0 0) (.slice none 0 0) (.slice none 0 0)) rfl;refine⟨.slice none 0 0,.slice none 0 0,.slice none 0 0,[],[],⟨B,jcx _ _ _ _,jcx _ _ _ _,jcx _ _ _ _,λh d=>(by cases d),by simp[Value.ownBlock],by simp[Value.ownBlock],by simp[Value.ownBlock],by simp[Value.ownBlock],by simp[Value.ownBlock],by simp[Value.ownBlock],λm a=>(by cases a)⟩,rfl,rfl,λk=>⟨λh=>.inl (.inl h),λh=>?_⟩,λ_ _ e=>(by cases e)⟩;rcases h with (h|h|h|h)|⟨m,a,_⟩
 ·exact h
 ·simp[Value.ownBlock]at h
 ·simp[Value.ownBlock]at h
 ·simp[Value.ownBlock]at h
 cases a
def qcu (M:RoM) (k:Nat):Nat->qfr:=λi=>if i<k then qek (M.bp i) (λ_=>none) (qg8 i)else qjd (M.bs (i-k)) qez
structure qja (w0:World) (b n c k m:Nat) (M:RoM) (Gs:Nat->Nat->Prop) (w:World):Prop where
 box:qd w b [M.sv,M.wv,M.cv,M.av,M.yv,U 0]
 sr:w.ownsRow 0 75 1 M.sv k (qgn M.bp k)
 wr:w.ownsRow 0 3 1 M.wv n (qdw (λ_=>0) n)
 cr:w.ownsRow 0 87 1 M.cv m (qgn M.bs m)
 ar:w.ownsRow 0 3 1 M.av c (qdw (λ_=>0) c)
 yl:M.yv=.slice none 0 0/\M.l=[]/\M.F=λ_ _=>none
 fam:zh w (k+m) (qcu M k) Gs (ql b M) (k+m) NoY
 ap:(vx b M).Pairwise (λx y=>∀k,x=some k->y≠some k)
 gs:∀j q,j<k+m->Gs j q->w0.heap.size<=q
 ft:∀q,ql b M q->w0.heap.size<=q
 hb:Bw w0 w
theorem qp5 (bp:Nat->Nat) (n p:Nat):qgn (λj=>if j=n then p else bp j) (n+1)=qgn bp n++[PP p]:=by
 unfold qgn;rw[List.range_succ,jdb]
 congr 1
 ·refine List.map_congr_left (λj a=>?_);have:=List.mem_range.1 a;show Value.pointer (PT (if j=n then p else bp j))=_;rw[if_neg (by omega)]
 simp
variable {q:Nat} {T:TypeId} {o:Obj}
section
variable {w0 w w2 wE:World} {b n c k m g cap:Nat} {M:RoM} {Gs:Nat->Nat->Prop}
theorem qja.ltF (h:qja w0 b n c k m M Gs w):∀q,ql b M q->q<w.heap.size:=λq e=>(h.fam.free q e).1
theorem qo7 (a:Bw w w2) {r:Option Nat} (f:w2.grownBy wE r) {s:Nat} {v:Value} (d:q<w.heap.size) (h:q≠b) (i:r≠some q):(wE.setCell (AD b s) v).heap[q]?=w.heap[q]?:=
 (jce _ _ _ _ h).trans ((f.block q (jci d a.size) (λe=>i e.symm)).trans (a.block q d))
theorem qja.site (h:qja w0 b n c k 0 M Gs w) (t:w2=(w.nu (vz (qg8 k) (.slice none 0 0) (.slice none 0 0) (.slice none 0 0)).toArray T).alloc o)
 (own:wE.ownsRow 0 75 1 (.slice (PT g) (k+1) cap) (k+1) (qgn M.bp k++[PP w.heap.size])) (d:w2.grownBy wE M.sv.ownBlock) (v:M.sv.ownBlock=some g\/g=w2.heap.size):
 qja w0 b n c (k+1) 0 {M with sv:=.slice (PT g) (k+1) cap,bp:=λj=>if j=k then w.heap.size else M.bp j} (λj=>if j=k then (λq=>q=w.heap.size)else Gs j) (wE.setCell (AD b 0) (.slice (PT g) (k+1) cap)):=by
 have E:Bw w (w.nu (vz (qg8 k) (.slice none 0 0) (.slice none 0 0) (.slice none 0 0)).toArray T):=boxed (jcc _ w) _
 have u:Bw w w2:=by rw[t];exact boxed E _
 have s2:w2.heap.size=w.heap.size+2:=by rw[t];simp
 have N:=d.size
 have f:(wE.setCell (AD b 0) (.slice (PT g) (k+1) cap)).heap.size=wE.heap.size:=by simp[World.setCell]
 have A:=(jdv.1 h.ap);have B:=(jdv.1 A.2);have O:=h.box.lt;have lv:∀q,q<w.heap.size->q≠b->M.sv.ownBlock≠some q->(wE.setCell (AD b 0) (.slice (PT g) (k+1) cap)).heap[q]?=w.heap[q]?:=λq F H I=>qo7 u d F H I;have row:=λ{x} hx q e=>lv q (h.ltF q (by rw[e]at hx;exact jdc _ (jdc _ hx))) (λa=>A.1 x (jdc _ hx) b rfl (by rw[e,a])) (λa=>B.1 x hx q a e)
 have J:g≠b:=λe=>by
  rcases v with q|q
  ·exact A.1 M.sv.ownBlock (by simp) b rfl (by rw[q,e])
  omega
 have nv:∀q,(Value.slice (PT g) (k+1) cap).ownBlock=some q->M.sv.ownBlock=some q\/w.heap.size+2<=q:=λq e=>by
  have K:g=q:=jcu e;subst K;exact v.imp id (λq=>by omega)
 have z:∀q,ql b {M with sv:=.slice (PT g) (k+1) cap,bp:=λj=>if j=k then w.heap.size else M.bp j} q->ql b M q\/w.heap.size+2<=q:=λq e=>by
  have e:some q∈some b::(Value.slice (PT g) (k+1) cap).ownBlock::[M.wv.ownBlock,M.cv.ownBlock,M.av.ownBlock,M.yv.ownBlock]:=e;rcases jdd.1 e with e|e
  ·exact .inl (jdd.2 (.inl e))
  rcases jdd.1 e with e|e
  ·exact(nv q e.symm).imp (λr=>by unfold ql vx;rw[r];simp) id
  exact .inl (jdc _ (jdc _ e))
 have P:=h.hb.size;refine⟨?_,?_,qf h.wr (row (by simp)),qf h.cr (row (by simp)),qf h.ar (row (by simp)),h.yl,?_,?_,λj q s e=>?_,λq e=>?_,?_⟩
 ·have:=((h.box.later u).grown d (λe=>A.1 M.sv.ownBlock (by simp) b rfl e.symm)).set 0 (.slice (PT g) (k+1) cap) (by simp);exact this
 ·show World.ownsRow _ 0 _ 1 _ (k+1) (qgn (λj=>if j=k then w.heap.size else M.bp j) (k+1));rw[qp5];exact qf own (λq e=>jce _ _ _ _ (λa=>J ((jcu e).trans a)))
 ·have L:RS (wE.setCell (AD b 0) (.slice (PT g) (k+1) cap)) w.heap.size (λq=>q=w.heap.size) (λ_=>none) (qg8 k):=by
   refine(jax (w:=w) (id:=k) T).kept (λq e=>?_) (by rw[f];simp;omega);have e:=e;subst e;refine(jce _ _ _ _ (by simp only;omega)).trans ((d.block _ (by omega) (λe=>?_)).trans ?_)
   ·have:=h.ltF w.heap.size (by unfold ql vx;rw[<-e];simp);omega
   rw[t];exact(boxed (jcc _ (w.nu (vz (qg8 k) (.slice none 0 0) (.slice none 0 0) (.slice none 0 0)).toArray T)) o).block _ (by simp)
  refine h.fam.snoc (n:=k) (G:=λq=>q=w.heap.size) (λj q s e=>lv q ((qcu M k j).lt _ _ (h.fam.is j s) q e) (λa=>(h.fam.free b (by simp[ql,vx])).2 j s (by rw[<-a];exact e)) (λa=>(h.fam.free q (by unfold ql vx;rw[a];simp)).2 j s e)) (by rw[f];omega) ?_ (λq e=>by omega) (λi hi=>?_) (λq e=>?_)
  ·show (qcu _ (k+1) k).is _ _;unfold qcu;rw[if_pos (by omega)];show RS _ (if k=k then w.heap.size else M.bp k) _ _ _;rw[if_pos rfl];exact L
  ·have hi:=hi;unfold qcu;rw[if_pos (by omega),if_pos hi];show qek (if i=k then w.heap.size else M.bp i) _ _=_;rw[if_neg (by omega)]
  rcases z q e with r|r
  ·have:=h.ltF q r;exact⟨.inl r,by rw[f];omega,λa=>by omega⟩
  refine⟨.inr (by omega),?_,λa=>by omega⟩;rw[f];have e:some q∈some b::(Value.slice (PT g) (k+1) cap).ownBlock::[M.wv.ownBlock,M.cv.ownBlock,M.av.ownBlock,M.yv.ownBlock]:=e;rcases jdd.1 e with e|e
  ·injection e with e;omega
  rcases jdd.1 e with e|e
  ·exact(own.lt q e.symm).2
  have:=h.ltF q (jdc _ (jdc _ e));omega
 ·refine q4i h.ap 1 (x:=(Value.slice (PT g) (k+1) cap).ownBlock) (λq e=>?_);rcases nv q e with r|r
  ·exact .inl (by show some M.sv.ownBlock=_;rw[r])
  refine .inr (λy C a=>?_);have:=h.ltF q (by rw[a]at C;exact C);omega
 ·have e:=e;by_cases D:j=k
  ·rw[if_pos D]at e;omega
  rw[if_neg D]at e;exact h.gs j q (by omega) e
 ·rcases z q e with r|r
  ·exact h.ft q r
  omega
 exact((qa h.hb u).grown d (by omega) (λq e=>h.ft q (by unfold ql vx;rw[<-e];simp))).setCell (p:=AD b 0) (h.ft b (by simp[ql,vx])) _
theorem qpw (h:l.Pairwise (λx y=>∀k,x=some k->y≠some k)) {i j:Nat} (e:i≠j) (f:l[i]?=some (some q)):l[j]?≠some (some q):=λp=>by
 have P:=List.pairwise_iff_getElem.1 h;obtain⟨a1,a2⟩:=jck.1 f;obtain⟨a,d⟩:=jck.1 p;rcases Nat.lt_or_gt_of_ne e with q|q
 ·exact P i j a1 a q _ a2 d
 exact P j i a a1 q _ d a2
theorem qja.ses (h:qja w0 b n c k m M Gs w) (u:w2=(w.nu (jr qez (.slice none 0 0)).toArray T).alloc o)
 (own:wE.ownsRow 0 87 1 (.slice (PT g) (m+1) cap) (m+1) (qgn M.bs m++[PP w.heap.size])) (d:w2.grownBy wE M.cv.ownBlock) (A:M.cv.ownBlock=some g\/g=w2.heap.size):
 qja w0 b n c k (m+1) {M with cv:=.slice (PT g) (m+1) cap,bs:=λj=>if j=m then w.heap.size else M.bs j} (λj=>if j=k+m then (λq=>q=w.heap.size)else Gs j) (wE.setCell (AD b 2) (.slice (PT g) (m+1) cap)):=by
 have E:Bw w (w.nu (jr qez (.slice none 0 0)).toArray T):=boxed (jcc _ w) _
 have v:Bw w w2:=by rw[u];exact boxed E _
 have s2:w2.heap.size=w.heap.size+2:=by rw[u];simp
 have L:=d.size
 have f:(wE.setCell (AD b 2) (.slice (PT g) (m+1) cap)).heap.size=wE.heap.size:=by simp[World.setCell]
 have N:=h.box.lt;have cb:M.cv.ownBlock≠some b:=λe=>qpw h.ap (i:=0) (j:=3) (q:=b) (by decide) rfl (by show some M.cv.ownBlock=_;rw[e]);have lv:∀q,q<w.heap.size->q≠b->M.cv.ownBlock≠some q->(wE.setCell (AD b 2) (.slice (PT g) (m+1) cap)).heap[q]?=w.heap[q]?:=λq F H z=>qo7 v d F H z;have row:∀{j:Nat} (_:j≠0) (_:j≠3) (q:Nat),(vx b M)[j]?=some (some q)->(wE.setCell (AD b 2) (.slice (PT g) (m+1) cap)).heap[q]?=w.heap[q]?:=λ{j} h0 z q e=>lv q (h.ltF q (jcq e)) (λa=>qpw h.ap (i:=0) (j:=j) (q:=b) (λe=>h0 e.symm) rfl (by rw[e,a])) (λa=>qpw h.ap (i:=3) (j:=j) (q:=q) (λe=>z e.symm) (by show some M.cv.ownBlock=_;rw[a]) e)
 have I:g≠b:=λe=>by
  rcases A with q|q
  ·exact cb (by rw[q,e])
  omega
 have nv:∀q,(Value.slice (PT g) (m+1) cap).ownBlock=some q->M.cv.ownBlock=some q\/w.heap.size+2<=q:=λq e=>by
  have J:g=q:=jcu e;subst J;exact A.imp id (λq=>by omega)
 have B:∀q,ql b {M with cv:=.slice (PT g) (m+1) cap,bs:=λj=>if j=m then w.heap.size else M.bs j} q->ql b M q\/(w.heap.size+2<=q/\q<wE.heap.size):=λq e=>by
  have e:some q∈[some b,M.sv.ownBlock,M.wv.ownBlock]++((Value.slice (PT g) (m+1) cap).ownBlock::[M.av.ownBlock,M.yv.ownBlock]):=e;rcases jcf.1 e with e|e
  ·exact .inl (List.mem_append_left [M.cv.ownBlock,M.av.ownBlock,M.yv.ownBlock] e)
  rcases jdd.1 e with e|e
  ·exact(nv q e.symm).imp (λr=>by unfold ql vx;rw[r];simp) (λr=>⟨r,(own.lt q e.symm).2⟩)
  exact .inl (List.mem_append_right [some b,M.sv.ownBlock,M.wv.ownBlock] (jdc _ e))
 have O:=h.hb.size;refine⟨?_,qf h.sr (λq e=>row (j:=1) (by decide) (by decide) q (by show some M.sv.ownBlock=_;rw[e])),qf h.wr (λq e=>row (j:=2) (by decide) (by decide) q (by show some M.wv.ownBlock=_;rw[e])),?_,qf h.ar (λq e=>row (j:=4) (by decide) (by decide) q (by show some M.av.ownBlock=_;rw[e])),h.yl,?_,?_,λj q s e=>?_,λq e=>?_,?_⟩
 ·have:=((h.box.later v).grown d (λe=>cb e.symm)).set 2 (.slice (PT g) (m+1) cap) (by simp);exact this
 ·show World.ownsRow _ 0 _ 1 _ (m+1) (qgn (λj=>if j=m then w.heap.size else M.bs j) (m+1));rw[qp5];exact qf own (λq e=>jce _ _ _ _ (λa=>I ((jcu e).trans a)))
 ·have K:RSe (wE.setCell (AD b 2) (.slice (PT g) (m+1) cap)) w.heap.size (λq=>q=w.heap.size) qez:=by
   refine(jaa (w:=w) T).kept (λq e=>?_) (by rw[f];simp;omega);have e:=e;subst e;refine(jce _ _ _ _ (by simp only;omega)).trans ((d.block _ (by omega) (λe=>?_)).trans ?_)
   ·have:=h.ltF w.heap.size (by unfold ql vx;rw[<-e];simp);omega
   rw[u];exact(boxed (jcc _ (w.nu (jr qez (.slice none 0 0)).toArray T)) o).block _ (by simp)
  refine h.fam.snoc (n:=k+m) (G:=λq=>q=w.heap.size) (λj q s e=>lv q ((qcu M k j).lt _ _ (h.fam.is j s) q e) (λa=>(h.fam.free b (by simp[ql,vx])).2 j s (by rw[<-a];exact e)) (λa=>(h.fam.free q (by unfold ql vx;rw[a];simp)).2 j s e)) (by rw[f];omega) ?_ (λq e=>by omega) (λi hi=>?_) (λq e=>?_)
  ·show (qcu _ k (k+m)).is _ _;unfold qcu;rw[if_neg (by omega)];show RSe _ (if k+m-k=m then w.heap.size else M.bs (k+m-k)) _ _;rw[if_pos (by omega)];exact K
  ·unfold qcu;by_cases t:i<k
   ·rw[if_pos t,if_pos t]
   rw[if_neg t,if_neg t];show qjd (if i-k=m then w.heap.size else M.bs (i-k)) _=_;rw[if_neg (by omega)]
  rcases B q e with r|r
  ·have:=h.ltF q r;exact⟨.inl r,by rw[f];omega,λa=>by omega⟩
  exact⟨.inr (by omega),by rw[f];exact r.2,λa=>by omega⟩
 ·refine q4i h.ap 3 (x:=(Value.slice (PT g) (m+1) cap).ownBlock) (λq e=>?_);rcases nv q e with r|r
  ·exact .inl (by show some M.cv.ownBlock=_;rw[r])
  refine .inr (λy C a=>?_);have:=h.ltF q (by rw[a]at C;exact C);omega
 ·have e:=e;by_cases D:j=k+m
  ·rw[if_pos D]at e;omega
  rw[if_neg D]at e;exact h.gs j q (by omega) e
 ·rcases B q e with r|r
  ·exact h.ft q r
  omega
 exact((qa h.hb v).grown d (by omega) (λq e=>h.ft q (by unfold ql vx;rw[<-e];simp))).setCell (p:=AD b 2) (h.ft b (by simp[ql,vx])) _
theorem qja.done (h:qja w0 b n c n c M Gs w):RW w b (qg6 b M (n+c) Gs) (qcb n c)/\∀q,qg6 b M (n+c) Gs q->w0.heap.size<=q:=by
 obtain⟨f,a,p⟩:=h.yl;refine⟨⟨M,Gs,⟨h.box,h.sr,h.wr,h.cr,h.ar,?_,by rw[a];rfl,λx d=>(by rw[a]at d;cases d),?_,h.ap⟩,λ_=>jdl⟩,λq r=>r.elim (h.ft q) (λ⟨j,s,e⟩=>h.gs j q s e)⟩
 ·rw[f,a];exact jcx _ _ _ _
 have:qdm M (qcb n c)=qcu M n:=by
  funext i
  unfold qdm qcu;rw[p];rfl
 rw[this];exact h.fam
theorem qja.first {g g':Nat} (a:qd w b [.slice none 0 0,.slice (PT g) n n,.slice none 0 0,.slice (PT g') c c,.slice none 0 0,U 0]) (d:w.ownsRow 0 3 1 (.slice (PT g) n n) n (qdw (λ_=>0) n)) (f:w.ownsRow 0 3 1 (.slice (PT g') c c) c (qdw (λ_=>0) c)) (a1:g≠g') (a2:g≠b) (a3:g'≠b) (f1:w0.heap.size<=g) (r:w0.heap.size<=g') (s:w0.heap.size<=b) (p:Bw w0 w):
 qja w0 b n c 0 0 ⟨.slice none 0 0,.slice (PT g) n n,.slice none 0 0,.slice (PT g') c c,.slice none 0 0,λ_=>0,λ_=>0,λ_ _=>none,[]⟩ (λ_ _=>False) w:=by
 have h:∀q,ql b ⟨.slice none 0 0,.slice (PT g) n n,.slice none 0 0,.slice (PT g') c c,.slice none 0 0,λ_=>0,λ_=>0,λ_ _=>none,[]⟩ q->q=b\/q=g\/q=g':=λq e=>by
  have e:some q∈[some b,none,some g,none,some g',none]:=e;simpa using e
 refine⟨a,jcx _ _ _ _,d,jcx _ _ _ _,f,⟨rfl,rfl,rfl⟩,⟨λi hi=>by omega,λi j q hi=>by omega,λq e=>⟨?_,λi hi=>by omega⟩,λq e=>e.elim⟩,?_,λj q t=>by omega,λq e=>?_,p⟩
 ·rcases h q e with e|e|e
  ·rw[e];exact a.lt
  ·rw[e];exact(d.lt g rfl).2
  rw[e];exact(f.lt g' rfl).2
 ·show [some b,none,some g,none,some g',none].Pairwise _;simp;omega
 rcases h q e with e|e|e<;>omega
end
end
open Go.RowKit
theorem qro (x:Nat->Int) (y:Int) {i:Nat} (n:Nat) (hi:i<n):(qdw x n).set i (U y)=qdw (jj x i y) n:=by
 refine List.ext_getElem? λj=>?_;rw[List.getElem?_set];have c:=qlj x n;by_cases a:j<n
 ·rw[qie a (x:=jj x i y)];by_cases q:i=j
  ·subst q;rw[if_pos rfl,if_pos (by omega),qt]
  rw[if_neg q,qie a,yq _ _ (λe=>q e.symm)]
 rw[List.getElem?_eq_none (l:=qdw (jj x i y) n) (by rw[qlj];omega),if_neg (by omega)];exact List.getElem?_eq_none (by omega)
section
variable {w:World} {b g cc i:Nat} {M:RoM} {W:WoS} {Gs:Nat->Nat->Prop}
theorem RWo.setAt (h:RWo w b M W Gs) (l:M.av=.slice (PT g) W.c cc) (hi:i<W.c) (x:Nat):RWo (w.setCell (AD g i) (U x)) b M {W with at_:=jj W.at_ i x} Gs/\qc (λk=>k=g) w (w.setCell (AD g i) (U x)):=by
 have r:M.av.ownBlock=some g:=by rw[l];rfl
 have m:(vx b M)[4]?=some (some g):=by show some M.av.ownBlock=_;rw[r]
 have n:∀k,k≠g->(w.setCell (AD g i) (U x)).heap[k]?=w.heap[k]?:=λk d=>jce _ _ _ _ (λe=>d e)
 have f:(w.setCell (AD g i) (U x)).heap.size=w.heap.size:=by simp[World.setCell]
 have row:∀{j:Nat} (_:j≠4) (q:Nat),(vx b M)[j]?=some (some q)->(w.setCell (AD g i) (U x)).heap[q]?=w.heap[q]?:=λ{j} a q e=>n q (λt=>qpw h.ap (i:=4) (j:=j) (λe=>a e.symm) m (by rw[e,t]));have gf:ql b M g:=jcq m;have p:=λj k a e=>n k (λq=>(h.fam.free g gf).2 j a (by rw[<-q];exact e));refine⟨⟨h.box.kept (row (j:=0) (by decide) b rfl) (by rw[f];exact jcd _),qf h.sr (λq e=>row (j:=1) (by decide) q (by show some M.sv.ownBlock=_;rw[e])),qf h.wr (λq e=>row (j:=2) (by decide) q (by show some M.wv.ownBlock=_;rw[e])),qf h.cr (λq e=>row (j:=3) (by decide) q (by show some M.cv.ownBlock=_;rw[e])),?_,qf h.yr (λq e=>row (j:=5) (by decide) q (by show some M.yv.ownBlock=_;rw[e])),h.nl,λy u=>(h.gr y u).tj (λj k o a e=>⟨e,(h.site a).frozen e,(p j k (by omega) ((h.site a).frozenG e)).trans ((h.site a).frozen e)⟩),h.fam.tj p (by rw[f];exact jcd _) (λk d=>⟨.inl d,by rw[f];exact h.ltF k d⟩),h.ap⟩,qc.setCell _ _ _ rfl⟩;have o:=h.ar;rw[l]at o ⊢;have s:=(o.stored i (U x)).1;rw[qro _ _ _ hi]at s
 have e:(λk=>((jj W.at_ i x k:Nat):Int))=jj (λk=>(W.at_ k:Int)) i (x:Int):=by
  funext k
  unfold jj
  split<;>rfl
 show World.ownsRow _ 0 _ 1 _ W.c (qdw (λk=>((jj W.at_ i x k:Nat):Int)) W.c);rw[e];exact s
theorem RWo.setWall (h:RWo w b M W Gs) (f:M.wv=.slice (PT g) W.n cc) (hi:i<W.n) (x:Int):RWo (w.setCell (AD g i) (U x)) b M {W with wall:=jj W.wall i x} Gs/\qc (λk=>k=g) w (w.setCell (AD g i) (U x)):=by
 have r:M.wv.ownBlock=some g:=by rw[f];rfl
 have l:(vx b M)[2]?=some (some g):=by show some M.wv.ownBlock=_;rw[r]
 have m:∀k,k≠g->(w.setCell (AD g i) (U x)).heap[k]?=w.heap[k]?:=λk c=>jce _ _ _ _ (λe=>c e)
 have d:(w.setCell (AD g i) (U x)).heap.size=w.heap.size:=by simp[World.setCell]
 have row:∀{j:Nat} (_:j≠2) (q:Nat),(vx b M)[j]?=some (some q)->(w.setCell (AD g i) (U x)).heap[q]?=w.heap[q]?:=λ{j} a q e=>m q (λt=>qpw h.ap (i:=2) (j:=j) (λe=>a e.symm) l (by rw[e,t]));have gf:ql b M g:=jcq l;have p:=λj k a e=>m k (λq=>(h.fam.free g gf).2 j a (by rw[<-q];exact e));refine⟨⟨h.box.kept (row (j:=0) (by decide) b rfl) (by rw[d];exact jcd _),qf h.sr (λq e=>row (j:=1) (by decide) q (by show some M.sv.ownBlock=_;rw[e])),?_,qf h.cr (λq e=>row (j:=3) (by decide) q (by show some M.cv.ownBlock=_;rw[e])),qf h.ar (λq e=>row (j:=4) (by decide) q (by show some M.av.ownBlock=_;rw[e])),qf h.yr (λq e=>row (j:=5) (by decide) q (by show some M.yv.ownBlock=_;rw[e])),h.nl,λy u=>(h.gr y u).tj (λj k o a e=>⟨e,(h.site a).frozen e,(p j k (by omega) ((h.site a).frozenG e)).trans ((h.site a).frozen e)⟩),h.fam.tj p (by rw[d];exact jcd _) (λk c=>⟨.inl c,by rw[d];exact h.ltF k c⟩),h.ap⟩,qc.setCell _ _ _ rfl⟩;have o:=h.wr;rw[f]at o ⊢;have s:=(o.stored i (U x)).1;rw[qro _ _ _ hi]at s;exact s
end
end Go.Proofs.YtoanjdndmlffdaaGreatDoor
