import Derived.Test.YtoanjdndmlffdaaGreatDoorRWoF
set_option maxHeartbeats 16000000
set_option maxRecDepth 1000000
namespace Go.Proofs.YtoanjdndmlffdaaGreatDoor
open Go.RowKit
section
variable {w w1:World} {b:Nat} {G:Nat->Prop}
theorem qae.bind {w2:World} {W1 c:WoS} (h:qae w b G W1 w1) (f:∀a,RW w1 b a W1->qae w1 b a c w2):qae w b G c w2:=by
 obtain⟨a,j,d,e⟩:=h;obtain⟨k,p1,p2,p3⟩:=f a j;have s:=e.size;exact⟨k,p1,λq l=>(p2 q l).elim (d q) (λr=>.inr (by omega)),e.more p3 d⟩
def jbq (w:World) (b:Nat) (G:Nat->Prop) (W:WoS) (i:Nat) (g:GrS) (e:Ending) (w':World):Prop:=
 ∃x:GrR,e=.returned (.agg (qbj x).toArray)/\x.g=g/\Hid (qr w' x.m.wa x.m.wc x.m.t.ws/\(∀s a0 a1 a2 a3,x.g.body=.ask s a0 a1 a2 a3->x.wa=none/\x.wc=0)/\qae w b G (qai W i) w')
variable {W:WoS} {i:Nat} {g:GrS}
theorem qzc (w:World) (h:RW w b G W) (c:W.net.length<=300) (hi:W.net[i]?=some g):
 Ca 38 #[PP b,U i] w (jbq w b G W i g):=by
 obtain⟨M,A,h,r⟩:=h
 have B:M.l.length=W.net.length:=by rw[<-h.nl];simp
 have s:i<M.l.length:=by have:=(jck.1 hi).1;omega
 obtain⟨x,d⟩:∃x,M.l[i]?=some x:=⟨_,jcg s⟩
 have t:x.g=g:=by
  have:=hi;rw[<-h.nl,jcv,d]at this;exact jcu this
 have f:=h.gr x (jcq d);refine(q95 w h c d rfl).mono λe w' ⟨u,v,n,y,a⟩=>⟨x,u,t,?_,f.none,?_⟩
 ·refine f.wi.kept (m:=x.m) (λk e=>?_);obtain⟨j,o,p,q⟩:=f.fr k e;exact((n.site (i:=j) p).frozen q).trans ((h.site p).frozen q).symm
 exact qc5.post (W:=W) ⟨v,M.l.eraseIdx i,n,λk e=>.inr (y k e),⟨a.os,a.tape,a.output,a.size,λk z c=>a.block k z (λe=>c (.inl e))⟩⟩ r rfl rfl
theorem qwm {x:GrR} (c:WfW W) (j:qeq W) (hi:W.net[i]?=some g) (a:x.g=g) (h:Hid (qr w1 x.m.wa x.m.wc x.m.t.ws/\(∀s a0 a1 a2 a3,x.g.body=.ask s a0 a1 a2 a3->x.wa=none/\x.wc=0)/\qae w b G (qai W i) w1)):
 Ca 37 #[PP b,.agg (qbj x).toArray] w1 λe w'=>e=.returned (.tuple #[])/\∃W',Hid (zy W i W')/\qae w b G W' w':=by
 have d:=jcq hi;have v:=h.out.2.2;obtain⟨y,k,s1,f⟩:=h.out.2.2;refine(qzo x w1 k (c.drop i) (by rw[a];exact c.tj g d) h.out.1 h.out.2.1 (by rw[a];exact j g d)).mono λe w' ⟨l,W',n,o⟩=>⟨l,W',⟨g,hi,by rw[<-a];exact n.out⟩,?_⟩;obtain⟨p,p1,p2,p3⟩:=o;have s:=f.size;exact⟨p,p1,λq u=>(p2 q u).elim (s1 q) (λr=>.inr (by omega)),f.more p3 s1⟩
theorem qt9 {cb:Nat} (w:World) (h:RW w b G W) (B:WfW W) (C:qeq W) (o:w.cell? (AD cb 0)=some (PP b)) (t:¬G cb):
 Ca 89 #[PP cb] w λe w'=>e=.returned (.tuple #[])/\∃W',Hid (qaf W W'/\WfW W'/\qeq W')/\qae w b G W' w':=by
 have u:=hd5 h B C o t;have L:cb<w.heap.size:=jcr _ _ o
 have D:Hid (∀w',qc G w w'->w'.cell? (AD cb 0)=some (PP b)):=λw' j=>by rw[jch (w:=w) (j.block cb L t)];exact o
 clear h B C o t;go_enter Tryz.func89,Tryz.ntmps89
 go_wp2_with fail
 go_loopg [1] (qjh W.net) (λk _ wr=>∃W1:WoS,qjh W1.net<=k/\Hid (WfW W1/\qeq W1/\qae w b G W1 wr/\∀W',qaf W1 W'->qaf W W'))
 case atStart=>exact⟨W,jcd _,u.out.2.1,u.out.2.2.1,qae.same u.out.1 (jcc _ _),λ_ h=>h⟩
 obtain⟨W1,Y,a⟩:=hrel
 have Z:wr.cell? (AD cb 0)=some (PP b):=by
  obtain⟨_,_,_,j⟩:=a.out.2.2.1;exact D.out wr j
 obtain⟨N,E,s1,F⟩:=a.out.2.2.1;have m:=hd3 (show RW wr b N W1 from E) s1 F;obtain⟨M,Gs,n,O⟩:=E
 have H:M.l.length=W1.net.length:=by rw[<-n.nl];simp
 obtain⟨na,nc,I,r⟩:=qq n.yr;have P:=n.box.c 4;rw[I]at P;have hrc:=r.cap;have hrl:=r.len;have hlt:=n.box.lt;clear r I n O s1 F;by_cases d:W1.net=[]
 ·have q:¬0<(M.l.length:Int):=by rw[H,d];simp
  go_wp2_with fail
  go_end0;exact⟨rfl,W1,⟨a.out.2.2.2 W1 (.none d),a.out.1,a.out.2.1⟩,a.out.2.2.1⟩
 obtain⟨g,v⟩:∃g,W1.net[0]?=some g:=by
  cases hn:W1.net with
  |nil=>exact absurd hn d
  |cons x r=>exact⟨x,rfl⟩
 have q:0<(M.l.length:Int):=by
  have:W1.net.length≠0:=λe=>d (jc2 e);omega
 have J:=hd2 (show W1.net≠[]from d) v
 have Q:Hid (∀w',Bw wr w'->Ca 38 #[PP b,U 0] w' (jbq w b G W1 0 g)):=λw' y=>(qzc (i:=0) w' (m.out.1.later y) a.out.1.net v).mono λe w2 ⟨x,R,z,f⟩=>⟨x,R,z,f.out.1,f.out.2.1,by
  obtain⟨S,p1,p2,p3⟩:=f.out.2.2;have s:=m.out.2.2.size;have s2:=y.size
  exact⟨S,p1,λq T=>(p2 q T).elim (m.out.2.1 q) (λr=>.inr (by omega)),(m.out.2.2.trans (qc.ofBelow y)).more p3 m.out.2.1⟩⟩
 clear H d v
 go_wp2_with fail
 go_region_law (first
  |(refine qah rfl 38 rfl #[PP b,U 0] (by go_simp) (Q.out _ (jcc _ _).drew) ?_
    rintro e w2 ⟨x,rfl,z,f⟩;refine⟨_,rfl,?_⟩
    have c92:w2.cell? (AD cb 0)=some (PP b):=by
        obtain⟨_,_,_,j⟩:=f.out.2.2
        exact D.out w2 j)
  |(refine qah rfl 37 rfl #[PP b,.agg (qbj x).toArray] (by go_simp) (qwm a.out.1 a.out.2.1 J.out.2 z f) ?_
    rintro e w3 ⟨rfl,K,p,V⟩
    refine⟨_,rfl,?_⟩))
 all_goals
  have wt:=qjk a.out.1 p.out
  go_wp2_with fail
  go_roundg (qjh K.net)
  case measure=>omega
  exact⟨K,jcd _,a.out.1.deliver p.out,a.out.2.1.deliver a.out.1 p.out,V,λW' X=>a.out.2.2.2 W' (.step J.out.1 p.out X)⟩
end
section
variable {w:World} {b:Nat} {G:Nat->Prop} {W:WoS}
theorem RW.len0 (h:RW w b G W):∃a cap,w.cell? (AD b 0)=some (.slice a W.n cap)/\b<w.heap.size:=by
 obtain⟨M,g,h,_⟩:=h;obtain⟨d,e,f,r⟩:=qq h.sr;have c:=h.box.c 0;rw[f]at c;exact⟨d,e,c,h.box.lt⟩
theorem qae.get {w':World} {W':WoS} (h:qae w b G W' w'):∃a,RW w' b a W':=by
 obtain⟨a,c,_⟩:=h;exact⟨a,c⟩
theorem q8g (w:World) (h:RW w b G W) (K:WfW W) (hN:qeq W):
 Ca 41 #[PP b] w λe w'=>e=.returned (.tuple #[])/\∃W',Hid (qg9 W W'/\WfW W'/\qeq W')/\qae w b G W' w':=by
 have L:=boxed (jcc _ w) (.cells #[PP b] 44);have t:=qd.new (w:=w) (T:=44) (n:=w.heap.size) [PP b] rfl;change qd (w.alloc (.cells #[PP b] 44)) w.heap.size [PP b]at t;have D:=h.lt;have u:Hid (∀w',qc G (w.alloc (.cells #[PP b] 44)) w'->w'.cell? (AD w.heap.size 0)=some (PP b)):=λw' j=>(t.kept (j.block _ t.lt (λe=>by have:=D _ e;omega)) j.size).c 0;have M:=t.c 0;have N:=qt9 _ (h.later L) K hN M (λe=>by have:=D _ e;omega);have N4:=hd1 K.n4
 have NG:Hid (¬G w.heap.size):=λe=>by have:=D _ e;omega
 have FR:Hid (∀W' w',qae (w.alloc (.cells #[PP b] 44)) b G W' w'->qae w b G W' w'):=λW' w' O=>qae.from L O;obtain⟨w0,E⟩:∃w0,w.alloc (.cells #[PP b] 44)=w0:=⟨_,rfl⟩;obtain⟨cb,P⟩:∃cb,w.heap.size=cb:=⟨_,rfl⟩
 have BRX:Hid (∀l W1,WfW W1->qeq W1->qae w0 b G W1 l->Ca 89 #[PP cb] l λe w'=>e=.returned (.tuple #[])/\∃W',Hid (qaf W1 W'/\WfW W'/\qeq W')/\qae w0 b G W' w'):=λl W1 h1 h2 O=>by
  obtain⟨G1,a1,a2,a3⟩:=O;have s:=a3.size;rw[<-E]at a2 a3 s ⊢;rw[<-P];refine(qt9 l a1 h1 h2 (u.out l a3) (λe=>?_)).mono λe w' ⟨Q,W',hB,p⟩=>⟨Q,W',hB,?_⟩
  ·rcases a2 _ e with r|r
   ·exact NG.out r
   simp at r;omega
  obtain⟨G2,p1,p2,p3⟩:=p;exact⟨G2,p1,λq R=>(p2 q R).elim (a2 q) (λr=>.inr (by omega)),a3.more p3 a2⟩
 rw[E,P]at N M u;rw[E]at FR;clear h K hN D t NG;go_enter Tryz.func41,Tryz.ntmps41
 go_wp2_with fail
 refine N.mono ?_;rintro e l ⟨rfl,W1,F,p⟩;have H:=hd1 p;obtain⟨G1,P1⟩:=H.out.get;obtain⟨pa,pc,v,S⟩:=P1.len0;have V:=F.out.1.keep.n;rw[V]at v;have HN:=hd1 V
 have x:l.cell? (AD cb 0)=some (PP b):=by
  obtain⟨_,_,_,j⟩:=H.out;exact u.out l j
 clear N p V P1 M E P L
 go_wp2_with fail
 clear v x S
 go_loopw [13] (λiv wr=>∃(k:Nat) (z:Int) (g:WoS),k<=W.n/\z=k/\iv=U z/\Hid (WfW g/\g.n=W.n/\qc1 k W1 g/\qae w0 b G g wr/\qeq g)) (λiv _=>W.n-(intOf iv).toNat)
 case atStart=>exact⟨0,0,W1,by omega,rfl,rfl,F.out.2.1,HN.out,.zero,H.out,F.out.2.2⟩
 clear H;obtain⟨k,z,g,hk,X,rfl,d⟩:=hrel;have B:=hd1 X;by_cases hlt:k<W.n
 ·have g1:z<(W.n:Int):=by omega
  have g3:0<=z:=by omega
  have g4:z<4:=by have:=N4.out;omega
  obtain⟨G2,P2⟩:=d.out.2.2.2.1.get;obtain⟨pa2,pc2,v,S⟩:=P2.len0;rw[d.out.2.1]at v
  have x:wr.cell? (AD cb 0)=some (PP b):=by
   obtain⟨_,_,_,j⟩:=d.out.2.2.2.1;exact u.out wr j
  clear X P2
  go_wp2_with fail
  clear v x S
  go_loopw [21] (λY wr=>∃(m:Nat) (y:Int) (f:WoS),m<=W.n/\y=m/\Y=U y/\Hid (WfW f/\f.n=W.n/\qdo k m g f/\qae w0 b G f wr/\qeq f)) (λY _=>W.n-(intOf Y).toNat)
  case atStart=>exact⟨0,0,g,by omega,rfl,rfl,d.out.1,d.out.2.1,.zero,d.out.2.2.2.1,d.out.2.2.2.2⟩
  obtain⟨m,y,f,hm,I,rfl,a⟩:=hrel;have C:=hd1 I;by_cases hml:m<W.n
  ·have f1:y<(W.n:Int):=by omega
   have f3:0<=y:=by omega
   have f4:y<4:=by have:=N4.out;omega
   have x:wr.cell? (AD cb 0)=some (PP b):=by
        obtain⟨_,_,_,j⟩:=a.out.2.2.2.1;exact u.out wr j
   by_cases Z:m=k
   ·have f5:z=y:=by have:=B.out;omega
    subst f5;clear I
    go_wp2_with fail
    go_roundw
    case rel=>exact⟨m+1,z+1,f,by omega,by have:=C.out;omega,by go_num,a.out.1,a.out.2.1,.self a.out.2.2.1 Z,a.out.2.2.2⟩
    simp[intOf];have:=C.out;omega
   have f5:¬z=y:=by have:=B.out;omega
   have AK:Hid (Ca 36 #[PP b,U z,U y] wr λe w'=>e=.returned (.tuple #[])/\qae w0 b G (qme f k m) w'):=by
        obtain⟨G3,P3,s3,t3⟩:=a.out.2.2.2.1;have:=q5z wr P3 (i:=k) (o:=m) (by rw[a.out.2.1];exact hlt);rw[<-B.out,<-C.out]at this;refine this.mono λe w' ⟨Q,p⟩=>⟨Q,?_⟩;obtain⟨Gx,p1,p2,p3⟩:=p;have s:=t3.size;exact⟨Gx,p1,λq R=>(p2 q R).elim (s3 q) (λr=>.inr (by omega)),t3.more p3 s3⟩
   have HM:=hd3 (show m≠k from Z) hlt hml;clear I Z
   go_wp2_with fail
   refine AK.out.mono ?_;rintro e w4 ⟨rfl,hP4⟩;have WA:WfW (qme f k m):=a.out.1.send (by show m<f.n;rw[a.out.2.1];exact HM.out.2.2);have NA:qeq (qme f k m):=a.out.2.2.2.2.send (by show 0<=(k:Int)/\(k:Int)<(f.n:Int);rw[a.out.2.1];have:=HM.out.2.1;omega);have BR2:=hd1 (BRX.out w4 _ WA NA hP4);clear AK WA NA hP4 x
   go_wp2_with fail
   refine BR2.out.mono ?_;rintro e w5 ⟨rfl,W5,J,hP5⟩
   go_wp2_with fail
   go_roundw
   case rel=>exact⟨m+1,y+1,W5,by omega,by have:=C.out;omega,by go_num,J.out.2.1,(J.out.1.keep.n.trans (yb _ _).n).trans a.out.2.1,.ask a.out.2.2.1 HM.out.1 J.out.1,hP5,J.out.2.2⟩
   simp[intOf];have:=C.out;omega
  have f1:¬y<(W.n:Int):=by omega
  have e:m=W.n:=by omega
  clear I
  go_wp2_with fail
  go_roundw
  case rel=>exact⟨k+1,z+1,f,by omega,by have:=B.out;omega,by go_num,a.out.1,a.out.2.1,.next d.out.2.2.1 (by rw[d.out.2.1,<-e];exact a.out.2.2.1),a.out.2.2.2⟩
  simp[intOf];have:=B.out;omega
 have g1:¬z<(W.n:Int):=by omega
 have e:k=W.n:=by omega
 clear X
 go_wp2_with fail
 go_end0;exact⟨rfl,g,⟨⟨W1,F.out.1,by rw[HN.out,<-e];exact d.out.2.2.1⟩,d.out.1,d.out.2.2.2.2⟩,FR.out _ _ d.out.2.2.2.1⟩
end
section
variable {G:Nat->Prop}
section
variable {w:World} {b:Nat} {M:RoM} {W:WoS} {Gs:Nat->Nat->Prop}
theorem RWo.clientsAt (h:RWo w b M W Gs):∃a e d f,w.cell? (AD b 2)=some (.slice a W.c e)/\W.c<=e/\w.cell? (AD b 3)=some (.slice d W.c f)/\W.c<=f/\(0<W.c->∃g g',a=some (AD g 0)/\d=some (AD g' 0)/\g<w.heap.size/\g'<w.heap.size/\∀j,j<W.c->w.cell? (AD g j)=some (PP (M.bs j))/\w.cell? (AD g' j)=some (U (W.at_ j))):=by
 obtain⟨a,e,n,r⟩:=qq h.cr;obtain⟨d,f,o,i⟩:=qq h.ar;have k:=h.box.c 2;have l:=h.box.c 3;rw[n]at k;rw[o]at l;refine⟨a,e,d,f,k,r.len,l,i.len,λv=>?_⟩;rcases r.held with q|⟨g,rfl,p,s⟩
 ·omega
 rcases i.held with q|⟨g',rfl,t,u⟩
 ·omega
 exact⟨g,g',rfl,rfl,p,t,λj m=>⟨s j _ (qn4 m),u j _ (qie m)⟩⟩
theorem RSe.snap {s:qy} (h:RSe w b G s):w.cell? (AD b 4)=some (U s.s0)/\w.cell? (AD b 5)=some (U s.s1)/\w.cell? (AD b 6)=some (U s.s2)/\w.cell? (AD b 7)=some (U s.s3)/\w.cell? (AD b 8)=some (.bool s.opn)/\b<w.heap.size:=by
 obtain⟨wv,h,_⟩:=h;exact⟨h.box.c 4,h.box.c 5,h.box.c 6,h.box.c 7,h.box.c 8,h.box.lt⟩
end
theorem q57 {b:Nat} {W:WoS} (w:World) (h:RW w b G W) (y:WfW W) {i:Nat} (hi:i<W.n):
 Ca 40 #[PP b,U i] w λe w'=>e=.returned (.tuple #[])/\qae w b G (qo2 W i) w':=by
 obtain⟨M,Gs,h,L⟩:=h;have d:=hd4 h L y hi;obtain⟨g,cap,Z,hcap,hg,N⟩:=h.sitesAt hi;have c1:=N i hi;have O:=h.box.lt
 have q1:(i:Int)<(W.n:Int):=by omega
 have HC6:=hd1 y.c6;obtain⟨ca,cca,da,dda,P,hcl,B,hdl,o⟩:=h.clientsAt;have C:=hd3 P B o;clear h L y N P B o hi;go_enter Tryz.func40,Tryz.ntmps40
 go_wp2_with fail
 refine qma (qv4 w d.out.1 d.out.2.2.2 _ ?_);rintro u15 u16 u17 u18 u19 u20 u21 u22 u23 u24 u25 u26 D w4 Q t R;have E:=hd3 Q t R;have c2:=cell_later t C.out.1;have hlt4:=jci O t.size;clear Q t R Z c1
 go_wp2_with fail
 clear c2
 go_loopw [32] (λiv wr=>∃(j:Nat) (z:Int),j<=W.c/\z=j/\iv=U z/\Hid (qd wr D (v4C (dwV W i j))/\Bw w wr)) (λiv _=>W.c-(intOf iv).toNat)
 case atStart=>exact⟨0,0,by omega,rfl,rfl,E.out.1,E.out.2.1⟩
 obtain⟨j,z,hj,H,rfl,a⟩:=hrel;have u:=hd1 H;by_cases I:j<W.c
 ·have g1:z<(W.c:Int):=by omega
  have g2:z.toNat=j:=by omega
  have g3:0<=z:=by omega
  have g4:z<6:=by have:=HC6.out;omega
  clear H;obtain⟨cg,cg',hca,hda,hcg,hcg',o⟩:=C.out.2.2 (by omega);subst hca;subst hda;have x0:=cell_later a.out.2 (o j I).1;have T:=cell_later a.out.2 (o j I).2;obtain⟨r,J⟩:∃r:Int,(W.at_ j:Int)=r:=⟨_,rfl⟩
  have x1:wr.cell? (AD cg' j)=some (U r):=by rw[<-J];exact T
  have V:=hd1 J;have B:=cell_later a.out.2 C.out.2.1;have ltr:=jci O a.out.2.size;obtain⟨s0,s1,s2,s3,X,sl⟩:=((d.out.1.later a.out.2).sess I).snap;clear J T o;cases ho:(W.ses j).opn;have s:Hid (dwV W i (j+1)=dwV W i j):=q49 (λq=>by rw[ho]at q;cases q.2);rw[ho]at X
  rotate_left
  rw[ho]at X;by_cases x:r=(i:Int)
  ·subst x;have s:Hid (dwV W i (j+1)=⟨qm (dwV W i j).v0 (W.ses j).s0,qm (dwV W i j).v1 (W.ses j).s1,qm (dwV W i j).v2 (W.ses j).s2,qm (dwV W i j).v3 (W.ses j).s3⟩):=q9r ⟨by have:=V.out;omega,ho⟩;obtain⟨v,k⟩:∃v,dwV W i j=v:=⟨_,rfl⟩;rw[k]at s
   have m:qd wr D [U v.v0,U v.v1,U v.v2,U v.v3]:=by have:=a.out.1;rw[k]at this;exact this
   have HF:=hd1 m;obtain⟨a0,a1,a2,a3⟩:=m.c4;have lv:=m.lt;have MI:Hid (∀w',Ca 86 #[.agg #[U v.v0,U v.v1,U v.v2,U v.v3],.agg #[U (W.ses j).s0,U (W.ses j).s1,U (W.ses j).s2,U (W.ses j).s3]] w' λe w''=>e=.returned (.agg #[U (qm v.v0 (W.ses j).s0),U (qm v.v1 (W.ses j).s1),U (qm v.v2 (W.ses j).s2),U (qm v.v3 (W.ses j).s3)])/\Bw w' w''):=λw'=>qgh _ _ _ _ _ _ _ _ w';clear ho m k
   go_wp2_with fail
   go_region_law (refine qah rfl 86 rfl #[.agg #[U v.v0,U v.v1,U v.v2,U v.v3],.agg #[U (W.ses j).s0,U (W.ses j).s1,U (W.ses j).s2,U (W.ses j).s3]] (by go_simp) (MI.out wr.drew) ?_
                  rintro e w7 ⟨rfl,hb7⟩;refine⟨_,rfl,?_⟩;have Y:=qa (jcc _ wr).drew hb7;have p:=HF.out.later Y;obtain⟨d0,d1,d2,d3⟩:=p.c4;have f0:=p.f 0;have f1:=p.f 1;have f2:=p.f 2
                  have f3:=p.f 3)
   all_goals
        go_wp2_with fail
        go_roundw
        case rel=>exact⟨j+1,z+1,by omega,by have:=u.out;omega,by go_num,by rw[s.out];exact qmu p _ _ _ _,qe8 (qa a.out.2 Y) E.out.2.2 _ _ _ _⟩
        simp[intOf];have:=u.out;omega
  have s:Hid (dwV W i (j+1)=dwV W i j):=q49 (λq=>x (by have:=V.out;have:=q.1;omega))
  have hq1:(r==(i:Int))=false:=by simp[x]
  have hq2:=decide_eq_false x
  all_goals
   clear ho
   go_wp2_with fail
   go_roundw
   case rel=>exact⟨j+1,z+1,by omega,by have:=u.out;omega,by go_num,by rw[s.out];exact a.out.1,a.out.2⟩
   simp[intOf];have:=u.out;omega
 have g1:¬z<(W.c:Int):=by omega
 have e:j=W.c:=by omega
 subst e;have R9:=a.out.1;have K:=hd2 (d.out.1.later a.out.2.drew) a.out.2.drew;obtain⟨v,k⟩:∃v,dwV W i W.c=v:=⟨_,rfl⟩
 have m:qd wr D [U v.v0,U v.v1,U v.v2,U v.v3]:=by have:=a.out.1;rw[k]at this;exact this
 have SW:Hid (Ca 88 #[.pointer (some (AD (M.bp i) 9)),.agg #[U v.v0,U v.v1,U v.v2,U v.v3]] wr.drew λe w'=>e=.returned (.tuple #[])/\RPo wr.drew (M.bp i) (Gs i) (M.F i) {W.S i with l:=qcr v.v0 v.v1 v.v2 v.v3 (W.S i).l} w'):=qy5 v.v0 v.v1 v.v2 v.v3 wr.drew (K.out.1.site d.out.2.2.2) (d.out.2.2.1.inv i d.out.2.2.2)
 have HW:Hid (qo2 W i=setSite W i {W.S i with l:=qcr v.v0 v.v1 v.v2 v.v3 (W.S i).l}):=by show _=_;rw[<-k];rfl
 obtain⟨z0,z1,z2,z3⟩:=m.c4;clear H R9 m k
 go_wp2_with fail
 go_region_law (refine qah rfl 88 rfl #[.pointer (some (AD (M.bp i) 9)),.agg #[U v.v0,U v.v1,U v.v2,U v.v3]] (by go_simp) SW.out ?_
                rintro e w8 ⟨rfl,hp⟩
                refine⟨_,rfl,?_⟩)
 all_goals
  go_wp2_with fail
  go_end0;refine⟨rfl,?_⟩;rw[HW.out];exact qae.from K.out.2 (K.out.1.stepS d.out.2.1 d.out.2.2.2 hp)
end
section
section
variable {w w' wA wB:World} {b i:Nat} {M:RoM} {W:WoS} {Gs:Nat->Nat->Prop}
theorem RWo.kept (h:RWo w b M W Gs) (f:∀k,qg6 b M (W.n+W.c) Gs k->w'.heap[k]?=w.heap[k]?) (g:w.heap.size<=w'.heap.size):RWo w' b M W Gs:=by
 have l:=λk q=>f k (.inl q)
 have a:∀{x:Option Nat},x∈vx b M->∀k,x=some k->w'.heap[k]?=w.heap[k]?:=λd k e=>by rw[e]at d;exact l k d
 refine⟨h.box.kept (l b (by simp[ql,vx])) g,qf h.sr (a (by simp[vx])),qf h.wr (a (by simp[vx])),qf h.cr (a (by simp[vx])),qf h.ar (a (by simp[vx])),qf h.yr (a (by simp[vx])),h.nl,λx d=>(h.gr x d).tj (λi k o hi e=>?_),h.fam.tj (λj k p e=>f k (.inr ⟨j,p,e⟩)) g (λk e=>⟨.inl e,jci (h.ltF k e) g⟩),h.ap⟩;have:=(h.site hi).frozen e;exact⟨e,this,(f k (.inr ⟨i,by omega,(h.site hi).frozenG e⟩)).trans this⟩
theorem RWo.com (h:RWo w b M W Gs) (hi:i<W.c) (r:W.at_ i<W.n) {S':qe} {a:qy} {F':Nat->Option Obj} {Y:Nat->Prop} (s:∀k o,M.F (W.at_ i) k=some o->F' k=some o) (t:qfx (qjd (M.bs i) a) (qek (M.bp (W.at_ i)) F' S') w (Gs (W.n+i)) (Gs (W.at_ i)) Y w'):
 ∃d,RWo w' b {M with F:=jj M.F (W.at_ i) F'} (vf (setSite W (W.at_ i) S') i a) d/\(∀m k,d m k->Gs m k\/w.heap.size<=k)/\qc (λk=>Gs (W.n+i) k\/Gs (W.at_ i) k) w w':=by
 obtain⟨u,v,p1,x,p2,y,z,_,l⟩:=t
 obtain⟨d,f,g,A,l⟩:=h.fam.step2G (ps':=qdm {M with F:=jj M.F (W.at_ i) F'} (vf (setSite W (W.at_ i) S') i a)) (i:=W.n+i) (j:=W.at_ i) (by omega) (by omega) ⟨u,v,p1,x,p2,y,z,λ_ e=>e.elim,l⟩ (by
  show (if W.n+i<W.n then _ else _)=_;rw[if_neg (by omega)];show qjd (M.bs (W.n+i-W.n)) (jj W.ses i a (W.n+i-W.n))=_
  rw[show W.n+i-W.n=i by omega,qt]) (by
  show (if W.at_ i<W.n then qek (M.bp (W.at_ i)) (jj M.F (W.at_ i) F' (W.at_ i)) (jj W.S (W.at_ i) S' (W.at_ i))else _)=_
  rw[if_pos r,qt,qt]) (λm B C p=>by
  show (if m<W.n then qek (M.bp m) (jj M.F (W.at_ i) F' m) (jj W.S (W.at_ i) S' m)else qjd (M.bs (m-W.n)) (jj W.ses i a (m-W.n)))=(if m<W.n then _ else _);by_cases q:m<W.n
  ·rw[if_pos q,if_pos q,yq _ _ p,yq _ _ p]
  rw[if_neg q,if_neg q,yq _ _ (by omega)])
 refine⟨d,h.keep A f (λj k o D e=>?_) rfl rfl rfl rfl rfl rfl,g,l⟩;by_cases q:j=W.at_ i
 ·subst q;rw[qt];exact s k o e
 rw[yq _ _ q];exact e
end
def qi9 (wA:World) (b:Nat) (M:RoM) (W:WoS) (Gs:Nat->Nat->Prop) (i:Nat) (m:TxM) (ce:Int) (wB:World):Prop:=
 ce=wcE W i/\m.t=wcT W i/\qr wB m.wa m.wc m.t.ws/\∃F' Gs',RWo wB b {M with F:=jj M.F (W.at_ i) F'} (qd4 W i) Gs'/\(∀j k,Gs' j k->Gs j k\/wA.heap.size<=k)/\qc (λk=>Gs (W.n+i) k\/Gs (W.at_ i) k) wA wB/\∀k,m.blk k->∃o,F' k=some o
def jb5 (w:World) (b:Nat) (M:RoM) (W:WoS) (Gs:Nat->Nat->Prop) (i:Nat) (m:TxM) (ce:Int) (mb:Nat) (wC:World):Prop:=qd wC mb (txC m)/\w.heap.size<=mb/\qi9 w b M W Gs i m ce wC
section
variable {w wA wB wC:World} {b i:Nat} {M:RoM} {W:WoS} {Gs:Nat->Nat->Prop} {m:TxM} {ce:Int}
theorem qi9.lie (a:RWo w b M W Gs) (hi:i<W.c) (d:W.at_ i<W.n) {k:Nat} (f:w.heap.size<=k):¬(Gs (W.n+i) k\/Gs (W.at_ i) k):=λe=>by
 have:k<w.heap.size:=e.elim (λq=>a.ltG (by omega) q) (λq=>a.ltG (by omega) q);omega
theorem qi9.box (h:qi9 wA b M W Gs i m ce wB) (e:RWo w b M W Gs) (hi:i<W.c) (f:W.at_ i<W.n) {l:List Value} (a:qd wA w.heap.size l):qd wB w.heap.size l:=by
 obtain⟨_,_,_,_,_,_,_,d,_⟩:=h;exact a.kept (d.block _ a.lt (qi9.lie e hi f (jcd _))) d.size
theorem qi9.tj (h:qi9 wA b M W Gs i m ce wB) (d:RWo w b M W Gs) (f:W.at_ i<W.n) (g:Bw w wA) (l:∀k,(k<w.heap.size\/wA.heap.size<=k)->k<wB.heap.size->wC.heap[k]?=wB.heap[k]?) (p:qc (λk=>w.heap.size<=k) wB wC):qi9 w b M W Gs i m ce wC:=by
 obtain⟨y,z,A,F',r,a,t,B,u⟩:=h
 have C:∀k,qg6 b {M with F:=jj M.F (W.at_ i) F'} ((qd4 W i).n+(qd4 W i).c) r k->wC.heap[k]?=wB.heap[k]?:=λk e=>by
  rcases e with e|⟨j,v,e⟩
  ·exact l k (.inl (d.ltF k e)) (a.ltF k e)
  exact l k ((t j k e).imp (λq=>d.ltG v q) id) (a.ltG v e)
 have R:=a.kept C p.size;have s:=g.size;refine⟨y,z,?_,F',r,R,λj k e=>(t j k e).imp id (λq=>by omega),((qc.ofBelow g).trans B).more p (λk q=>.inr q),u⟩;refine A.kept (m:=m) (λk e=>?_);obtain⟨o,x⟩:=u k e;have D:=(R.site (i:=W.at_ i) f).frozen (o:=o) (k:=k) (by show jj M.F (W.at_ i) F' (W.at_ i) k=_;rw[qt];exact x);have E:=(a.site (i:=W.at_ i) f).frozen (o:=o) (k:=k) (by show jj M.F (W.at_ i) F' (W.at_ i) k=_;rw[qt];exact x);exact D.trans E.symm
end
variable {X:Nat->Prop} {w w':World}
theorem qwr (c:∀k,X k->k<w.heap.size) (h:jg X w w') (o:Obj):jg X w (w'.alloc o):=
 have b:=boxed (jcc w'.heap.size w') o
 ⟨b.os.trans h.os,b.tape.trans h.tape,b.output.trans h.output,jcn h.size b.size,λk a=>(b.block k (jci (c k a) h.size)).trans (h.block k a)⟩
theorem vy (h:jg X w w'):jg X w w'.drew:=
 have b:=(jcc w'.heap.size w').drew
 ⟨b.os.trans h.os,b.tape.trans h.tape,b.output.trans h.output,jcn h.size b.size,h.block⟩
theorem qzv (c:∀k,X k->k<w.heap.size) (h:jg X w w') {g j:Nat} (d:w.heap.size<=g) (u:Value):jg X w (w'.setCell (AD g j) u):=
 ⟨h.os,h.tape,h.output,by simpa[World.setCell]using h.size,λk a=>(jce _ _ _ _ (λe=>by have:=c k a;simp only at e;omega)).trans (h.block k a)⟩
variable {b i:Nat} {M:RoM} {W:WoS} {Gs:Nat->Nat->Prop}
theorem qi9.keeps {wA wB:World} {m:TxM} {ce:Int} (h:qi9 wA b M W Gs i m ce wB) (g:RWo w b M W Gs) (hi:i<W.c) (l:W.at_ i<W.n) (a:Bw w wA):jg (ql b M) w wB:=by
 obtain⟨_,_,_,_,_,_,_,d,_⟩:=h;have s:=a.size;refine⟨d.os.trans a.os,d.tape.trans a.tape,d.output.trans a.output,jcn s d.size,λk j=>?_⟩;have f:=g.fam.free k j;exact(d.block k (by omega) (λe=>e.elim (f.2 _ (by omega)) (f.2 _ (by omega)))).trans (a.block k f.1)
noncomputable def jbg:Code:=((Tryz.f34.body.bind (qa0 2)).getD .skip)
theorem q1p {Q S V Y y7 y8 Z aa ab ac ad ae af ag y17 y18 y19 y20 y21 y22 y23 y24 y25 y26 y27 y28 y29 y30 y31 y32 y33 y34 y35 y36 y37 y38 y39 y40 y41 ah ai aj ak al am an ao ap aq ar au av aw ax ay az aA aB aC aD aE aF aG aH aI:Value} (w:World) (h:RWo w b M W Gs) (J:WfW W) (hi:i<W.c) (hp:0<=(W.ses i).p0) (R:Act->World->Prop)
 (hR:∀(u17 u18 u19 u20 u21 u22 u23 u24 u25 u26 u27 u28 u29 u30 u31 u32 u33 u34 u35 u36 u37 u38 u39 u40 u41:Value) (o p q r s t v x:Int) (y:List Wr) (z:Option Addr) (B:Nat) (ce:Int) (mb:Nat) (wc:World),jb5 w b M W Gs i (⟨⟨o,p,q,r,s,t,v,x,y⟩,z,B⟩:TxM) ce mb wc->R ⟨List.toArray ((PP b)::(U i)::Q::S::V::Y::(U (W.at_ i))::(PP mb)::(U ce)::Z::aa::ab::ac::ad::ae::af::ag::u17::u18::u19::u20::u21::u22::u23::u24::u25::u26::u27::u28::u29::u30::u31::u32::u33::u34::u35::u36::u37::u38::u39::u40::u41::ah::ai::aj::ak::al::am::an::ao::ap::aq::ar::au::av::aw::ax::ay::az::aA::aB::aC::aD::aE::aF::aG::aH::aI::[]),[]⟩ wc):
 Code.wp Tryz.prog jbg (Exit.then R (λ_ _ _=>False)) ⟨List.toArray ((PP b)::(U i)::Q::S::V::Y::(U (W.at_ i))::y7::y8::Z::aa::ab::ac::ad::ae::af::ag::y17::y18::y19::y20::y21::y22::y23::y24::y25::y26::y27::y28::y29::y30::y31::y32::y33::y34::y35::y36::y37::y38::y39::y40::y41::ah::ai::aj::ak::al::am::an::ao::ap::aq::ar::au::av::aw::ax::ay::az::aA::aB::aC::aD::aE::aF::aG::aH::aI::[]),[]⟩ w:=by
 have HR:Hid _:=hR;clear hR;have C:=J.at_ i hi
 have CM:Hid (∀wA,Bw w wA->Ca 81 #[PP (M.bs i),.pointer (some (AD (M.bp (W.at_ i)) 0)),U (W.wall (W.at_ i))] wA λe wB=>∃(o p q r s t v x:Int) (y:List Wr) (z:Option Addr) (B:Nat) (ce:Int),e=.returned (.tuple #[.agg (List.toArray (T9 o p q r s t v x z y.length B)),U ce])/\Hid (qi9 wA b M W Gs i (⟨⟨o,p,q,r,s,t,v,x,y⟩,z,B⟩:TxM) ce wB)):=λwA hA=>by
  have F:=h.later hA;refine(qmi (W.wall (W.at_ i)) wA (F.sess hi) (F.site C) (J.inv _ C) (λk e1 e2=>F.fam.apart _ _ k (by omega) (by omega) (by omega) e1 e2) hp).mono λe wB ⟨⟨⟨o,p,q,r,s,t,v,x,y⟩,z,B⟩,he,hm,hh⟩=>⟨o,p,q,r,s,t,v,x,y,z,B,_,he,rfl,hm,hh.out.1,?_⟩;obtain⟨F',hFE,hl⟩:=hh.out.2;obtain⟨Gs',r1,r2,r3⟩:=F.com hi C hFE.1 hl;exact⟨F',Gs',r1,r2,r3,hFE.2⟩
 have d:=hd3 h hi C;obtain⟨g,cap,K,hcap,hg,hc⟩:=h.sitesAt C;have c0':=hc _ C;obtain⟨ca,cca,da,dda,L,hcl,c3,hdl,G⟩:=h.clientsAt;obtain⟨N,cg',rfl,rfl,hcg,hcg',G⟩:=G (by omega);have c2':=(G i hi).1;obtain⟨wv,wcp,hwv,wr⟩:=qq h.wr
 obtain⟨O,rfl,hwg,hwc⟩:∃g,wv=some (AD g 0)/\g<w.heap.size/\∀j u,(qdw W.wall W.n)[j]?=some u->w.cell? (AD g j)=some u:=by
  rcases wr.held with h0|h0
  ·omega
  exact h0
 have P:=h.box.c 1;rw[hwv]at P;have c1':=hwc _ _ (qie C);have hwl:=wr.len;have hlt:=h.box.lt
 have q1:(i:Int)<(W.c:Int):=by omega
 have q2:(W.at_ i:Int)<(W.n:Int):=by omega
 have FL:=h.ltF
 have H:ql b M b:=by simp[ql,vx]
 have fs:ql b M g:=by have:=h.box.c 0;rw[K]at this;unfold ql vx;rw[<-jcu this];simp[Value.ownBlock]
 have fw:ql b M O:=by unfold ql vx;rw[hwv];simp[Value.ownBlock]
 have fc:ql b M N:=by have:=h.box.c 2;rw[L]at this;unfold ql vx;rw[<-jcu this];simp[Value.ownBlock]
 have K0:=λ(w':World) (k:jg (ql b M) w w')=>(jch (w:=w) (a:=AD b 0) (k.block b H)).trans K;have K1:=λ(w':World) (k:jg (ql b M) w w')=>(jch (w:=w) (a:=AD b 1) (k.block b H)).trans P;have K2:=λ(w':World) (k:jg (ql b M) w w')=>(jch (w:=w) (a:=AD b 2) (k.block b H)).trans L;have K3:=λ(w':World) (k:jg (ql b M) w w')=>(jch (w:=w) (a:=AD g (W.at_ i)) (k.block g fs)).trans c0';have K4:=λ(w':World) (k:jg (ql b M) w w')=>(jch (w:=w) (a:=AD O (W.at_ i)) (k.block O fw)).trans c1';have K5:=λ(w':World) (k:jg (ql b M) w w')=>(jch (w:=w) (a:=AD N i) (k.block N fc)).trans c2';have K00:jg (ql b M) w w:=⟨rfl,rfl,rfl,jcd _,λ_ _=>rfl⟩;have KD:=vy K00;clear h hc G hwc J wr hi C K P L c0' c1' c2' H fs fw fc
 conv=>arg 2;whnf
 go_region_held3 (λw'=>jg (ql b M) w w') (repeat (first|(with_reducible assumption)|(with_reducible refine qwr FL ?_ _)|(with_reducible refine vy ?_)|(refine qzv FL ?_ (by first|exact jcd _|assumption|(simp;omega)) _))) (first
  |(go_at_call 81
    with_reducible refine(CM.out w.drew (jcc _ w).drew).mono ?_
    rintro e wB ⟨o,p,q,r,s,t,v,x,y,z,B,ce,rfl,D⟩;have E:Bw w _:=(jcc _ w).drew;have I:=D.out.keeps d.out.1 d.out.2.1 d.out.2.2 E;have hbs:=I.size
    have hs0:=hlt)
  |(go_at_call 81
    with_reducible refine(CM.out (w.alloc (.cells ZA 102)).drew (boxed (jcc _ w) (.cells ZA 102)).drew).mono ?_
    rintro e wB ⟨o,p,q,r,s,t,v,x,y,z,B,ce,rfl,D⟩;have E:Bw w _:=(boxed (jcc _ w) (.cells ZA 102)).drew;have I:=D.out.keeps d.out.1 d.out.2.1 d.out.2.2 E;have hbs:=I.size;have RW0:=(qd.new (w:=w) (T:=102) (n:=w.heap.size) ZL rfl).drew;have l:=D.out.box d.out.1 d.out.2.1 d.out.2.2 RW0;obtain⟨v0,v1,v2,v3,v4,v5,v6,v7,v8⟩:=l.c9;have f0:=l.f 0;have f1:=l.f 1;have f2:=l.f 2;have f3:=l.f 3;have f4:=l.f 4;have f5:=l.f 5;have f6:=l.f 6;have f7:=l.f 7
    have f8:=l.f 8))
 all_goals
  first
   |(have hck:=l.lt
     go_simp
     refine HR.out _ _ _ _ _ _ _ _ _ _ _ _ _ _ _ _ _ _ _ _ _ _ _ _ _ o p q r s t v x y z B ce _ _ ⟨yz l rfl _ _ _ _ _ _ _ _ _,jcd _,D.out.tj d.out.1 d.out.2.2 E (λk hk1 hk2=>qco (λe=>by simp at hk1;omega) _ _ _ _ _ _ _ _ _) (qaz (qc.ofBelow (jcc _ _)) (jcd _) _ _ _ _ _ _ _ _ _)⟩)
   |(go_simp
     refine HR.out _ _ _ _ _ _ _ _ _ _ _ _ _ _ _ _ _ _ _ _ _ _ _ _ _ o p q r s t v x y z B ce _ _ ⟨qd.new (w:=wB) (T:=102) (T9 o p q r s t v x z y.length B) rfl,I.size,D.out.tj d.out.1 d.out.2.2 E (λk hk1 hk2=>(boxed (jcc _ wB) _).block k hk2) (qc.ofBelow (boxed (jcc _ wB) _))⟩)
end
def q6p (w:World) (b:Nat) (G:Nat->Prop) (W:WoS) (i:Nat) (e:Ending) (w':World):Prop:=
 ∃m:TxM,e=.returned (.tuple #[txV m,U (wcE W i)])/\m.t=wcT W i/\Hid (qr w' m.wa m.wc m.t.ws/\∃G',RW w' b G' (wcW W i)/\(∀k,G' k->G k\/w.heap.size<=k)/\qc G w w'/\∀k,m.blk k->G' k)
variable {w:World} {b:Nat}
theorem qh6 {tmps:Array Value} {x0 x1 x2 x3 d e f g:Int} {ev:Value} {a:Option Addr} {n c:Nat} (h:qd w b (T9 x0 x1 x2 x3 d e f g a n c)) (j:tmps[4]?=some (PP b)) (k:tmps[5]?=some ev):
 (results Tryz.f34 tmps).run Tryz.prog w=.ok (.tuple #[.agg (List.toArray (T9 x0 x1 x2 x3 d e f g a n c)),ev]) w:=by
 obtain⟨l,o,p,q,r,s,t,u,v⟩:=h.c9;simp[results,Tryz.results34,go_sem,j,k,l,o,p,q,r,s,t,u,v]
structure quy (w wr:World) (b:Nat) (G:Nat->Prop) (W':WoS) (m:TxM) (mb:Nat):Prop where
 rt:qd wr w.heap.size ZL
 rm:qd wr mb (txC m)
 ne:w.heap.size<mb
 wi:qr wr m.wa m.wc m.t.ws
 all:∃G',RW wr b G' W'/\(∀k,G' k->G k\/w.heap.size<k)/\qc (λk=>G k\/k=w.heap.size) w wr/\(∀k,m.blk k->G' k)
def jat (w:World) (b:Nat) (M:RoM) (W:WoS) (Gs:Nat->Nat->Prop) (i:Nat) (m:TxM) (F':Nat->Option Obj) (Gs':Nat->Nat->Prop) (mb:Nat) (wC:World):Prop:=qd wC mb (txC m)/\w.heap.size<=mb/\qr wC m.wa m.wc m.t.ws/\RWo wC b {M with F:=jj M.F (W.at_ i) F'} (qd4 W i) Gs'/\(∀j k,Gs' j k->Gs j k\/w.heap.size<=k)/\qc (λk=>Gs (W.n+i) k\/Gs (W.at_ i) k) w wC/\∀k,m.blk k->∃o,F' k=some o
variable {i mb:Nat} {G:Nat->Prop} {W:WoS} {m:TxM} {wr:World}
theorem jat.told {M:RoM} {t:Nat->Nat->Prop} {g:World} {W':WoS} (h:RWo w b M W t) (a:∀k,G k↔qg6 b M (W.n+W.c) t k) (hi:i<W.c) (u:W.at_ i<W.n) {F':Nat->Option Obj} {d:Nat->Nat->Prop} (H:jat (w.nu ZA 102) b M W t i m F' d mb g) (y:qc5 g b {M with F:=jj M.F (W.at_ i) F'} d W' wr) (v:W'.n=W.n) (z:W'.c=W.c):quy w wr b G W' m mb:=by
 obtain⟨A,Z,N,O,Q,p,B⟩:=H
 have aa:(w.nu ZA 102).heap.size=w.heap.size+1:=by simp
 have P:=y.post (W:=qd4 W i) (G:=qg6 b M (W.n+W.c) d) (λ_=>jdl) v z;obtain⟨x,C,p1,p2,f⟩:=y;obtain⟨G2,q1,q2,q3⟩:=P;have s1:=p.size
 have R:∀k,k=b\/M.yv.ownBlock=some k->k<w.heap.size:=λk e=>h.ltF k (by
  rcases e with e|e
  ·rw[e];simp[ql,vx]
  unfold ql vx;rw[e];simp)
 have D:∀k,w.heap.size<=k->¬(k=b\/M.yv.ownBlock=some k):=λk E e=>by have:=R k e;omega
 have S:=λk (E:w.heap.size<=k)=>qi9.lie (i:=i) h hi u E;have I:=qd.new (w:=w) (T:=102) (n:=w.heap.size) ZL rfl;have J:qd g w.heap.size _:=I.kept (p.block _ I.lt (S _ (jcd _))) p.size
 have V:∀k,qg6 b M (W.n+W.c) d k->G k\/w.heap.size<k:=λk e=>by
  rcases e with e|⟨j,X,e⟩
  ·exact .inl ((a k).2 (.inl e))
  exact(Q j k e).imp (λq=>(a k).2 (.inr ⟨j,X,q⟩)) (λq=>by omega)
 have Y:qc (λk=>G k\/k=w.heap.size) w g:=(qc.ofBelow (boxed (jcc _ w) _)).more p (λk e=>.inl (.inl (e.elim (λq=>(a k).2 (.inr ⟨_,by omega,q⟩)) (λq=>(a k).2 (.inr ⟨_,by omega,q⟩)))))
 have K:W.at_ i<W'.n:=by rw[v];exact u
 have L:∀{k o},F' k=some o->({M with F:=jj M.F (W.at_ i) F',yv:=x,l:=C}:RoM).F (W.at_ i) k=some o:=λ{k o} e=>by show jj M.F (W.at_ i) F' (W.at_ i) k=_;rw[qt];exact e
 refine⟨J.kept (f.block _ J.lt (D _ (jcd _))) f.size,A.kept (f.block _ A.lt (D _ (by omega))) f.size,by omega,?_,?_⟩
 ·refine N.kept (m:=m) (λk e=>?_);obtain⟨o,s⟩:=B k e;exact((p1.site K).frozen (L s)).trans ((O.site (i:=W.at_ i) u).frozen (o:=o) (k:=k) (by show jj M.F (W.at_ i) F' (W.at_ i) k=_;rw[qt];exact s)).symm
 refine⟨qg6 b {M with F:=jj M.F (W.at_ i) F',yv:=x,l:=C} (W'.n+W'.c) d,⟨_,d,p1,λ_=>jdl⟩,λk e=>?_,Y.more f (λk e=>.inl (.inl ((a k).2 (.inl (by
  rcases e with e|e
  ·rw[e];simp[ql,vx]
  unfold ql vx;rw[e];simp))))),λk e=>?_⟩
 ·rw[v,z]at e;rcases e with e|e
  ·have e:some k∈[some b,M.sv.ownBlock,M.wv.ownBlock,M.cv.ownBlock,M.av.ownBlock]++[x.ownBlock]:=e;rcases jcf.1 e with q|q
   ·exact .inl ((a k).2 (.inl (List.mem_append_left [M.yv.ownBlock] q)))
   rcases p2 k (jcj.1 q).symm with r|r
   ·exact .inl ((a k).2 (.inl (by unfold ql vx;rw[r];simp)))
   exact .inr (by omega)
  exact V k (.inr e)
 obtain⟨o,s⟩:=B k e;exact .inr ⟨W.at_ i,by omega,(p1.site K).frozenG (L s)⟩
theorem quy.done (h:quy w wr b G (wcW W i) m mb) (j:∀k,G k->k<w.heap.size) {d:World} (a:qc (λk=>k=w.heap.size) wr d):Hid (qr d m.wa m.wc m.t.ws/\∃c,RW d b c (wcW W i)/\(∀k,c k->G k\/w.heap.size<=k)/\qc G w d/\∀k,m.blk k->c k):=by
 obtain⟨c,a1,a2,a3,f⟩:=h.all
 have g:∀k,c k->k≠w.heap.size:=λk e q=>by
  rcases a2 k e with r|r
  ·have:=j k r;omega
  omega
 refine⟨h.wi.kept (m:=m) (λk e=>a.block k (a1.lt k (f k e)) (g k (f k e))),c,a1.kept (λk e=>a.block k (a1.lt k e) (g k e)) a.size,λk e=>(a2 k e).imp id (λq=>by omega),?_,f⟩;have s:=a3.size;exact⟨a.os.trans a3.os,a.tape.trans a3.tape,a.output.trans a3.output,jcn s a.size,λk l n=>(a.block k (by omega) (by omega)).trans (a3.block k l (λe=>e.elim n (by omega)))⟩
theorem q5w (h:¬0<(wcT W i).seq):wcW W i=qd4 W i:=if_neg h
theorem q9e (h:0<(wcT W i).seq):wcW W i=qam (wcT W i) W.n (qd4 W i):=if_pos h
theorem q2t (w:World) (h:RW w b G W) (L:WfW W) (hi:i<W.c) (hp:0<=(W.ses i).p0) (hs:0<(wcT W i).seq->(wcT W i).site=(W.at_ i:Int)):
 Ca 34 #[PP b,U i] w (q6p w b G W i):=by
 obtain⟨M,Gs,h,S⟩:=h;have ha:=L.at_ i hi;have hb0:=boxed (jcc _ w) (.cells ZA 102);have T:=h.later hb0;have HGL:=hd1 (RW.lt ⟨M,Gs,h,S⟩);have u:=hd6 h S hi ha L.n4 hs;have N:=hd3 T L hp;obtain⟨ca,cca,da,dda,c2,hcl,c3,hdl,O⟩:=T.clientsAt;obtain⟨cg,cg',rfl,rfl,hcg,hcg',O⟩:=O (by omega);have c3':=(O i hi).2;have hlt:=h.box.lt
 have q1:(i:Int)<(W.c:Int):=by omega
 clear h S L O T hi ha hs hp c2;go_enter Tryz.func34,Tryz.ntmps34
 go_wp2_with fail
 refine qma (q1p (i:=i) _ N.out.1 N.out.2.1 u.out.2.2.1 N.out.2.2 _ ?_);rintro u17 u18 u19 u20 u21 u22 u23 u24 u25 u26 u27 u28 u29 u30 u31 u32 u33 u34 u35 u36 u37 u38 u39 u40 u41 a d f g j l o p t x y ce mb J ⟨V,hmb,h1,h2,h3,F',X,h4,h5,tt,h6⟩;have C:=hd2 h1 h2;have D:Hid (jat (w.nu ZA 102) b M W Gs i (⟨⟨a,d,f,g,j,l,o,p,t⟩,x,y⟩:TxM) F' X mb J):=⟨V,hmb,h3,h4,h5,tt,h6⟩;have Y:=V;clear N h1 h2 h3 h4 h5 tt h6 V c3 c3' hmb;have lm:=Y.lt;obtain⟨x0,x1,x2,x3,Z,x5,x6,x7,x8⟩:=Y.c9;clear Y;by_cases hE:ce=0;subst hE;by_cases hsq:0<d
 ·have HT:Hid (wcW W i=qam ⟨a,d,f,g,j,l,o,p,t⟩ W.n (qd4 W i)/\a=(W.at_ i:Int)):=by
   have e:0<(wcT W i).seq:=by rw[<-C.out.2];exact hsq
   refine⟨?_,?_⟩
   ·rw[q9e e,<-C.out.2]
   have:=u.out.2.2.2.2.2 e;rw[<-C.out.2]at this;exact this
  obtain⟨sg,scap,s0o,hscap,hsg,hsc⟩:=D.out.2.2.2.1.sitesAt (i:=W.at_ i) u.out.2.2.2.1;have hlC:=D.out.2.2.2.1.box.lt;have s0:J.cell? (AD b 0)=some (.slice (PT sg) W.n scap):=s0o;have hscap:W.n<=scap:=hscap;clear hsc s0o
  go_wp2_with fail
  clear s0 x0 x1 x2 x3 Z x5 x6 x7 x8
  go_loopw [54] (λiv wr=>∃(k:Nat) (z:Int),k<=W.n/\z=k/\iv=U z/\Hid (qc5 J b {M with F:=jj M.F (W.at_ i) F'} X (qam ⟨a,d,f,g,j,l,o,p,t⟩ k (qd4 W i)) wr)) (λiv _=>W.n-(intOf iv).toNat)
  case atStart=>exact⟨0,0,by omega,rfl,rfl,qc5.none D.out.2.2.2.1 (jcc _ _)⟩
  obtain⟨k,z,hk,hz,rfl,P⟩:=hrel;have E:=hd1 hz;by_cases hlt2:k<W.n
  ·have g1:z<(W.n:Int):=by omega
   have g2:z.toNat=k:=by omega
   have g3:0<=z:=by omega
   have g4:z<4:=by have:=u.out.2.2.2.2.1;omega
   clear hz;obtain⟨ai,hai⟩:∃ai:Int,(W.at_ i:Int)=ai:=⟨_,rfl⟩;have HAI:=hd1 hai;rw[hai];clear hai;by_cases hka:z=ai
   ·have HT2:Hid (qam ⟨a,d,f,g,j,l,o,p,t⟩ (k+1) (qd4 W i)=qam ⟨a,d,f,g,j,l,o,p,t⟩ k (qd4 W i)):=if_pos (by show (k:Int)=a;rw[HT.out.2,HAI.out,<-E.out];exact hka);subst hka
    go_wp2_with fail
    go_roundw
    case rel=>exact⟨k+1,z+1,by omega,by have:=E.out;omega,by go_num,by rw[HT2.out];exact P.out⟩
    simp[intOf];have:=E.out;omega
   have HT2:Hid (qam ⟨a,d,f,g,j,l,o,p,t⟩ (k+1) (qd4 W i)=zk (qam ⟨a,d,f,g,j,l,o,p,t⟩ k (qd4 W i)) ⟨k,.tx ⟨a,d,f,g,j,l,o,p,t⟩⟩):=if_neg (by show ¬(k:Int)=a;rw[HT.out.2,HAI.out,<-E.out];exact hka);have v:=hd1 (D.out.told u.out.1 u.out.2.1 u.out.2.2.1 u.out.2.2.2.1 P.out (zx _ _ _).n (zx _ _ _).c);have RMr:=v.out.rm;have lmr:=RMr.lt;obtain⟨x0,x1,x2,x3,Z,x5,x6,x7,x8⟩:=RMr.c9
   have SX:Hid (Ca 82 #[PP b,.agg #[U z,U a,U d,U f,U g,U j,U l,U o,U p,.slice x t.length y,U 0,U 0,U 0,U 0,U 0]] wr λe w'=>e=.returned (.tuple #[])/\qc5 J b {M with F:=jj M.F (W.at_ i) F'} X (zk (qam ⟨a,d,f,g,j,l,o,p,t⟩ k (qd4 W i)) ⟨k,.tx ⟨a,d,f,g,j,l,o,p,t⟩⟩) w'):=by
        obtain⟨yv',l',p1,p2,Q⟩:=P.out
        have hin:W.at_ i<(qam ⟨a,d,f,g,j,l,o,p,t⟩ k (qd4 W i)).n:=by rw[(zx _ _ _).n];exact u.out.2.2.2.1
        have ok:GrR.Ok wr (qam ⟨a,d,f,g,j,l,o,p,t⟩ k (qd4 W i)).n ({M with F:=jj M.F (W.at_ i) F'}:RoM).F ⟨⟨k,.tx ⟨a,d,f,g,j,l,o,p,t⟩⟩,x,y⟩:=by
         refine⟨v.out.wi,λq e=>?_,λ_ _ _ _ _ e=>by simp at e⟩;obtain⟨ob,hob⟩:=D.out.2.2.2.2.2.2 q e;exact⟨W.at_ i,ob,hin,by show jj M.F (W.at_ i) F' (W.at_ i) q=_;rw[qt];exact hob⟩
        refine(qlu wr p1 ⟨⟨k,.tx ⟨a,d,f,g,j,l,o,p,t⟩⟩,x,y⟩ ok (by rw[E.out];rfl)).mono λe w' ⟨he,R⟩=>⟨he,?_⟩;have s:=Q.size;obtain⟨yv2,l2,g1',g2',gt⟩:=R;refine⟨yv2,l2,g1',λq e=>(g2' q e).elim (p2 q) (λr=>.inr (by omega)),Q.more gt (λq e=>?_)⟩;exact e.elim (λr=>.inl (.inl r)) (λr=>(p2 q r).imp .inr id)
   clear RMr v
   go_wp2_with fail
   refine SX.out.mono ?_;rintro e w5 ⟨rfl,R⟩;have SN:=hd1 R;clear SX R x0 x1 x2 x3 Z x5 x6 x7 x8
   go_wp2_with fail
   go_roundw
   case rel=>exact⟨k+1,z+1,by omega,by have:=E.out;omega,by go_num,by rw[HT2.out];exact SN.out⟩
   simp[intOf];have:=E.out;omega
  have g1:¬z<(W.n:Int):=by omega
  have e:k=W.n:=by omega
  clear hz
  have v:Hid (quy w wr b G (wcW W i) (⟨⟨a,d,f,g,j,l,o,p,t⟩,x,y⟩:TxM) mb):=by have:=D.out.told u.out.1 u.out.2.1 u.out.2.2.1 u.out.2.2.2.1 P.out (zx _ _ _).n (zx _ _ _).c;rw[e,<-HT.out.1]at this;exact this
  have H:=v.out.rm;have B:=v.out.rt;obtain⟨y0,y1,y2,y3,y4,y5,y6,y7,y8⟩:=H.c9;obtain⟨t0,t1,Q,t3,t4,t5,t6,t7,t8⟩:=B.c9;obtain⟨f0,f1,f2,f3,f4,f5,f6,f7,f8⟩:=B.f9;have I:=And.intro (yz B rfl a d f g j l o p (.slice x t.length y)) (v.out.done HGL.out (qaz (F:=λk=>k=w.heap.size) (qc.ofBelow (jcc _ wr)) rfl a d f g j l o p (.slice x t.length y)));simp only[js]at I;have K:Hid _:=I;have lm:=H.lt;have lr:=B.lt;have nm:=v.out.ne;clear I H B
  go_wp2_with fail
  (try simp only[Exit.inBlock,Exit.then])
  refine bodyPost_ret (qh6 K.out.1 rfl rfl) rfl ⟨(⟨⟨a,d,f,g,j,l,o,p,t⟩,x,y⟩:TxM),by rw[<-C.out.1];rfl,C.out.2,K.out.2⟩
 have HN:=hd1 (q5w (by rw[<-C.out.2];exact hsq))
 rotate_left
 have HN:=hd1 (q5w (by
  have e:wcE W i≠0:=by rw[<-C.out.1];exact hE
  have q:=qvj e;show ¬0<(qce _ _ _).seq;rw[q.1]
  decide))
 all_goals
  have v:Hid (quy w J b G (wcW W i) (⟨⟨a,d,f,g,j,l,o,p,t⟩,x,y⟩:TxM) mb):=by have:=D.out.told u.out.1 u.out.2.1 u.out.2.2.1 u.out.2.2.2.1 (qc5.none D.out.2.2.2.1 (jcc _ _)) rfl rfl;rw[<-HN.out]at this;exact this
  have H:=v.out.rm;have B:=v.out.rt;obtain⟨y0,y1,y2,y3,y4,y5,y6,y7,y8⟩:=H.c9;obtain⟨t0,t1,Q,t3,t4,t5,t6,t7,t8⟩:=B.c9;obtain⟨f0,f1,f2,f3,f4,f5,f6,f7,f8⟩:=B.f9;have I:=And.intro (yz B rfl a d f g j l o p (.slice x t.length y)) (v.out.done HGL.out (qaz (F:=λk=>k=w.heap.size) (qc.ofBelow (jcc _ J)) rfl a d f g j l o p (.slice x t.length y)));simp only[js]at I;have K:Hid _:=I;have lm:=H.lt;have lr:=B.lt;have nm:=v.out.ne;clear I H B
  go_wp2_with fail
  (try simp only[Exit.inBlock,Exit.then])
  refine bodyPost_ret (qh6 K.out.1 rfl rfl) rfl ⟨(⟨⟨a,d,f,g,j,l,o,p,t⟩,x,y⟩:TxM),by rw[<-C.out.1];rfl,C.out.2,K.out.2⟩
end Go.Proofs.YtoanjdndmlffdaaGreatDoor
