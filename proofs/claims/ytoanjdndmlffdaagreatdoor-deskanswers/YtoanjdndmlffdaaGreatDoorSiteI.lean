import Derived.Test.YtoanjdndmlffdaaGreatDoorSiteH
set_option maxHeartbeats 16000000
set_option maxRecDepth 1000000
namespace Go.Proofs.YtoanjdndmlffdaaGreatDoor
open Go.RowKit
theorem qfg {w w':World} {p:Addr} (a:Bw w w') (h:w.frozen? p=false) (b:p.block<w.heap.size):w'.frozen? p=false:=by rw[a.frozen b];exact h
def jaj (w:World) (b:Nat) (l:List GrR) (w':World):Prop:=∃g c w7,w'=w7.setCell (AD b 4) (.slice (PT g) l.length c)/\Bw w w7/\w.heap.size<=g/\w7.ownsRow 0 108 15 (.slice (PT g) l.length c) l.length (qcm l)
noncomputable def jbr:Code:=((Tryz.f38.body.bind (qa0 2)).getD .skip)
theorem q3o {b i p q r:Nat} {l:List GrR} {M N O P Q S T V W X Y y13 y14 y15 y16 y17 y18 y19 y20 y21 y22 y23 y24 y25 y26 y27 y28 y29 y30 y31 Z:Value} (a:World) (t:a.cell? (AD b 4)=some (.slice (some (AD p q)) l.length r)) (w:a.frozen? (AD b 4)=false) (x:qhz a (some (AD p q)) r l) (hil:i<l.length) (hl:l.length<=300) (R:Act->World->Prop)
 (hR:∀(u13 u14 u15 u16 u17 u18 u19 u20 u21 u22 u23 u24 u25 u26 u27 u28 u29 u30 u31:Value) (w8:World),jaj a b (l.eraseIdx i) w8->R ⟨List.toArray ((PP b)::(U i)::M::N::O::P::Q::S::T::V::W::X::Y::u13::u14::u15::u16::u17::u18::u19::u20::u21::u22::u23::u24::u25::u26::u27::u28::u29::u30::u31::Z::[]),[]⟩ w8):
 Code.wp Tryz.prog jbr (Exit.then R (λ_ _ _=>False)) ⟨List.toArray ((PP b)::(U i)::M::N::O::P::Q::S::T::V::W::X::Y::y13::y14::y15::y16::y17::y18::y19::y20::y21::y22::y23::y24::y25::y26::y27::y28::y29::y30::y31::Z::[]),[]⟩ a:=by
 have HR:Hid _:=hR;clear hR;have z:=hd1 x;have y:b<a.heap.size:=jcr _ _ t;have hrl:=x.len;have hrc:=x.cap;have u:=hd1 hl
 have q1:(i:Int)<(l.length:Int):=by omega
 have j2:(i:Int)<=(l.length:Int):=by omega
 have j4:((i:Int)+1)<=(l.length:Int):=by omega
 have j5:(0:Int)<=(i:Int)+1:=by omega
 have j6:((i:Int)+1).toNat=i+1:=by omega
 have j7:(i:Int)<=(r:Int):=by omega
 have j8:(0:Int)<=(i:Int):=by omega
 have hwz:IntKind.i64.wrap ((i:Int)+1)=(i:Int)+1:=by have:=u.out;unfold IntKind.wrap;simp[IntKind.signed,IntKind.bits];omega
 have B:=hd1 hil
 have FIN:Hid (∀f s k m,m=0+(l.take i).length+(l.drop (i+1)).length->Bw a k->a.heap.size<=f->k.ownsRow 0 108 15 (.slice (PT f) (0+(l.take i).length+(l.drop (i+1)).length) s) (0+(l.take i).length+(l.drop (i+1)).length) ([]++qcm (l.take i)++qcm (l.drop (i+1)))->jaj a b (l.eraseIdx i) (k.setCell (AD b 4) (.slice (PT f) m s))):=λf s k m hm h hg ho=>by
  have hN:0+(l.take i).length+(l.drop (i+1)).length=(l.eraseIdx i).length:=by rw[jdf];simp<;>omega
  rw[hN]at hm ho;subst hm;refine⟨f,s,k,rfl,h,hg,?_⟩
  have e:qcm (l.eraseIdx i)=[]++qcm (l.take i)++qcm (l.drop (i+1)):=by rw[jdf,qwo];rfl
  rw[e];exact ho
 clear x hl
 conv=>arg 2;whnf
 by_cases hvz:r=i+1
 ·subst hvz
  have j9:(i:Int)<=(i:Int)+1:=by omega
  go_region_law (first
   |(refine qdk _ rfl (.tmp 14) (.tmp 20) rfl (g:=a.heap.size) (n:=0) (cap:=0) (xs:=[]) (by simp[Act.eval,Act.put]) (qop a 108 rfl) (sa:=some (AD p q)) (c:=i+1) (l:=l.take i) (by simp[Act.eval,Act.put]<;>omega) ((z.out.take i (by have:=B.out;omega)).later (by repeat (first|(with_reducible assumption)|(with_reducible exact jcc _ _)|(with_reducible refine boxed ?_ _)|(with_reducible refine jc6 ?_)))) (by have:=u.out;simp;omega) ?_
     intro C c1_ D E F G H;have v:=hd2 (show a.heap.size<=C from by simp at G;omega) H;have d:Bw a D:=jd0 (by repeat (first|(with_reducible assumption)|(with_reducible exact jcc _ _)|(with_reducible refine boxed ?_ _)|(with_reducible refine jc6 ?_))) F (by simp<;>omega) (λj o=>by simp at o;omega);have c46:=cell_later d t
     have f46:=qfg d w y)
   |(refine qdk _ rfl (.tmp 21) (.tmp 28) rfl (by simp[Act.eval,Act.put]) E (sa:=some (AD p q)) (c:=0) (l:=l.drop (i+1)) (by simp[Act.eval,Act.put]<;>omega) (⟨by simp;omega,by omega,.inl (jdw (by omega))⟩) (by have:=u.out;simp;omega) ?_
     intro f s k I J eg7 K;have h:=jd0 d J d.size (λj o=>by have:=v.out;simp at o;omega);have L:=hd2 (show a.heap.size<=f from by have:=v.out;have:=d.size;omega) K;have c47:=cell_later h t
     have f47:=qfg h w y))
  all_goals
   go_simp
   refine HR.out _ _ _ _ _ _ _ _ _ _ _ _ _ _ _ _ _ _ _ _ ?_;exact FIN.out _ _ _ _ (by simp<;>omega) h L.out.1 I
 skip
 go_region_law (first
  |(refine qdk _ rfl (.tmp 14) (.tmp 20) rfl (g:=a.heap.size) (n:=0) (cap:=0) (xs:=[]) (by simp[Act.eval,Act.put]) (qop a 108 rfl) (sa:=some (AD p q)) (c:=r) (l:=l.take i) (by simp[Act.eval,Act.put]<;>omega) ((z.out.take i (by have:=B.out;omega)).later (by repeat (first|(with_reducible assumption)|(with_reducible exact jcc _ _)|(with_reducible refine boxed ?_ _)|(with_reducible refine jc6 ?_)))) (by have:=u.out;simp;omega) ?_
    intro C c1_ D E F G H;have v:=hd2 (show a.heap.size<=C from by simp at G;omega) H;have d:Bw a D:=jd0 (by repeat (first|(with_reducible assumption)|(with_reducible exact jcc _ _)|(with_reducible refine boxed ?_ _)|(with_reducible refine jc6 ?_))) F (by simp<;>omega) (λj o=>by simp at o;omega);have c46:=cell_later d t
    have f46:=qfg d w y)
  |(refine qdk _ rfl (.tmp 21) (.tmp 28) rfl (by simp[Act.eval,Act.put]) E (sa:=some (AD p (q+(i+1)*15))) (c:=r-(i+1)) (l:=l.drop (i+1)) (by simp[Act.eval,Act.put]<;>omega) ((z.out.drop (i+1) (by have:=B.out;omega)).later d) (by have:=u.out;simp;omega) ?_
    intro f s k I J eg7 K;have h:=jd0 d J d.size (λj o=>by have:=v.out;simp at o;omega);have L:=hd2 (show a.heap.size<=f from by have:=v.out;have:=d.size;omega) K;have c47:=cell_later h t
    have f47:=qfg h w y))
 all_goals
  go_simp
  refine HR.out _ _ _ _ _ _ _ _ _ _ _ _ _ _ _ _ _ _ _ _ ?_;exact FIN.out _ _ _ _ (by simp<;>omega) h L.out.1 I
section
variable {y0 y1 y2 y3 y4 y5 y6 y7 y8 z0 z1 z2 z3 z4:Int} {a:Option Addr} {n c:Nat}
theorem qus {tmps:Array Value} {w:World} {g:Nat} (h:qd w g [U y0,U y1,U y2,U y3,U y4,U y5,U y6,U y7,U y8,.slice a n c,U z0,U z1,U z2,U z3,U z4]) (b:tmps[4]?=some (PP g)):(results Tryz.f38 tmps).run Tryz.prog w=.ok (.agg #[U y0,U y1,U y2,U y3,U y4,U y5,U y6,U y7,U y8,.slice a n c,U z0,U z1,U z2,U z3,U z4]) w:=by
 obtain⟨d,e,f,i,j,k,l,m,o,p,q,r,s,t,u⟩:=h.c15;simp[results,Tryz.results38,go_sem,b,d,e,f,i,j,k,l,m,o,p,q,r,s,t,u]
theorem q95 {b:Nat} {M:RoM} {W:WoS} {S:Nat->Nat->Prop} (w:World) (h:RWo w b M W S) (hn:W.net.length<=300) {i:Nat} {x:GrR} (D:M.l[i]?=some x) (hc:qbj x=[U y0,U y1,U y2,U y3,U y4,U y5,U y6,U y7,U y8,.slice a n c,U z0,U z1,U z2,U z3,U z4]):
 Ca 38 #[PP b,U i] w λe w'=>e=.returned (.agg #[U y0,U y1,U y2,U y3,U y4,U y5,U y6,U y7,U y8,.slice a n c,U z0,U z1,U z2,U z3,U z4])/\∃V,RWo w' b {M with yv:=V,l:=M.l.eraseIdx i} (qai W i) S/\(∀k,V.ownBlock=some k->w.heap.size<=k)/\qc (λk=>k=b) w w':=by
 have hlen:M.l.length=W.net.length:=by rw[<-h.nl];simp
 have G:=(jck.1 D).1;obtain⟨na,vc,X,r⟩:=q1n h.yr
 obtain⟨H,B,rfl,Y⟩:∃g B,na=some (AD g B)/\∀i m r u,M.l[i]?=some m->(qbj m)[r]?=some u->w.cell? (AD g (B+(i*15+r)))=some u:=by
  rcases r.held with I|I
  ·rw[I]at G;simp at G
  exact I
 have J:=h.box.c 4;have Z:=h.box.f 4;rw[X]at J;have j:=λr u (hu:[U y0,U y1,U y2,U y3,U y4,U y5,U y6,U y7,U y8,.slice a n c,U z0,U z1,U z2,U z3,U z4][r]?=some u)=>(show w.cell? (AD H (B+i*15+r))=some u by rw[Nat.add_assoc];exact Y i x r u D (by rw[hc];exact hu));have x0:w.cell? (AD H (B+i*15))=some (U y0):=j 0 _ rfl;have x1:=j 1 _ rfl;have x2:=j 2 _ rfl;have x3:=j 3 _ rfl;have x4:=j 4 _ rfl;have x5:=j 5 _ rfl;have x6:=j 6 _ rfl;have x7:=j 7 _ rfl;have x8:=j 8 _ rfl;have x9:=j 9 _ rfl;have x10:=j 10 _ rfl;have x11:=j 11 _ rfl;have x12:=j 12 _ rfl;have x13:=j 13 _ rfl;have x14:=j 14 _ rfl;have hlt:=h.box.lt;have hblt:H<w.heap.size:=jcr _ _ x0
 have q1:(i:Int)<(M.l.length:Int):=by omega
 have C:=hd4 h D r (show M.l.length<=300 from by omega);have hrl:=r.len;have hrc:=r.cap;clear h D r Y j hlen X hn;go_enter Tryz.func38,Tryz.ntmps38
 go_wp2_with fail
 obtain⟨s,y⟩:∃s,((w.alloc (.cells #[U 0,U 0,U 0,U 0,U 0,U 0,U 0,U 0,U 0,.slice none 0 0,U 0,U 0,U 0,U 0,U 0] 108)).alloc (.cells #[U y0,U y1,U y2,U y3,U y4,U y5,U y6,U y7,U y8,.slice a n c,U z0,U z1,U z2,U z3,U z4] 108))=s:=⟨_,rfl⟩
 have E:Bw w s:=by rw[<-y];exact boxed (boxed (jcc _ w) _) _
 have RZ:qd s w.heap.size [U 0,U 0,U 0,U 0,U 0,U 0,U 0,U 0,U 0,.slice none 0 0,U 0,U 0,U 0,U 0,U 0]:=by rw[<-y];exact(qd.new (w:=w) (T:=108) [U 0,U 0,U 0,U 0,U 0,U 0,U 0,U 0,U 0,.slice none 0 0,U 0,U 0,U 0,U 0,U 0] rfl).later (boxed (jcc _ _) _)
 have RG:qd s (w.heap.size+1) [U y0,U y1,U y2,U y3,U y4,U y5,U y6,U y7,U y8,.slice a n c,U z0,U z1,U z2,U z3,U z4]:=by
  rw[<-y];have:=qd.new (w:=w.alloc (.cells #[U 0,U 0,U 0,U 0,U 0,U 0,U 0,U 0,U 0,.slice none 0 0,U 0,U 0,U 0,U 0,U 0] 108)) (T:=108) [U y0,U y1,U y2,U y3,U y4,U y5,U y6,U y7,U y8,.slice a n c,U z0,U z1,U z2,U z3,U z4] rfl;simpa using this
 have aa:s.heap.size=w.heap.size+2:=by rw[<-y];simp
 have HV5:=hd1 (C.out.2.2.1.later E);have c45:=cell_later E J;have f45:=qfg E Z hlt
 have l5:b<s.heap.size:=by omega
 have SZ5:=hd1 aa;rw[y];clear aa y x0 x1 x2 x3 x4 x5 x6 x7 x8 x9 x10 x11 x12 x13 x14 J Z;refine qma (q3o s c45 f45 HV5.out G C.out.2.2.2 _ ?_);rintro u13 u14 u15 u16 u17 u18 u19 u20 u21 u22 u23 u24 u25 u26 u27 u28 u29 u30 u31 w8 ⟨p,K,w7,ab,F,ac,L⟩;have ad:=hd2 ac ((L.lt p rfl).2);have N:=qa E F;obtain⟨t,O⟩:∃t,w8=t:=⟨_,rfl⟩
 have z:w7.setCell (AD b 4) (.slice (PT p) (M.l.eraseIdx i).length K)=t:=by rw[<-O,ab]
 have B8:qd t b [M.sv,M.wv,M.cv,M.av,.slice (PT p) (M.l.eraseIdx i).length K,U W.lost]:=by rw[<-z];exact(C.out.1.box.later N).set 4 _ (by simp)
 have own9:t.ownsRow 0 108 15 (.slice (PT p) (M.l.eraseIdx i).length K) (M.l.eraseIdx i).length (qcm (M.l.eraseIdx i)):=by
  rw[<-z];exact qf L (λk e=>jce _ _ _ _ (λq=>by have P:p=k:=jcu e;have:=ad.out;simp only at q;omega))
 have o:qd t (w.heap.size+1) [U y0,U y1,U y2,U y3,U y4,U y5,U y6,U y7,U y8,.slice a n c,U z0,U z1,U z2,U z3,U z4]:=by rw[<-z];exact(RG.later F).far _ _ (by simp only;omega)
 have d:qd t w.heap.size [U 0,U 0,U 0,U 0,U 0,U 0,U 0,U 0,U 0,.slice none 0 0,U 0,U 0,U 0,U 0,U 0]:=by rw[<-z];exact(RZ.later F).far _ _ (by simp only;omega)
 have T8:qc (λk=>k=b) w t:=by rw[<-z];exact(qc.ofBelow N).trans (qc.setCell _ _ _ rfl)
 have v:=hd5 B8 own9 d T8 (show w.heap.size+2<=p from by have:=ad.out;have:=SZ5.out;omega);have g0_:=o.c 0;have p0_:=d.f 0;have s0_:=d.c 0;have g1_:=o.c 1;have p1_:=d.f 1;have s1_:=d.c 1;have g2_:=o.c 2;have p2_:=d.f 2;have s2_:=d.c 2;have g3_:=o.c 3;have p3_:=d.f 3;have s3_:=d.c 3;have g4_:=o.c 4;have p4_:=d.f 4;have s4_:=d.c 4;have g5_:=o.c 5;have p5_:=d.f 5;have s5_:=d.c 5;have g6_:=o.c 6;have p6_:=d.f 6;have s6_:=d.c 6;have g7_:=o.c 7;have p7_:=d.f 7;have s7_:=d.c 7;have g8_:=o.c 8;have p8_:=d.f 8;have s8_:=d.c 8;have g9_:=o.c 9;have p9_:=d.f 9;have s9_:=d.c 9;have g10_:=o.c 10;have p10_:=d.f 10;have s10_:=d.c 10;have g11_:=o.c 11;have p11_:=d.f 11;have s11_:=d.c 11;have g12_:=o.c 12;have p12_:=d.f 12;have s12_:=d.c 12;have g13_:=o.c 13;have p13_:=d.f 13;have s13_:=d.c 13;have g14_:=o.c 14;have p14_:=d.f 14;have s14_:=d.c 14;rw[O];clear O z ab L B8 own9 o d T8 N F ac;have hbl:=C.out.1.box.lt;have Q:=And.intro (qyw (l:=[U y0,U y1,U y2,U y3,U y4,U y5,U y6,U y7,U y8,.slice a n c,U z0,U z1,U z2,U z3,U z4]) v.out.2.2.1 rfl) (And.intro (C.out.1.outed (i:=i) (ql1 v.out.2.2.2.1 (jcd _) [U y0,U y1,U y2,U y3,U y4,U y5,U y6,U y7,U y8,.slice a n c,U z0,U z1,U z2,U z3,U z4]) (v.out.1.kept (qf4 (by omega) _ _ _) (by rw[(qjm _ _ _).2.2.2];exact jcd _)) (qf v.out.2.1 (λk e=>qf4 (by have P:p=k:=jcu e;have:=v.out.2.2.2.2;omega) _ _ _)) (λk e=>by have P:p=k:=jcu e;have:=v.out.2.2.2.2;omega)) (ql1 v.out.2.2.2.1 (jcd _) [U y0,U y1,U y2,U y3,U y4,U y5,U y6,U y7,U y8,.slice a n c,U z0,U z1,U z2,U z3,U z4]));simp only[qgi]at Q;have R:Hid _:=Q;clear Q hbl
 go_wp2_with fail
 (try simp only[Exit.inBlock,Exit.then])
 refine bodyPost_ret (qus R.out.1 rfl) rfl ⟨rfl,_,R.out.2.1,λk e=>?_,R.out.2.2⟩;have P:p=k:=jcu e;have:=v.out.2.2.2.2;omega
end
theorem qfc {b c wall d e f g i:Int} {a:Option Addr} {cap:Nat} {l:List Wr} {w:World} {v:Bool} (j:qr w a cap l) (h:jt b c wall d e f g i l=v):
 Ca 128 #[.agg (List.toArray (T9 b c wall d e f g i a l.length cap))] w (Rn (.bool v) w):=by
 subst h;exact qpf b c wall d e f g i a cap l w j
theorem qxa {b:Nat} {G:Nat->Prop} {F:Nat->Option Obj} {S:qe} (m:TxM) (w:World) (h:RS w b G F S) (hI:j3 S) (hn:S.waits.length<=900) (hW:qr w m.wa m.wc m.t.ws) (hnz:jf S m.t≠0):
 Ca 84 #[PP b,txV m] w λe w'=>e=.returned (U (jf S m.t))/\∃S',zu S m.t S'/\RPo w b G F S' w':=by
 obtain⟨⟨d,f,wall,p,g,l,n,o,ws⟩,a,cap⟩:=m;simp only at hW hnz ⊢;have HNZ:=hd1 hnz;clear hnz;have hb:=boxed (jcc _ w) (.cells (List.toArray (T9 d f wall p g l n o a ws.length cap)) 102);have L:=qd.new (w:=w) (T:=102) (T9 d f wall p g l n o a ws.length cap) rfl;change qd (w.nu (List.toArray (T9 d f wall p g l n o a ws.length cap)) 102) w.heap.size (T9 d f wall p g l n o a ws.length cap)at L;have hne:=qb.one;have P1:=h.later hb;have W1:=hW.later hb
 have NO:∀q ev,jf S ⟨d,f,wall,p,g,l,n,o,ws⟩=ev->ev≠0->Bw w q->Hid ((.returned (U ev):Ending)=.returned (U (jf S ⟨d,f,wall,p,g,l,n,o,ws⟩))/\∃S',zu S ⟨d,f,wall,p,g,l,n,o,ws⟩ S'/\RPo w b G F S' q):=λq ev e1 e2 e3=>by
  show _/\_;rw[e1];exact⟨rfl,S,.inl ⟨by rw[e1];exact e2,rfl⟩,RPo.same h e3⟩
 clear h hW;show Ca 84 #[PP b,.agg (List.toArray (T9 d f wall p g l n o a ws.length cap))] w _;obtain⟨lv,wv,sv,log,waits,PM,hl,hw,hG,hF⟩:=id P1;obtain⟨la,lc,rfl,hLT⟩:=yx PM.rlog;obtain⟨va,vc,rfl,hVT⟩:=yx PM.rwait;have k0:=qb.cell (PM.box.c 0);have X:=qb.cell (L.c 0);have Y:=qb.cell (L.c 1);have t2:=qb.cell (L.c 2);have t3:=qb.cell (L.c 3);have t4:=qb.cell (L.c 4);have t5:=qb.cell (L.c 5);have t6:=qb.cell (L.c 6);have t7:=qb.cell (L.c 7);have t8:=qb.cell (L.c 8);cases hok:okT ⟨d,f,wall,p,g,l,n,o,ws⟩
 ·have HK:Hid (jt d f wall p g l n o ws=false):=hok
  have E:jf S ⟨d,f,wall,p,g,l,n,o,ws⟩=1:=by unfold jf;rw[if_pos hok]
  have v:=λq s=>NO q 1 E (by decide) s;clear E NO hok PM hl hw hG P1 hI;go_enter Tryz.func84,Tryz.ntmps84
  go_wp2_with fail
  refine wrl ?_
  repeat (go_big_quiet_step (first|rfl|(go_at_call 128;with_reducible exact qg (qfc (W1.later (qb.below _)) HK.out))))
  refine wpQuiet_nil ?_;rintro w2 ⟨⟨_,V⟩,rfl⟩
  go_wp2_with fail
  go_ret;exact(v _ (qa hb V)).out
 have HK:Hid (jt d f wall p g l n o ws=true):=hok;obtain⟨⟨s0,s3⟩,⟨sq1,sq2⟩,sw⟩:=qcg hok;simp only at s0 s3 sq1 sq2 sw;have HOK:=hd1 hok;clear hok;by_cases Z:d=S.id
 ·have E:jf S ⟨d,f,wall,p,g,l,n,o,ws⟩=1:=by unfold jf;rw[if_neg (by rw[HOK.out];decide),if_pos Z]
  have v:=λq s=>NO q 1 E (by decide) s
  have i1:(d==S.id)=true:=by simp[Z]
  have i2:decide (d=S.id)=true:=by simp[Z]
  clear E NO PM hl hw hG P1 hI Z;go_enter Tryz.func84,Tryz.ntmps84
  go_wp2_with fail
  refine wrl ?_
  repeat (go_big_quiet_step (first|rfl|(go_at_call 128;with_reducible exact qg (qfc (W1.later (qb.below _)) HK.out))))
  refine wpQuiet_nil ?_;rintro w2 ⟨⟨_,V⟩,rfl⟩
  go_wp2_with fail
  go_ret;exact(v _ (qa hb V)).out
 have i1:(d==S.id)=false:=by simp[Z]
 have i2:decide (d=S.id)=false:=by simp[Z]
 have HID:=hd1 Z;have HPM:=hd4 PM hl hw hG;have HI:=hd1 hI;have I:=hd1 NO;have HVT:=hd2 hVT hLT;have hvl:=hVT.len;have hvc:=hVT.cap;have hll:=hLT.len;have hlc:=hLT.cap;clear NO PM hl hw hG P1 hI Z hVT hLT;go_enter Tryz.func84,Tryz.ntmps84
 go_wp2_with fail
 refine wrl ?_
 repeat (go_big_quiet_step (first|rfl|(go_at_call 128;with_reducible exact qg (qfc (W1.later (qb.below _)) HK.out))))
 refine wpQuiet_nil ?_;rintro w2 ⟨⟨_,V⟩,rfl⟩;clear X Y t2 t3 t4 t5 t6 t7 t8 k0;have PM2:=hd1 (HPM.out.1.later V);have RB2:=L.later V;have hbw:=qa hb V;have HB2:Hid (Below (w.nu (List.toArray (T9 d f wall p g l n o a ws.length cap)) 102).heap.size (w.nu (List.toArray (T9 d f wall p g l n o a ws.length cap)) 102) w2):=V;clear L hb V;have X:=qb.cell (RB2.c 0);have Y:=qb.cell (RB2.c 1);have ks:=qb.cell (qkc PM2.out.box s0 s3)
 have s4:d<4:=by omega
 obtain⟨D,hD⟩:∃D,qp d S.a0 S.a1 S.a2 S.a3=D:=⟨_,rfl⟩;have HD:=hd1 hD;rw[hD]at ks;clear hD;by_cases hle:f<=D
 ·have E:jf S ⟨d,f,wall,p,g,l,n,o,ws⟩=9:=by unfold jf;rw[if_neg (by rw[HOK.out];decide),if_neg HID.out,if_pos (by rw[HD.out];exact hle)]
  have v:=λq s=>I.out q 9 E (by decide) s;clear E I HPM HI
  go_wp2_with fail
  refine wrl ?_
  repeat (go_big_quiet_step (first|rfl|fail))
  refine wpQuiet_nil ?_;rintro w3 ⟨⟨_,hb3⟩,rfl⟩
  go_wp2_with fail
  go_ret;exact(v _ (qa hbw hb3)).out
 have HLE:Hid (D<f):=by show _<_;omega
 have q1:=decide_eq_false hle;clear hle
 go_wp2_with fail
 refine wrl ?_
 repeat (go_big_quiet_step (first|rfl|fail))
 refine wpQuiet_nil ?_;rintro w3 ⟨⟨_,hb3⟩,rfl⟩;have PM3:=hd1 (PM2.out.later hb3);have RB3:=hd1 (RB2.later hb3);have hbw3:=qa hbw hb3;have HB3:=hd1 (qa HB2.out hb3);clear RB2 hbw hb3 X Y ks PM2 HB2;have s8:=PM3.out.box.c 8
 go_wp2_with fail
 go_loopw [39] (λiv wr=>∃(k:Nat) (z:Int),k<=waits.length/\z=k/\iv=U z/\Hid (∀j x,j<k->waits[j]?=some x->vv x.t ⟨d,f,wall,p,g,l,n,o,ws⟩=false)/\Bw w3 wr) (λi _=>waits.length-(intOf i).toNat)
 case atStart=>exact⟨0,0,by omega,rfl,rfl,(λj x hj=>by omega),jcc _ _⟩
 obtain⟨k,z,hk,hz,rfl,HNM,P⟩:=hrel;have HZ:=hd1 hz;by_cases hlt:k<waits.length
 ·have g1:z<(waits.length:Int):=by omega
  have g2:z.toNat=k:=by omega
  have g3:0<=z:=by omega
  clear hz
  obtain⟨wb,off,hwa,hcc⟩:∃wb off,va=some (AD wb off)/\∀i m r u,waits[i]?=some m->(txC m)[r]?=some u->(w.nu (List.toArray (T9 d f wall p g l n o a ws.length cap)) 102).cell? (AD wb (off+(i*9+r)))=some u:=by
   rcases HVT.out.1.held with e|e
   ·rw[e]at hlt;simp at hlt
   exact e
  obtain⟨⟨⟨xs,xq,xw,xc,y0,y1,y2,y3,yw⟩,ya,yc⟩,B⟩:∃m,waits[k]?=some m:=⟨waits[k],jcg hlt⟩;have HX:=hd1 B;have Q:=λr u (hu:(txC ⟨⟨xs,xq,xw,xc,y0,y1,y2,y3,yw⟩,ya,yc⟩)[r]?=some u)=>(show wr.cell? (AD wb (off+k*9+r))=some u by rw[Nat.add_assoc];exact cell_later (qa HB3.out P) (hcc k _ r u B hu));have x0:=Q 0 _ rfl;have x1:=Q 1 _ rfl;have x2:=Q 2 _ rfl;have x3:=Q 3 _ rfl;have x4:=Q 4 _ rfl;have x5:=Q 5 _ rfl;have x6:=Q 6 _ rfl;have x7:=Q 7 _ rfl;have x8:=Q 8 _ rfl;rw[Nat.add_zero]at x0;have C:=RB3.out.later P;have X:=C.c 0;have Y:=C.c 1;have lt0:=C.lt;rw[hwa];clear Q hcc B C;by_cases hs:xs=d
  ·by_cases J:xq=f
   ·have e1:(xs==d)=true:=by simp[hs]
    have e2:(xq==f)=true:=by simp[J]
    have E:jf S ⟨d,f,wall,p,g,l,n,o,ws⟩=9:=by
     unfold jf;rw[if_neg (by rw[HOK.out];decide),if_neg HID.out,if_neg (by rw[HD.out];have:=HLE.out;simp only;omega),if_pos];rw[<-HPM.out.2.2.1];exact List.any_eq_true.2 ⟨_,jcz.2 ⟨_,jcq HX.out,rfl⟩,qe5.2 ⟨hs,J⟩⟩
    have v:=λq s=>I.out q 9 E (by decide) s;have s:=qa hbw3 P;clear E I HPM HI hs J HX hwa
    go_wp2_with fail
    go_ret;exact(v _ (boxed s _)).out
   have e1:(xs==d)=true:=by simp[hs]
   have e2:(xq==f)=false:=by simp[J]
   have HNQ:Hid (vv ⟨xs,xq,xw,xc,y0,y1,y2,y3,yw⟩ ⟨d,f,wall,p,g,l,n,o,ws⟩=false):=by show _=_;simp[vv,J]
   clear hs J hwa
   go_wp2_with fail
   go_roundw
   case rel=>exact⟨k+1,z+1,by omega,by have:=HZ.out;omega,by go_num,(λj x hj B=>by
        rcases jc7 j k with h1|h1
        ·exact HNM.out j x h1 B
        have:j=k:=by omega
        subst this;rw[HX.out]at B;injection B with B;subst B
        exact HNQ.out),boxed P _⟩
   simp[intOf];have:=HZ.out;omega
  have e1:(xs==d)=false:=by simp[hs]
  have HNQ:Hid (vv ⟨xs,xq,xw,xc,y0,y1,y2,y3,yw⟩ ⟨d,f,wall,p,g,l,n,o,ws⟩=false):=by show _=_;simp[vv,hs]
  clear hs hwa
  go_wp2_with fail
  go_roundw
  case rel=>exact⟨k+1,z+1,by omega,by have:=HZ.out;omega,by go_num,(λj x hj B=>by
   rcases jc7 j k with h1|h1
   ·exact HNM.out j x h1 B
   have:j=k:=by omega
   subst this;rw[HX.out]at B;injection B with B;subst B
   exact HNQ.out),boxed P _⟩
  simp[intOf];have:=HZ.out;omega
 have g1:¬z<(waits.length:Int):=by omega
 have HNA:Hid (∀x∈waits,vv x.t ⟨d,f,wall,p,g,l,n,o,ws⟩=false):=λx B=>by
  obtain⟨j,hj⟩:=List.getElem?_of_mem B;exact HNM.out j x (by have:=(jck.1 hj).1;omega) hj
 clear hz HNM;have M:=hd1 (PM3.out.later P);have C:=hd1 (RB3.out.later P);have hbwr:=qa hbw3 P;have HBr:=hd1 (qa HB3.out P);clear hbw3 P PM3 RB3 HB3 s8 hk;have X:=qb.cell (C.out.c 0);have Y:=qb.cell (C.out.c 1);have t4:=qb.cell (C.out.c 4);have t5:=qb.cell (C.out.c 5);have t6:=qb.cell (C.out.c 6);have t7:=qb.cell (C.out.c 7);have ks:=qb.cell (qkc M.out.box s0 s3);have k1:=qb.cell (M.out.box.c 1);have k2:=qb.cell (M.out.box.c 2);have k3:=qb.cell (M.out.box.c 3);have k4:=qb.cell (M.out.box.c 4);rw[HD.out]at ks;have hdd:=HI.out.dep d;rw[HD.out]at hdd;have hwr:=qd1 hdd
 have hlw:waits.length=S.waits.length:=by rw[<-HPM.out.2.2.1];simp
 have hlg:log.length=S.log.length:=by rw[<-HPM.out.2.1];simp
 have HLN:=hd3 hlw hlg hn
 have HRE:Hid (qz S ⟨d,f,wall,p,g,l,n,o,ws⟩=(decide (f=D+1)&&qa8 S.a0 S.a1 S.a2 S.a3 g l n o)):=by show qz S ⟨d,f,wall,p,g,l,n,o,ws⟩=_;unfold qz;rw[HD.out]
 have HAN:Hid (S.waits.any (λx=>vv x ⟨d,f,wall,p,g,l,n,o,ws⟩)=false):=by
  show _=_;rw[<-HPM.out.2.2.1,List.any_eq_false];intro x B;obtain⟨y,hy,rfl⟩:=jcz.1 B;rw[HNA.out y hy]
  decide
 have R:Hid (jf S ⟨d,f,wall,p,g,l,n,o,ws⟩=if 200<=log.length then 12 else if 40<=waits.length/\qz S ⟨d,f,wall,p,g,l,n,o,ws⟩=false then 12 else 0):=by
  show jf S ⟨d,f,wall,p,g,l,n,o,ws⟩=_;unfold jf;rw[if_neg (by rw[HOK.out];decide),if_neg HID.out,if_neg (by rw[HD.out];have:=HLE.out;simp only;omega),if_neg (by rw[HAN.out];decide),HLN.out.1,HLN.out.2.1]
 clear hn hdd hlw hlg;by_cases J:f=D+1
 have q2:(f==D+1)=true:=by simp[J]
 have HQ:=hd1 J;clear J;cases hc:qa8 S.a0 S.a1 S.a2 S.a3 g l n o;have HC:=hd1 hc
 have HR:Hid (qz S ⟨d,f,wall,p,g,l,n,o,ws⟩=false):=by show _=_;rw[HRE.out,hc];simp
 clear hc
 go_wp2_with fail
 refine wrl ?_
 repeat (go_big_quiet_step (first|rfl|(go_at_call 77;with_reducible exact qg (yo HC.out _))))
 refine wpQuiet_nil ?_;rintro w4 ⟨⟨_,H⟩,rfl⟩;clear HQ HC q2;have PM4:=hd1 (M.out.later H);have RB4:=hd1 (C.out.later H);have hbw4:=qa hbwr H;have HB4:=hd1 (qa HBr.out H);clear hbwr H M C HBr X Y t4 t5 t6 t7 ks k1 k2 k3 k4;have s7:=PM4.out.box.c 7;have s8:=PM4.out.box.c 8;by_cases N:200<=log.length
 ·have E:jf S ⟨d,f,wall,p,g,l,n,o,ws⟩=12:=by rw[R.out,if_pos N]
  have v:=λq s=>I.out q 12 E (by decide) s
  have h2:(200:Int)<=(log.length:Int):=by omega
  clear E I N
  go_wp2_with fail
  go_ret;exact(v _ hbw4).out
 have h2:¬(200:Int)<=(log.length:Int):=by omega
 have W:Hid (log.length<200):=by show _<_;omega
 clear N;by_cases K:40<=waits.length
 ·have g40:(40:Int)<=(waits.length:Int):=by omega
  first
   |(have O:=HR
     have E:jf S ⟨d,f,wall,p,g,l,n,o,ws⟩=12:=by rw[R.out,if_neg (by have:=W.out;omega),if_pos ⟨K,O.out⟩]
     have v:=λq s=>I.out q 12 E (by decide) s;clear E I K
     go_wp2_with fail
     go_ret
     exact(v _ hbw4).out)
   |(have O:Hid (qz S ⟨d,f,wall,p,g,l,n,o,ws⟩=true):=HR
     have EZ:Hid (jf S ⟨d,f,wall,p,g,l,n,o,ws⟩=0):=by show _=_;rw[R.out,if_neg (by have:=W.out;omega),if_neg (λe=>by rw[O.out]at e;cases e.2)]
     clear K
     exact absurd EZ.out HNZ.out)
 rotate_left
 have HC:=hd1 hc
 have HR:Hid (qz S ⟨d,f,wall,p,g,l,n,o,ws⟩=true):=by show _=_;rw[HRE.out,hc,HQ.out];simp
 clear hc
 go_wp2_with fail
 refine wrl ?_
 repeat (go_big_quiet_step (first|rfl|(go_at_call 77;with_reducible exact qg (yo HC.out _))))
 refine wpQuiet_nil ?_;rintro w4 ⟨⟨_,H⟩,rfl⟩;clear HQ HC q2;have PM4:=hd1 (M.out.later H);have RB4:=hd1 (C.out.later H);have hbw4:=qa hbwr H;have HB4:=hd1 (qa HBr.out H);clear hbwr H M C HBr X Y t4 t5 t6 t7 ks k1 k2 k3 k4;have s7:=PM4.out.box.c 7;have s8:=PM4.out.box.c 8;by_cases N:200<=log.length
 ·have E:jf S ⟨d,f,wall,p,g,l,n,o,ws⟩=12:=by rw[R.out,if_pos N]
  have v:=λq s=>I.out q 12 E (by decide) s
  have h2:(200:Int)<=(log.length:Int):=by omega
  clear E I N
  go_wp2_with fail
  go_ret;exact(v _ hbw4).out
 have h2:¬(200:Int)<=(log.length:Int):=by omega
 have W:Hid (log.length<200):=by show _<_;omega
 clear N;by_cases K:40<=waits.length
 ·have g40:(40:Int)<=(waits.length:Int):=by omega
  first
   |(have O:Hid (qz S ⟨d,f,wall,p,g,l,n,o,ws⟩=false):=HR
     have E:jf S ⟨d,f,wall,p,g,l,n,o,ws⟩=12:=by rw[R.out,if_neg (by have:=W.out;omega),if_pos ⟨K,O.out⟩]
     have v:=λq s=>I.out q 12 E (by decide) s;clear E I K
     go_wp2_with fail
     go_ret
     exact(v _ hbw4).out)
   |(have O:=HR
     have EZ:Hid (jf S ⟨d,f,wall,p,g,l,n,o,ws⟩=0):=by show _=_;rw[R.out,if_neg (by have:=W.out;omega),if_neg (λe=>by rw[O.out]at e;cases e.2)]
     clear K
     exact absurd EZ.out HNZ.out)
 rotate_left
 have q2:(f==D+1)=false:=by simp[J]
 have HR:Hid (qz S ⟨d,f,wall,p,g,l,n,o,ws⟩=false):=by show _=_;rw[HRE.out];simp[J]
 clear J
 go_wp2_with fail
 refine wrl ?_
 repeat (go_big_quiet_step (first|rfl|fail))
 refine wpQuiet_nil ?_;rintro w4 ⟨⟨_,H⟩,rfl⟩;clear q2;have PM4:=hd1 (M.out.later H);have RB4:=hd1 (C.out.later H);have hbw4:=qa hbwr H;have HB4:=hd1 (qa HBr.out H);clear hbwr H M C HBr X Y t4 t5 t6 t7 ks k1 k2 k3 k4;have s7:=PM4.out.box.c 7;have s8:=PM4.out.box.c 8;by_cases N:200<=log.length
 ·have E:jf S ⟨d,f,wall,p,g,l,n,o,ws⟩=12:=by rw[R.out,if_pos N]
  have v:=λq s=>I.out q 12 E (by decide) s
  have h2:(200:Int)<=(log.length:Int):=by omega
  clear E I N
  go_wp2_with fail
  go_ret;exact(v _ hbw4).out
 have h2:¬(200:Int)<=(log.length:Int):=by omega
 have W:Hid (log.length<200):=by show _<_;omega
 clear N;by_cases K:40<=waits.length
 ·have g40:(40:Int)<=(waits.length:Int):=by omega
  first
   |(have O:=HR
     have E:jf S ⟨d,f,wall,p,g,l,n,o,ws⟩=12:=by rw[R.out,if_neg (by have:=W.out;omega),if_pos ⟨K,O.out⟩]
     have v:=λq s=>I.out q 12 E (by decide) s;clear E I K
     go_wp2_with fail
     go_ret
     exact(v _ hbw4).out)
   |(have O:Hid (qz S ⟨d,f,wall,p,g,l,n,o,ws⟩=true):=HR
     have EZ:Hid (jf S ⟨d,f,wall,p,g,l,n,o,ws⟩=0):=by show _=_;rw[R.out,if_neg (by have:=W.out;omega),if_neg (λe=>by rw[O.out]at e;cases e.2)]
     clear K
     exact absurd EZ.out HNZ.out)
 all_goals
  have g40:¬(40:Int)<=(waits.length:Int):=by omega
  have EZ:Hid (jf S ⟨d,f,wall,p,g,l,n,o,ws⟩=0):=by show _=_;rw[R.out,if_neg (by have:=W.out;omega),if_neg (λe=>K e.1)]
  clear K;exact absurd EZ.out HNZ.out
noncomputable def q7x:Code:=((Tryz.f84.body.bind (qa0 26)).getD .skip)
theorem qgv {w w':World} {p:Addr} (a:Below w.heap.size w w') (h:w.frozen? p=false) (b:p.block<w.heap.size):w'.frozen? p=false:=by rw[a.frozen b];exact h
theorem qvg {b:Nat} {z:Int} {i:Nat} {m o p:Nat} {waits:List TxM} {N O P Q S T V W X Y Z aa ab ac ad ae af ag ah ai aj ak al am an ao ap aq ar au av aw ax ay az aA aB aC aD aE aF aG aH aI aJ aK aL aM aN aO aP aQ aR aS aT aU aV aW aX aY aZ a0 a1 a2 a3 a4 a5 a6 a7 a8 a9 ba bb bc bd be bf bg bh bi bj bk bl bm bn bo bp bq br bs bt bu bv bw bx bz bA bB bC bD bE bF bG bH bI bJ bK bL bM bN bO bP bQ bR bS bT bU bV bW bX bY bZ b0 b1 b2 b3 b4 b5 b6 b7 b8 b9 ca cb cc cd ce cf cg ch ci cj ck cl cm cn co cp cq cr cs ct cu cv cw cx cy cz cA cB cC cD cE cF cG cH cI cJ cK cL cM cN cO y175 y176 y177 y178 y179 y180 y181 y182 y183 y184 y185 y186 y187 y188 y189 y190 y191 y192 y193 cP cQ cR:Value} (a:World) (r:Hid (qdy a (some ⟨m,o,none⟩) p waits)) (s:Hid (waits.length<=1000)) (q:Hid (z=i/\i<waits.length))
 (t:a.cell? ⟨b,8,none⟩=some (.slice (some ⟨m,o,none⟩) waits.length p)) (D:a.frozen? ⟨b,8,none⟩=false) (R:Act->World->Prop)
 (hR:∀(u175 u176 u177 u178 u179 u180 u181 u182 u183 u184 u185 u186 u187 u188 u189 u190 u191 u192 u193:Value) (d:World) (e c2 E:Nat),Below a.heap.size a d->a.heap.size<=e->e<d.heap.size->E=(waits.take i++waits.drop (i+1)).length->d.ownsRow 0 102 9 (.slice (some ⟨e,0,none⟩) E c2) E (zw (waits.take i++waits.drop (i+1)))->R ⟨List.toArray ((.pointer (some ⟨b,0,none⟩))::N::O::P::Q::S::T::V::(.int .i64 z)::W::X::Y::Z::aa::ab::ac::ad::ae::af::ag::ah::ai::aj::ak::al::am::an::ao::ap::aq::ar::au::av::aw::ax::ay::az::aA::aB::aC::aD::aE::aF::aG::aH::aI::aJ::aK::aL::aM::aN::aO::aP::aQ::aR::aS::aT::aU::aV::aW::aX::aY::aZ::a0::a1::a2::a3::a4::a5::a6::a7::a8::a9::ba::bb::bc::bd::be::bf::bg::bh::bi::bj::bk::bl::bm::bn::bo::bp::bq::br::bs::bt::bu::bv::bw::bx::bz::bA::bB::bC::bD::bE::bF::bG::bH::bI::bJ::bK::bL::bM::bN::bO::bP::bQ::bR::bS::bT::bU::bV::bW::bX::bY::bZ::b0::b1::b2::b3::b4::b5::b6::b7::b8::b9::ca::cb::cc::cd::ce::cf::cg::ch::ci::cj::ck::cl::cm::cn::co::cp::cq::cr::cs::ct::cu::cv::cw::cx::cy::cz::cA::cB::cC::cD::cE::cF::cG::cH::cI::cJ::cK::cL::cM::cN::cO::u175::u176::u177::u178::u179::u180::u181::u182::u183::u184::u185::u186::u187::u188::u189::u190::u191::u192::u193::cP::cQ::cR::[]),[]⟩ (d.setCell ⟨b,8,none⟩ (.slice (some ⟨e,0,none⟩) E c2))):
 Code.wp Tryz.prog q7x (Exit.then R (λ_ _ _=>False)) ⟨List.toArray ((.pointer (some ⟨b,0,none⟩))::N::O::P::Q::S::T::V::(.int .i64 z)::W::X::Y::Z::aa::ab::ac::ad::ae::af::ag::ah::ai::aj::ak::al::am::an::ao::ap::aq::ar::au::av::aw::ax::ay::az::aA::aB::aC::aD::aE::aF::aG::aH::aI::aJ::aK::aL::aM::aN::aO::aP::aQ::aR::aS::aT::aU::aV::aW::aX::aY::aZ::a0::a1::a2::a3::a4::a5::a6::a7::a8::a9::ba::bb::bc::bd::be::bf::bg::bh::bi::bj::bk::bl::bm::bn::bo::bp::bq::br::bs::bt::bu::bv::bw::bx::bz::bA::bB::bC::bD::bE::bF::bG::bH::bI::bJ::bK::bL::bM::bN::bO::bP::bQ::bR::bS::bT::bU::bV::bW::bX::bY::bZ::b0::b1::b2::b3::b4::b5::b6::b7::b8::b9::ca::cb::cc::cd::ce::cf::cg::ch::ci::cj::ck::cl::cm::cn::co::cp::cq::cr::cs::ct::cu::cv::cw::cx::cy::cz::cA::cB::cC::cD::cE::cF::cG::cH::cI::cJ::cK::cL::cM::cN::cO::y175::y176::y177::y178::y179::y180::y181::y182::y183::y184::y185::y186::y187::y188::y189::y190::y191::y192::y193::cP::cQ::cR::[]),[]⟩ a:=by
 have u:(⟨b,8,none⟩:Addr).block<a.heap.size:=jcr _ _ t;have l5':b<a.heap.size:=u;have hvl:=r.out.len;have hvc:=r.out.cap
 have z0:0<=z:=by have:=q.out;omega
 have z1:z.toNat=i:=by have:=q.out;omega
 have z2:z<(waits.length:Int):=by have:=q.out;omega
 have z3:z<=(waits.length:Int):=by omega
 have z4:(z+1)<=(waits.length:Int):=by omega
 have z5:0<=z+1:=by omega
 have z6:(z+1).toNat=i+1:=by omega
 have z7:z<=(p:Int):=by omega
 have hlen:=s.out
 have hwz:IntKind.i64.wrap (z+1)=z+1:=by unfold IntKind.wrap;simp[IntKind.signed,IntKind.bits];omega
 have HR:Hid _:=hR
 conv=>arg 2;whnf
 by_cases hvz:p=i+1
 ·subst hvz
  have z8:z<=(i:Int)+1:=by omega
  go_region_law (first
   |(refine vt _ rfl (.tmp 176) (.tmp 182) rfl (g:=a.heap.size) (n:=0) (cap:=0) (xs:=[]) (by simp[Act.eval,Act.put]) (qh4 a 102 rfl) (sa:=some ⟨m,o,none⟩) (c:=i+1) (l:=waits.take i) (by simp[Act.eval,Act.put]<;>omega) ((r.out.take i (by have:=q.out;omega)).later (by repeat (first|(with_reducible assumption)|(with_reducible exact jcc _ _)|(with_reducible refine boxed ?_ _)|(with_reducible refine jc6 ?_)))) (by have:=s.out;simp;omega) ?_
     intro v c1_ w F G H I;have x:Hid (a.heap.size<=v/\v<w.heap.size):=⟨by simp at H;omega,I⟩;have f:Below a.heap.size a w:=jd0 (by repeat (first|(with_reducible assumption)|(with_reducible exact jcc _ _)|(with_reducible refine boxed ?_ _)|(with_reducible refine jc6 ?_))) G (by simp<;>omega) (λj h=>by simp at h;omega);have c86:=cell_later f t
     have f86:=qgv f D u)
   |(refine vt _ rfl (.tmp 183) (.tmp 190) rfl (by simp[Act.eval,Act.put]) F (sa:=some ⟨m,o,none⟩) (c:=0) (l:=waits.drop (i+1)) (by simp[Act.eval,Act.put]<;>omega) (⟨by simp;omega,by omega,.inl (jdw (by omega))⟩) (by have:=s.out;simp;omega) ?_
     intro e y d B J eg7 K;have k:Below a.heap.size a d:=jd0 f J f.size (λj h=>by have:=x.out;simp at h;omega);have C:Hid (a.heap.size<=e/\e<d.heap.size):=⟨by have:=x.out;have:=f.size;omega,K⟩;have c87:=cell_later k t
     have f87:=qgv k D u))
  all_goals
   refine HR.out _ _ _ _ _ _ _ _ _ _ _ _ _ _ _ _ _ _ _ d e y _ k C.out.1 C.out.2 ?_ ?_
   ·simp<;>omega
   ·rw[jda,<-qjs]at B
    have L:∀n,n=0+(waits.take i).length+(waits.drop (i+1)).length->d.ownsRow 0 102 9 (.slice (some ⟨e,0,none⟩) n y) n (zw (waits.take i++waits.drop (i+1))):=λn M=>by subst M;exact B
    exact L _ (by simp<;>omega)
 ·skip
  go_region_law (first
   |(refine vt _ rfl (.tmp 176) (.tmp 182) rfl (g:=a.heap.size) (n:=0) (cap:=0) (xs:=[]) (by simp[Act.eval,Act.put]) (qh4 a 102 rfl) (sa:=some ⟨m,o,none⟩) (c:=p) (l:=waits.take i) (by simp[Act.eval,Act.put]<;>omega) ((r.out.take i (by have:=q.out;omega)).later (by repeat (first|(with_reducible assumption)|(with_reducible exact jcc _ _)|(with_reducible refine boxed ?_ _)|(with_reducible refine jc6 ?_)))) (by have:=s.out;simp;omega) ?_
     intro v c1_ w F G H I;have x:Hid (a.heap.size<=v/\v<w.heap.size):=⟨by simp at H;omega,I⟩;have f:Below a.heap.size a w:=jd0 (by repeat (first|(with_reducible assumption)|(with_reducible exact jcc _ _)|(with_reducible refine boxed ?_ _)|(with_reducible refine jc6 ?_))) G (by simp<;>omega) (λj h=>by simp at h;omega);have c86:=cell_later f t
     have f86:=qgv f D u)
   |(refine vt _ rfl (.tmp 183) (.tmp 190) rfl (by simp[Act.eval,Act.put]) F (sa:=some ⟨m,o+(i+1)*9,none⟩) (c:=p-(i+1)) (l:=waits.drop (i+1)) (by simp[Act.eval,Act.put]<;>omega) ((r.out.drop (i+1) (by have:=q.out;omega)).later f) (by have:=s.out;simp;omega) ?_
     intro e y d B J eg7 K;have k:Below a.heap.size a d:=jd0 f J f.size (λj h=>by have:=x.out;simp at h;omega);have C:Hid (a.heap.size<=e/\e<d.heap.size):=⟨by have:=x.out;have:=f.size;omega,K⟩;have c87:=cell_later k t
     have f87:=qgv k D u))
  all_goals
   refine HR.out _ _ _ _ _ _ _ _ _ _ _ _ _ _ _ _ _ _ _ d e y _ k C.out.1 C.out.2 ?_ ?_
   ·simp<;>omega
   ·rw[jda,<-qjs]at B
    have L:∀n,n=0+(waits.take i).length+(waits.drop (i+1)).length->d.ownsRow 0 102 9 (.slice (some ⟨e,0,none⟩) n y) n (zw (waits.take i++waits.drop (i+1))):=λn M=>by subst M;exact B
    exact L _ (by simp<;>omega)
noncomputable def jas:Code:=((Tryz.f84.body.bind (qfn 19)).getD .skip)
theorem qzp {b:Nat} {S:qe} {lv sv:Value} {I:Option Addr} {M:Nat} {log waits:List TxM} {y1 y2 y3 y4 y5 y6 y7 y9 y10 y11 y12 y13 y14 y15 y16 y17 y18 y19 y20 y21 y22 y23 y24 y25 y26 y27 y28 y29 y30 y31 y32 y33 y34 y35 y36 y37 y38 y39 y40 y41 y42 y43 y44 y45 y46 y47 y48 y49 y50 y51 y52 y53 y54 y55 y56 y57 y58 y59 y60 y61 y62 y63 y64 y65 y66 y67 y68 y69 y70 y71 y72 y73 y74 y75 y76 y77 y78 y79 y80 y81 y82 y83 y84 y85 y86 y87 y88 y89 y90 y91 y92 y93 y94 y95 y96 y97 y98 y99 y100 y101 y102 y103 y104 y105 y106 y107 y108 y109 y110 y111 y112 y113 y114 y115 y116 y117 y118 y119 y123 y124 y125 y126 y127 y128 y129 y130 y131 y132 y133 y134 y135 y136 y137 y138 y139 y140 y141 y142 y143 y144 y145 y146 y147 y148 y149 y150 y151 y152 y153 y154 y155 y156 y157 y158 y159 y160 y161 y162 y163 y164 y165 y166 y167 y168 y169 y170 y171 y172 y173 y174 y175 y176 y177 y178 y179 y180 y181 y182 y183 y184 y185 y186 y187 y188 y189 y190 y191 y192 y193 y194 y195 y196:Value} (w:World) (Q:vu w b lv (.slice I waits.length M) sv S log waits) (hw:waits.map (·.t)=S.waits) (hI:j3 S) (hn:waits.length<=1000) (R:Act->World->Prop)
 (hR:∀(u9 u10 u122 u123 u124 u125 u126 u127 u128 u129 u130 u131 u132 u133 u134 u135 u136 u137 u138 u139 u140 u141 u142 u143 u144 u145 u146 u147 u148 u149 u150 u151 u152 u153 u154 u155 u156 u157 u158 u159 u160 u161 u162 u163 u164 u165:Value) (z:Int) (w':World),qei S waits waits.length z->Bw w w'->R ⟨List.toArray ((PP b)::y1::y2::y3::y4::y5::y6::y7::(U z)::u9::u10::y11::y12::y13::y14::y15::y16::y17::y18::y19::y20::y21::y22::y23::y24::y25::y26::y27::y28::y29::y30::y31::y32::y33::y34::y35::y36::y37::y38::y39::y40::y41::y42::y43::y44::y45::y46::y47::y48::y49::y50::y51::y52::y53::y54::y55::y56::y57::y58::y59::y60::y61::y62::y63::y64::y65::y66::y67::y68::y69::y70::y71::y72::y73::y74::y75::y76::y77::y78::y79::y80::y81::y82::y83::y84::y85::y86::y87::y88::y89::y90::y91::y92::y93::y94::y95::y96::y97::y98::y99::y100::y101::y102::y103::y104::y105::y106::y107::y108::y109::y110::y111::y112::y113::y114::y115::y116::y117::y118::y119::(.slice I waits.length M)::(U waits.length)::u122::u123::u124::u125::u126::u127::u128::u129::u130::u131::u132::u133::u134::u135::u136::u137::u138::u139::u140::u141::u142::u143::u144::u145::u146::u147::u148::u149::u150::u151::u152::u153::u154::u155::u156::u157::u158::u159::u160::u161::u162::u163::u164::u165::y166::y167::y168::y169::y170::y171::y172::y173::y174::y175::y176::y177::y178::y179::y180::y181::y182::y183::y184::y185::y186::y187::y188::y189::y190::y191::y192::y193::y194::y195::y196::[]),[]⟩ w'):
 Code.wp Tryz.prog jas (λe a w=>e=.exit 4/\R a w) ⟨List.toArray ((PP b)::y1::y2::y3::y4::y5::y6::y7::(U (-1))::y9::y10::y11::y12::y13::y14::y15::y16::y17::y18::y19::y20::y21::y22::y23::y24::y25::y26::y27::y28::y29::y30::y31::y32::y33::y34::y35::y36::y37::y38::y39::y40::y41::y42::y43::y44::y45::y46::y47::y48::y49::y50::y51::y52::y53::y54::y55::y56::y57::y58::y59::y60::y61::y62::y63::y64::y65::y66::y67::y68::y69::y70::y71::y72::y73::y74::y75::y76::y77::y78::y79::y80::y81::y82::y83::y84::y85::y86::y87::y88::y89::y90::y91::y92::y93::y94::y95::y96::y97::y98::y99::y100::y101::y102::y103::y104::y105::y106::y107::y108::y109::y110::y111::y112::y113::y114::y115::y116::y117::y118::y119::(.slice I waits.length M)::(U waits.length)::(U 0)::y123::y124::y125::y126::y127::y128::y129::y130::y131::y132::y133::y134::y135::y136::y137::y138::y139::y140::y141::y142::y143::y144::y145::y146::y147::y148::y149::y150::y151::y152::y153::y154::y155::y156::y157::y158::y159::y160::y161::y162::y163::y164::y165::y166::y167::y168::y169::y170::y171::y172::y173::y174::y175::y176::y177::y178::y179::y180::y181::y182::y183::y184::y185::y186::y187::y188::y189::y190::y191::y192::y193::y194::y195::y196::[]),[]⟩ w:=by
 have HR:Hid _:=hR;clear hR;have N:=hd3 Q hw hI
 have V:Hid (qdy w I M waits):=by
  obtain⟨a9,c9,e9,h9⟩:=yx Q.rwait;injection e9 with d h f;rw[d,f];exact h9
 have hvl:=V.out.len;have hvc:=V.out.cap;have hne:=qb.one;clear Q hw hI
 conv=>arg 2;whnf
 go_loopw [8,122] (λbv iv wr=>∃(k:Nat) (z p:Int),k<=waits.length/\z=k/\bv=U p/\iv=U z/\Hid (qei S waits k p)/\Bw w wr) (λ_ i _=>waits.length-(intOf i).toNat)
 case atStart=>exact⟨0,0, -1,by omega,rfl,rfl,rfl,qyj S waits,jcc _ _⟩
 obtain⟨k,z,p,hk,hz,rfl,rfl,C,W⟩:=hrel;have q:=hd1 hz;by_cases X:k<waits.length
 ·have g1:z<(waits.length:Int):=by omega
  have g2:z.toNat=k:=by omega
  have g3:0<=z:=by omega
  clear hz
  obtain⟨J,K,hwa,Y⟩:∃J K,I=some (AD J K)/\∀i m r u,waits[i]?=some m->(txC m)[r]?=some u->w.cell? (AD J (K+(i*9+r)))=some u:=by
   rcases V.out.held with e|e
   ·rw[e]at X;simp at X
   exact e
  obtain⟨⟨⟨xs,g,l,n,j,d,h,f,o⟩,E,F⟩,O⟩:∃m,waits[k]?=some m:=⟨waits[k],jcg X⟩;have P:=hd1 O;have hok:=(N.out.2.2.wt ⟨xs,g,l,n,j,d,h,f,o⟩ (by rw[<-N.out.2.1];exact jcz.2 ⟨_,jcq O,rfl⟩)).1;obtain⟨⟨s0,s3⟩,_,_⟩:=qcg hok;simp only at s0 s3
  have s4:xs<4:=by omega
  have s:=λr u (hu:(txC ⟨⟨xs,g,l,n,j,d,h,f,o⟩,E,F⟩)[r]?=some u)=>(show wr.cell? (AD J (K+k*9+r))=some u by rw[Nat.add_assoc];exact cell_later W (Y k _ r u O hu));have x0:=s 0 _ rfl;have x1:=s 1 _ rfl;have x2:=s 2 _ rfl;have x3:=s 3 _ rfl;have x4:=s 4 _ rfl;have x5:=s 5 _ rfl;have x6:=s 6 _ rfl;have x7:=s 7 _ rfl;have x8:=s 8 _ rfl;rw[Nat.add_zero]at x0;have G:=boxed W (.cells (List.toArray (T9 xs g l n j d h f E o.length F)) 102);have v:=qd.new (w:=wr) (T:=102) (T9 xs g l n j d h f E o.length F) rfl;change qd (wr.alloc (.cells (List.toArray (T9 xs g l n j d h f E o.length F)) 102)) wr.heap.size (T9 xs g l n j d h f E o.length F)at v;have y:=N.out.1.later G;have t0:=qb.cell (v.c 0);have t1:=qb.cell (v.c 1);have t4:=qb.cell (v.c 4);have t5:=qb.cell (v.c 5);have t6:=qb.cell (v.c 6);have t7:=qb.cell (v.c 7);have ks:=qb.cell (qkc y.box s0 s3);have k1:=qb.cell (y.box.c 1);have k2:=qb.cell (y.box.c 2);have k3:=qb.cell (y.box.c 3);have k4:=qb.cell (y.box.c 4);have k8:=qb.cell (y.box.c 8);obtain⟨D,Z⟩:∃D,qp xs S.a0 S.a1 S.a2 S.a3=D:=⟨_,rfl⟩;have HD:=hd1 Z;have aa:=N.out.2.2.dep xs;rw[Z]at ks aa;have hwr:=qd1 aa
  have ab:Hid (qz S ⟨xs,g,l,n,j,d,h,f,o⟩=(decide (g=D+1)&&qa8 S.a0 S.a1 S.a2 S.a3 j d h f)):=by show qz S ⟨xs,g,l,n,j,d,h,f,o⟩=_;unfold qz;rw[HD.out]
  rw[hwa]at k8 ⊢;have HCC:=hd1 Y;clear s Y O v y Z aa hok s3;by_cases H:g=D+1
  have q2:(g==D+1)=true:=by simp[H]
  have HQ:=hd1 H;clear H;cases hc:qa8 S.a0 S.a1 S.a2 S.a3 j d h f;have L:=hd1 hc
  have HN:Hid (qz S ⟨xs,g,l,n,j,d,h,f,o⟩=false):=by show _=_;rw[ab.out,hc];simp
  clear hc
  go_wp2_with fail
  refine wrl ?_
  repeat (go_big_quiet_step (first|rfl|(go_at_call 77;with_reducible exact qg (yo L.out _))))
  rotate_left
  have L:=hd1 hc
  have HY:Hid (qz S ⟨xs,g,l,n,j,d,h,f,o⟩=true):=by show _=_;rw[ab.out,hc,HQ.out];simp
  clear hc;by_cases hbz:p<0
  ·have HE:Hid (p= -1):=by
        show _=_;rcases C.out with ⟨e,_⟩|⟨i,x,e,_⟩
        ·exact e
        omega
   go_wp2_with fail
   refine wrl ?_
   repeat (go_big_quiet_step (first|rfl|(go_at_call 77;with_reducible exact qg (yo L.out _))))
   refine wpQuiet_nil ?_;rintro w4 ⟨⟨_,B⟩,rfl⟩
   go_wp2_with fail
   go_roundw
   case rel=>exact⟨k+1,z+1,z,by omega,by have:=q.out;omega,rfl,by go_num,(by rw[q.out];exact qyl (by rw[<-HE.out];exact C.out) P.out HY.out),qa G B⟩
   simp[intOf];have:=q.out;omega
  obtain⟨i,⟨⟨bs,bq,bw,bc,f0,f1,f2,f3,bws⟩,ba,bcap⟩,hzi,hik,hbx⟩:=q90 C.out (by omega);have HBX:=hd1 hbx;have HZI:=hd2 hzi (show qei S waits k i from by rw[<-hzi];exact C.out);have b1:=decide_eq_false hbz
  have z0:0<=p:=by omega
  have z1:p.toNat=i:=by omega
  have z2:p<(waits.length:Int):=by omega
  have cb:(wr.alloc (.cells (List.toArray (T9 xs g l n j d h f E o.length F)) 102)).cell? (AD J (K+i*9))=some (U bs):=cell_later G (HCC.out i _ 0 _ hbx rfl);have cbl:=qb.cell cb;clear hbx hzi cb;by_cases hl:xs<bs
  ·have b2:=decide_eq_true hl
   go_wp2_with fail
   refine wrl ?_
   repeat (go_big_quiet_step (first|rfl|(go_at_call 77;with_reducible exact qg (yo L.out _))))
   refine wpQuiet_nil ?_;rintro w4 ⟨⟨_,B⟩,rfl⟩
   go_wp2_with fail
   go_roundw
   case rel=>exact⟨k+1,z+1,z,by omega,by have:=q.out;omega,rfl,by go_num,(by rw[q.out];exact q1o HZI.out.2 HBX.out P.out HY.out hl),qa G B⟩
   simp[intOf];have:=q.out;omega
  have b2:=decide_eq_false hl
  go_wp2_with fail
  refine wrl ?_
  repeat (go_big_quiet_step (first|rfl|(go_at_call 77;with_reducible exact qg (yo L.out _))))
  refine wpQuiet_nil ?_;rintro w4 ⟨⟨_,B⟩,rfl⟩
  go_wp2_with fail
  go_roundw
  case rel=>exact⟨k+1,z+1,p,by omega,by have:=q.out;omega,rfl,by go_num,(by rw[HZI.out.1];exact q2x HZI.out.2 HBX.out P.out (by simp only;omega)),qa G B⟩
  simp[intOf];have:=q.out;omega
  have q2:(g==D+1)=false:=by simp[H]
  have HN:Hid (qz S ⟨xs,g,l,n,j,d,h,f,o⟩=false):=by show _=_;rw[ab.out];simp[H]
  clear H
  go_wp2_with fail
  refine wrl ?_
  repeat (go_big_quiet_step (first|rfl|fail))
  all_goals
   refine wpQuiet_nil ?_;rintro w4 ⟨⟨_,B⟩,rfl⟩
   go_wp2_with fail
   go_roundw
   case rel=>exact⟨k+1,z+1,p,by omega,by have:=q.out;omega,rfl,by go_num,qz5 C.out P.out HN.out,qa G B⟩
   simp[intOf];have:=q.out;omega
 have g1:¬z<(waits.length:Int):=by omega
 have hkk:k=waits.length:=by omega
 subst hkk
 go_wp2_with fail
 exact HR.out _ _ _ _ _ _ _ _ _ _ _ _ _ _ _ _ _ _ _ _ _ _ _ _ _ _ _ _ _ _ _ _ _ _ _ _ _ _ _ _ _ _ _ _ _ _ p wr C.out W
noncomputable def ja8:Code:=((Tryz.f84.body.bind (qfn 16)).getD .skip)
theorem qw2 {b:Nat} {G:Nat->Prop} {F:Nat->Option Obj} {S:qe} {y1 y2 y3 y4 y5 y6 y7 y8 y9 y10 y11 y12 y13 y14 y15 y16 y17 y18 y19 y20 y21 y22 y23 y24 y25 y26 y27 y28 y29 y30 y31 y32 y33 y34 y35 y36 y37 y38 y39 y40 y41 y42 y43 y44 y45 y46 y47 y48 y49 y50 y51 y52 y53 y54 y55 y56 y57 y58 y59 y60 y61 y62 y63 y64 y65 y66 y67 y68 y69 y70 y71 y72 y73 y74 y75 y76 y77 y78 y79 y80 y81 y82 y83 y84 y85 y86 y87 y88 y89 y90 y91 y92 y93 y94 y95 y96 y97 y98 y99 y100 y101 y102 y103 y104 y105 y106 y107 y108 y109 y110 y111 y112 y113 y114 y115 y116 y117 y118 y119 y120 y121 y122 y123 y124 y125 y126 y127 y128 y129 y130 y131 y132 y133 y134 y135 y136 y137 y138 y139 y140 y141 y142 y143 y144 y145 y146 y147 y148 y149 y150 y151 y152 y153 y154 y155 y156 y157 y158 y159 y160 y161 y162 y163 y164 y165 y166 y167 y168 y169 y170 y171 y172 y173 y174 y175 y176 y177 y178 y179 y180 y181 y182 y183 y184 y185 y186 y187 y188 y189 y190 y191 y192 y193 y194 y195 y196:Value} (w:World) (M0:qns w b G F S S w) (R:Act->World->Prop)
 (hR:∀(u8 u9 u10 u11 u111 u112 u113 u114 u115 u116 u117 u118 u119 u120 u121 u122 u123 u124 u125 u126 u127 u128 u129 u130 u131 u132 u133 u134 u135 u136 u137 u138 u139 u140 u141 u142 u143 u144 u145 u146 u147 u148 u149 u150 u151 u152 u153 u154 u155 u156 u157 u158 u159 u160 u161 u162 u163 u164 u165 u166 u167 u168 u169 u170 u171 u172 u173 u174 u175 u176 u177 u178 u179 u180 u181 u182 u183 u184 u185 u186 u187 u188 u189 u190 u191 u192 u193 u194 u195 u196:Value) (S':qe) (w':World),qfm S S'->RPo w b G F S' w'->R ⟨List.toArray ((.pointer (some ⟨b,0,none⟩))::y1::y2::y3::y4::y5::y6::y7::u8::u9::u10::u11::y12::y13::y14::y15::y16::y17::y18::y19::y20::y21::y22::y23::y24::y25::y26::y27::y28::y29::y30::y31::y32::y33::y34::y35::y36::y37::y38::y39::y40::y41::y42::y43::y44::y45::y46::y47::y48::y49::y50::y51::y52::y53::y54::y55::y56::y57::y58::y59::y60::y61::y62::y63::y64::y65::y66::y67::y68::y69::y70::y71::y72::y73::y74::y75::y76::y77::y78::y79::y80::y81::y82::y83::y84::y85::y86::y87::y88::y89::y90::y91::y92::y93::y94::y95::y96::y97::y98::y99::y100::y101::y102::y103::y104::y105::y106::y107::y108::y109::y110::u111::u112::u113::u114::u115::u116::u117::u118::u119::u120::u121::u122::u123::u124::u125::u126::u127::u128::u129::u130::u131::u132::u133::u134::u135::u136::u137::u138::u139::u140::u141::u142::u143::u144::u145::u146::u147::u148::u149::u150::u151::u152::u153::u154::u155::u156::u157::u158::u159::u160::u161::u162::u163::u164::u165::u166::u167::u168::u169::u170::u171::u172::u173::u174::u175::u176::u177::u178::u179::u180::u181::u182::u183::u184::u185::u186::u187::u188::u189::u190::u191::u192::u193::u194::u195::u196::[]),[]⟩ w'):
 Code.wp Tryz.prog ja8 (λe a w=>e=.exit 2/\R a w) ⟨List.toArray ((.pointer (some ⟨b,0,none⟩))::y1::y2::y3::y4::y5::y6::y7::y8::y9::y10::y11::y12::y13::y14::y15::y16::y17::y18::y19::y20::y21::y22::y23::y24::y25::y26::y27::y28::y29::y30::y31::y32::y33::y34::y35::y36::y37::y38::y39::y40::y41::y42::y43::y44::y45::y46::y47::y48::y49::y50::y51::y52::y53::y54::y55::y56::y57::y58::y59::y60::y61::y62::y63::y64::y65::y66::y67::y68::y69::y70::y71::y72::y73::y74::y75::y76::y77::y78::y79::y80::y81::y82::y83::y84::y85::y86::y87::y88::y89::y90::y91::y92::y93::y94::y95::y96::y97::y98::y99::y100::y101::y102::y103::y104::y105::y106::y107::y108::y109::y110::y111::y112::y113::y114::y115::y116::y117::y118::y119::y120::y121::y122::y123::y124::y125::y126::y127::y128::y129::y130::y131::y132::y133::y134::y135::y136::y137::y138::y139::y140::y141::y142::y143::y144::y145::y146::y147::y148::y149::y150::y151::y152::y153::y154::y155::y156::y157::y158::y159::y160::y161::y162::y163::y164::y165::y166::y167::y168::y169::y170::y171::y172::y173::y174::y175::y176::y177::y178::y179::y180::y181::y182::y183::y184::y185::y186::y187::y188::y189::y190::y191::y192::y193::y194::y195::y196::[]),[]⟩ w:=by
 have HR:Hid _:=hR;clear hR
 conv=>arg 2;whnf
 go_loopw [8] (λ_ wr=>∃(d:qe),Hid (qns w b G F S d wr)) (λ_ wr=>qkk wr b)
 case atStart=>exact⟨S,M0⟩
 clear M0;obtain⟨d,s⟩:=hrel;obtain⟨G',PG,hGG⟩:=s.out.mem;have LE:=hd1 PG.left;obtain⟨lv,wv,sv,log,waits,B,O,P,hG,hF⟩:=PG;have HFR:=hd1 hF;obtain⟨la,lc,rfl,Q⟩:=yx B.rlog;obtain⟨va,vc,rfl,H⟩:=yx B.rwait;have g:=hd5 B O P hG hGG;have HVT:=hd1 H
 have hll:log.length=d.log.length:=by rw[<-O];simp
 have hww:waits.length<=1000:=by have:=s.out.wn;rw[<-P]at this;simpa using this
 have HWW:=hd1 hww;have s7:=B.box.c 7;have s8:=B.box.c 8;have hvl:=H.len;have hvc:=H.cap;have hl1:=Q.len;have hl2:=Q.cap;clear B O P hG hF hGG H Q;by_cases hf:200<=log.length
 ·have I:Hid (200<=d.log.length):=by show _<=_;omega
  have h2:¬(log.length:Int)<200:=by omega
  clear hf hll
  go_wp2_with fail
  exact HR.out _ _ _ _ _ _ _ _ _ _ _ _ _ _ _ _ _ _ _ _ _ _ _ _ _ _ _ _ _ _ _ _ _ _ _ _ _ _ _ _ _ _ _ _ _ _ _ _ _ _ _ _ _ _ _ _ _ _ _ _ _ _ _ _ _ _ _ _ _ _ _ _ _ _ _ _ _ _ _ _ _ _ _ _ _ _ _ _ _ _ d wr (s.out.go d (.full I.out)) s.out.done
 have I:Hid (d.log.length<200):=by show _<_;omega
 have h2:(log.length:Int)<200:=by omega
 clear hf hll
 go_wp2_with fail
 refine q58 (qzp wr g.out.1 g.out.2.2.1 s.out.inv HWW.out _ ?_);intro u9 u10 u122 u123 u124 u125 u126 u127 u128 u129 u130 u131 u132 u133 u134 u135 u136 u137 u138 u139 u140 u141 u142 u143 u144 u145 u146 u147 u148 u149 u150 u151 u152 u153 u154 u155 u156 u157 u158 u159 u160 u161 u162 u163 u164 u165 z w2 V C;have HM2:=hd1 (s.out.later C);have J:=hd1 (g.out.1.later C);have HF2:=hd1 (HFR.out.later g.out.1 C);have HV2:=hd1 (HVT.out.later C);rcases q4j V g.out.2.2.1 (λx t=>(qcg (s.out.inv.wt x t).1).1)with ⟨rfl,t⟩|⟨i,⟨⟨xs,h,j,k,l,n,o,p,q⟩,v,y⟩,hzi,hi,t⟩
 ·have K:=hd1 t;clear t V s7 s8 C
  go_wp2_with fail
  exact⟨trivial,HR.out _ _ _ _ _ _ _ _ _ _ _ _ _ _ _ _ _ _ _ _ _ _ _ _ _ _ _ _ _ _ _ _ _ _ _ _ _ _ _ _ _ _ _ _ _ _ _ _ _ _ _ _ _ _ _ _ _ _ _ _ _ _ _ _ _ _ _ _ _ _ _ _ _ _ _ _ _ _ _ _ _ _ _ _ _ _ _ _ _ _ d w2 (s.out.go d (.none K.out)) HM2.out.done⟩
 have K:=hd2 (show qd7 d=some ⟨xs,h,j,k,l,n,o,p,q⟩from t) hi;have W:=(jck.1 hi).1;have HZI:=hd2 hzi W
 have z0:0<=z:=by omega
 have z1:z.toNat=i:=by omega
 have z2:z<(waits.length:Int):=by omega
 have z3:¬z<0:=by omega
 obtain⟨L,M,hwa,hcc⟩:∃L M,va=some ⟨L,M,none⟩/\∀i m r u,waits[i]?=some m->(txC m)[r]?=some u->w2.cell? ⟨L,M+(i*9+r),none⟩=some u:=by
  rcases HV2.out.held with e|e
  ·rw[e]at W;simp at W
  exact e
 subst hwa;have f:=λr u (hu:(txC ⟨⟨xs,h,j,k,l,n,o,p,q⟩,v,y⟩)[r]?=some u)=>(show w2.cell? ⟨L,M+i*9+r,none⟩=some u by rw[Nat.add_assoc];exact hcc i _ r u hi hu);have x0:=f 0 _ rfl;have x1:=f 1 _ rfl;have x2:=f 2 _ rfl;have x3:=f 3 _ rfl;have X:=f 4 _ rfl;have Y:=f 5 _ rfl;have Z:=f 6 _ rfl;have x7:=f 7 _ rfl;have x8:=f 8 _ rfl;rw[Nat.add_zero]at x0;have s28:=J.out.box.c 8;clear f hcc hi t V s7 s8 hzi
 go_wp2_with fail
 have D:=boxed (jcc w2.heap.size w2) (.cells (List.toArray (T9 xs h j k l n o p v q.length y)) 102);have E:=hd1 (J.out.later D);have N:=qd.new (w:=w2) (T:=102) (T9 xs h j k l n o p v q.length y) rfl;change qd (w2.alloc (.cells (List.toArray (T9 xs h j k l n o p v q.length y)) 102)) w2.heap.size (T9 xs h j k l n o p v q.length y)at N;have HM3:=hd1 (HM2.out.later D);have HF3:=hd1 (HF2.out.later J.out D);have HV3:=hd1 (HV2.out.later D);obtain⟨W3,hW3⟩:∃W3,w2.alloc (.cells (List.toArray (T9 xs h j k l n o p v q.length y)) 102)=W3:=⟨_,rfl⟩
 have hnb:w2.heap.size≠b:=by have:=J.out.box.lt;omega
 rw[hW3]at D E N HM3 HF3 HV3 ⊢;clear hW3 x0 x1 x2 x3 X Y Z x7 x8 s28;refine qma (qvg W3 HV3 HWW HZI (E.out.box.c 8) (E.out.box.free 8 (by simp[vz])) _ ?_);intro u175 u176 u177 u178 u179 u180 u181 u182 u183 u184 u185 u186 u187 u188 u189 u190 u191 u192 u193 w7 g2 c2 n2 hb7 hg1 hg2 hn2 own7
 obtain⟨P7,T7,F7⟩:=E.out.reset hb7 hg1 own7 hn2.symm (λm hm=>.inl (by
  rcases jcf.1 hm with h1|h1
  ·exact List.mem_of_mem_take h1
  exact List.mem_of_mem_drop h1)) (qdv d.waits ⟨xs,h,j,k,l,n,o,p,q⟩)
 have AP:=qsa HM3.out E.out HF3.out g.out.2.1 g.out.2.2.1 g.out.2.2.2.1 g.out.2.2.2.2 K.out.2 I.out K.out.1 T7 F7 P7;have RX7:qd (w7.setCell ⟨b,8,none⟩ (.slice (some ⟨g2,0,none⟩) n2 c2)) w2.heap.size (T9 xs h j k l n o p v q.length y):=(N.later hb7).kept (jce _ _ _ _ hnb) (by simp[World.setCell]);obtain⟨W8,hW8⟩:∃W8,w7.setCell ⟨b,8,none⟩ (.slice (some ⟨g2,0,none⟩) n2 c2)=W8:=⟨_,rfl⟩;rw[hW8]at AP RX7 ⊢;obtain⟨x0,x1,x2,x3,X,Y,Z,x7,x8⟩:=RX7.c9;clear P7 T7 F7 N RX7 hb7 hg1 hg2 own7 hW8 hn2
 go_wp2_with fail
 refine AP.mono ?_;rintro e w9 ⟨rfl,hM9,_⟩;have HM9:=hd1 hM9;clear x0 x1 x2 x3 X Y Z x7 x8 AP hM9
 go_wp2_with fail
 go_roundw
 case rel=>exact⟨_,HM9⟩
 obtain⟨G5,p5,_⟩:=HM9.out.mem;rw[p5.left,LE.out];have:=I.out;simp[qj5,vr];omega
theorem qqk {b:Nat} {lv wv sv:Value} {S:qe} {log waits:List TxM} (a:Int) (w:World) (h:vu w b lv wv sv S log waits):
 Ca 87 #[PP b,U a] w λe w'=>
  e=.returned (.agg #[U (qj S (jw a)).v0,U (qj S (jw a)).v1,U (qj S (jw a)).v2,U (qj S (jw a)).v3])/\Bw w w':=by
 have G:=(qo.new w 77 0 0 0 0).boxed (.cells #[U S.a0,U S.a1,U S.a2,U S.a3] 77);have H:=qo.newest (w:=w.alloc (.cells #[U 0,U 0,U 0,U 0] 77)) (T:=77) (n:=w.heap.size+1) (a0:=S.a0) (a1:=S.a1) (a2:=S.a2) (a3:=S.a3) (by simp);have I:=boxed (boxed (jcc _ w) (.cells #[U 0,U 0,U 0,U 0] 77)) (.cells #[U S.a0,U S.a1,U S.a2,U S.a3] 77);have Q:=hd1 h;have J:=h.box.lt;have R:=h.box.c 1;have V:=h.box.c 2;have X:=h.box.c 3;have Y:=h.box.c 4;clear h;go_enter Tryz.func87,Tryz.ntmps87
 go_wp2_with fail
 have t:Hid (StM w S 0 ((w.alloc (.cells #[U 0,U 0,U 0,U 0] 77)).alloc (.cells #[U S.a0,U S.a1,U S.a2,U S.a3] 77))):=⟨G,H,I⟩;obtain⟨W,K⟩:∃W,(w.alloc (.cells #[U 0,U 0,U 0,U 0] 77)).alloc (.cells #[U S.a0,U S.a1,U S.a2,U S.a3] 77)=W:=⟨_,rfl⟩;rw[K]at t ⊢;clear K G H I R V X Y J
 go_loopw [6] (λiv wr=>∃(k:Nat) (z:Int),k<=(jw a)/\z=k/\iv=U z/\Hid (StM w S k wr)) (λi _=>4-(intOf i).toNat)
 case atStart=>exact⟨0,0,by omega,rfl,rfl,t⟩
 clear t;obtain⟨k,z,hk,q,rfl,d⟩:=hrel;have L:=hd1 q;have hcut:(jw a)=min 4 a.toNat:=rfl;by_cases J:k<(jw a)
 ·have Z:z<a:=by omega
  have h2:z<4:=by omega
  have h5:0<=z:=by omega
  have h6:z.toNat=k:=by omega
  have hk4:k<4:=by omega
  clear hcut;have g:=Q.out.later d.out.b;have i0:=g.box.c 0;by_cases u:z=S.id
  ·have e:Hid (qj S (k+1)=qj S k):=by
        show qj S (k+1)=qj S k
        have:(k:Int)=S.id:=by omega
        simp[qj,this]
   have AM2:Hid (StM w S (k+1) wr):=⟨d.out.r,by rw[e.out];exact d.out.v,d.out.b⟩
   have hd:(z==S.id)=true:=by simp[u]
   clear q g
   go_wp2_with fail
   go_roundw
   case rel=>exact⟨k+1,z+1,by omega,by have:=L.out;omega,by go_num,AM2⟩
   simp[intOf];omega
  have hd:(z==S.id)=false:=by simp[u]
  obtain⟨M,N,O,P⟩:=q27 (S:=S) (lv:=lv) (wv:=wv) (sv:=sv) hk4;have q0:=g.box.cell _ _ M;have q1:=g.box.cell _ _ N;have q2:=g.box.cell _ _ O;have q3:=g.box.cell _ _ P;obtain⟨⟨j,l,m,o⟩,y⟩:∃v,qj S k=v:=⟨_,rfl⟩;obtain⟨p0,B⟩:∃x,S.oth (k*4)=x:=⟨_,rfl⟩;obtain⟨p1,C⟩:∃x,S.oth (k*4+1)=x:=⟨_,rfl⟩;obtain⟨p2,D⟩:∃x,S.oth (k*4+2)=x:=⟨_,rfl⟩;obtain⟨p3,E⟩:∃x,S.oth (k*4+3)=x:=⟨_,rfl⟩
  have EQ:Hid (qj S (k+1)=⟨qm j p0,qm l p1,qm m p2,qm o p3⟩):=by
   show qj S (k+1)=_
   have:¬(k:Int)=S.id:=by omega
   simp[qj,this,y,B,C,D,E]
  rw[B]at q0;rw[C]at q1;rw[D]at q2;rw[E]at q3
  have p:qo wr (w.heap.size+1) j l m o:=by have:=d.out.v;rw[y]at this;exact this
  have x0:=p.c0;have x1:=p.c1;have x2:=p.c2;have x3:=p.c3
  have PU:Hid (Ca 86 #[.agg #[U j,U l,U m,U o],.agg #[U p0,U p1,U p2,U p3]] wr.drew λe w'=>e=.returned (.agg #[U (qm j p0),U (qm l p1),U (qm m p2),U (qm o p3)])/\qo w' w.heap.size 0 0 0 0/\qo w' (w.heap.size+1) j l m o/\Bw w w'):=
   (qgh j l m o p0 p1 p2 p3 wr.drew).mono λe w' ⟨he,F⟩=>⟨he,qo.later F d.out.r.drew,qo.later F p.drew,qa d.out.b.drew F⟩
  have hB:w.heap.size<=w.heap.size+1:=by omega
  have hBB:=d.out.b.drew;clear q g M N O P y B C D E p d u
  go_wp2_with fail
  go_region_with
   (first|(go_at_call 86;with_reducible refine PU.out.mono ?_;rintro e w5 ⟨rfl,RR5,f,hb5⟩;have y0:=f.c0;have y1:=f.c1;have y2:=f.c2;have y3:=f.c3;have z0:=f.f0;have z1:=f.f1;have z2:=f.f2;have z3:=f.f3))
  all_goals
   have SM:Hid (StM w S (k+1) ((((w5.setCell (AD (w.heap.size+1) 0) (U (qm j p0))).setCell (AD (w.heap.size+1) 1) (U (qm l p1))).setCell (AD (w.heap.size+1) 2) (U (qm m p2))).setCell (AD (w.heap.size+1) 3) (U (qm o p3)))):=
        ⟨RR5.far4 (by omega),by rw[EQ.out];exact f.set,qj9 hb5 hB _ _ _ _⟩
   go_wp2_with fail
   go_roundw
   case rel=>exact⟨k+1,z+1,by omega,by have:=L.out;omega,by go_num,SM⟩
   simp[intOf];omega
 have hke:k=(jw a):=by omega
 by_cases Z:z<a
 have h2:¬z<4:=by omega
 all_goals
  clear hcut;subst hke;have r0:=d.out.r.c0;have r1:=d.out.r.c1;have r2:=d.out.r.c2;have r3:=d.out.r.c3;have f0:=d.out.r.f0;have f1:=d.out.r.f1;have f2:=d.out.r.f2;have f3:=d.out.r.f3;have x0:=d.out.v.c0;have x1:=d.out.v.c1;have x2:=d.out.v.c2;have x3:=d.out.v.c3;have s:=d.out.r.set (x0:=(qj S (jw a)).v0) (x1:=(qj S (jw a)).v1) (x2:=(qj S (jw a)).v2) (x3:=(qj S (jw a)).v3);have hbZ:=qj9 d.out.b (jcd _) (qj S (jw a)).v0 (qj S (jw a)).v1 (qj S (jw a)).v2 (qj S (jw a)).v3;have g0:=s.c0;have g1:=s.c1;have g2:=s.c2;have g3:=s.c3;clear q
  go_wp2_with fail
  exact bodyPost_ret (v:=.agg #[U (qj S (jw a)).v0,U (qj S (jw a)).v1,U (qj S (jw a)).v2,U (qj S (jw a)).v3]) (by simp[results,Tryz.results87,go_sem,g0,g1,g2,g3]) rfl ⟨rfl,hbZ⟩
section
variable {l:List (Option Nat)}
theorem q4i (h:l.Pairwise (λx y=>∀k,x=some k->y≠some k)) (i:Nat) {x:Option Nat} (r:∀k,x=some k->l[i]?=some (some k)\/∀y∈l,y≠some k):(l.set i x).Pairwise (λx y=>∀k,x=some k->y≠some k):=by
 refine List.pairwise_iff_getElem.2 λa c s t p k e d=>?_
 have f:a<l.length:=by simpa using s
 have j:c<l.length:=by simpa using t
 have P:=List.pairwise_iff_getElem.1 h;rw[List.getElem_set]at e d;split at e
 ·rename_i u;split at d
  ·omega
  rcases r k e with q|q
  ·rw[u,jcg f]at q;exact P a c f j p k (jcu q) d
  exact q _ (jdr j) d
 split at d
 ·rename_i v;rcases r k d with q|q
  ·rw[v,jcg j]at q;exact P a c f j p k e (jcu q)
  exact q _ (jdr f) e
 exact P a c f j p k e d
theorem jax {w:World} {id:Int} (T:TypeId):RS (w.nu (vz (qg8 id) (.slice none 0 0) (.slice none 0 0) (.slice none 0 0)).toArray T) w.heap.size (λk=>k=w.heap.size) (λ_=>none) (qg8 id):=by
 have B:=qd.new (w:=w) (T:=T) (vz (qg8 id) (.slice none 0 0) (.slice none 0 0) (.slice none 0 0)) rfl;refine⟨.slice none 0 0,.slice none 0 0,.slice none 0 0,[],[],⟨B,jcx _ _ _ _,jcx _ _ _ _,jcx _ _ _ _,λh d=>(by cases d),by simp[Value.ownBlock],by simp[Value.ownBlock],by simp[Value.ownBlock],by simp[Value.ownBlock],by simp[Value.ownBlock],by simp[Value.ownBlock],λm a=>(by cases a)⟩,rfl,rfl,λk=>⟨λh=>.inl (.inl h),λh=>?_⟩,λ_ _ e=>(by cases e)⟩;rcases h with (h|h|h|h)|⟨m,a,_⟩
 ·exact h
 ·simp[Value.ownBlock]at h
 ·simp[Value.ownBlock]at h
 ·simp[Value.ownBlock]at h
 cases a
def qcu (M:RoM) (k:Nat):Nat->qfr:=λi=>if i<k then qek (M.bp i) (λ_=>none) (qg8 i)else qjd (M.bs (i-k)) qez
structure qja (w0:World) (b n c k m:Nat) (M:RoM) (Gs:Nat->Nat->Prop) (w:World):Prop where
 box:qd w b [M.sv,M.wv,M.cv,M.av,M.yv,U 0]
 sr:w.ownsRow 0 75 1 M.sv k (qgn M.bp k)
 wr:w.ownsRow 0 3 1 M.wv n (qdw (λ_=>0) n)
 cr:w.ownsRow 0 87 1 M.cv m (qgn M.bs m)
 ar:w.ownsRow 0 3 1 M.av c (qdw (λ_=>0) c)
 yl:M.yv=.slice none 0 0/\M.l=[]/\M.F=λ_ _=>none
 fam:zh w (k+m) (qcu M k) Gs (ql b M) (k+m) NoY
 ap:(vx b M).Pairwise (λx y=>∀k,x=some k->y≠some k)
 gs:∀j q,j<k+m->Gs j q->w0.heap.size<=q
 ft:∀q,ql b M q->w0.heap.size<=q
 hb:Bw w0 w
theorem qp5 (bp:Nat->Nat) (n p:Nat):qgn (λj=>if j=n then p else bp j) (n+1)=qgn bp n++[PP p]:=by
 unfold qgn;rw[List.range_succ,jdb]
 congr 1
 ·refine List.map_congr_left (λj a=>?_);have:=List.mem_range.1 a;show Value.pointer (PT (if j=n then p else bp j))=_;rw[if_neg (by omega)]
 simp
variable {q:Nat} {T:TypeId} {o:Obj}
section
variable {w0 w w2 wE:World} {b n c k m g cap:Nat} {M:RoM} {Gs:Nat->Nat->Prop}
theorem qja.ltF (h:qja w0 b n c k m M Gs w):∀q,ql b M q->q<w.heap.size:=λq e=>(h.fam.free q e).1
theorem qo7 (a:Bw w w2) {r:Option Nat} (f:w2.grownBy wE r) {s:Nat} {v:Value} (d:q<w.heap.size) (h:q≠b) (i:r≠some q):(wE.setCell (AD b s) v).heap[q]?=w.heap[q]?:=
 (jce _ _ _ _ h).trans ((f.block q (jci d a.size) (λe=>i e.symm)).trans (a.block q d))
theorem qja.site (h:qja w0 b n c k 0 M Gs w) (t:w2=(w.nu (vz (qg8 k) (.slice none 0 0) (.slice none 0 0) (.slice none 0 0)).toArray T).alloc o)
 (own:wE.ownsRow 0 75 1 (.slice (PT g) (k+1) cap) (k+1) (qgn M.bp k++[PP w.heap.size])) (d:w2.grownBy wE M.sv.ownBlock) (v:M.sv.ownBlock=some g\/g=w2.heap.size):
 qja w0 b n c (k+1) 0 {M with sv:=.slice (PT g) (k+1) cap,bp:=λj=>if j=k then w.heap.size else M.bp j} (λj=>if j=k then (λq=>q=w.heap.size)else Gs j) (wE.setCell (AD b 0) (.slice (PT g) (k+1) cap)):=by
 have E:Bw w (w.nu (vz (qg8 k) (.slice none 0 0) (.slice none 0 0) (.slice none 0 0)).toArray T):=boxed (jcc _ w) _
 have u:Bw w w2:=by rw[t];exact boxed E _
 have s2:w2.heap.size=w.heap.size+2:=by rw[t];simp
 have N:=d.size
 have f:(wE.setCell (AD b 0) (.slice (PT g) (k+1) cap)).heap.size=wE.heap.size:=by simp[World.setCell]
 have A:=(jdv.1 h.ap);have B:=(jdv.1 A.2);have O:=h.box.lt;have lv:∀q,q<w.heap.size->q≠b->M.sv.ownBlock≠some q->(wE.setCell (AD b 0) (.slice (PT g) (k+1) cap)).heap[q]?=w.heap[q]?:=λq F H I=>qo7 u d F H I;have row:=λ{x} hx q e=>lv q (h.ltF q (by rw[e]at hx;exact jdc _ (jdc _ hx))) (λa=>A.1 x (jdc _ hx) b rfl (by rw[e,a])) (λa=>B.1 x hx q a e)
 have J:g≠b:=λe=>by
  rcases v with q|q
  ·exact A.1 M.sv.ownBlock (by simp) b rfl (by rw[q,e])
  omega
 have nv:∀q,(Value.slice (PT g) (k+1) cap).ownBlock=some q->M.sv.ownBlock=some q\/w.heap.size+2<=q:=λq e=>by
  have K:g=q:=jcu e;subst K;exact v.imp id (λq=>by omega)
 have z:∀q,ql b {M with sv:=.slice (PT g) (k+1) cap,bp:=λj=>if j=k then w.heap.size else M.bp j} q->ql b M q\/w.heap.size+2<=q:=λq e=>by
  have e:some q∈some b::(Value.slice (PT g) (k+1) cap).ownBlock::[M.wv.ownBlock,M.cv.ownBlock,M.av.ownBlock,M.yv.ownBlock]:=e;rcases jdd.1 e with e|e
  ·exact .inl (jdd.2 (.inl e))
  rcases jdd.1 e with e|e
  ·exact(nv q e.symm).imp (λr=>by unfold ql vx;rw[r];simp) id
  exact .inl (jdc _ (jdc _ e))
 have P:=h.hb.size;refine⟨?_,?_,qf h.wr (row (by simp)),qf h.cr (row (by simp)),qf h.ar (row (by simp)),h.yl,?_,?_,λj q s e=>?_,λq e=>?_,?_⟩
 ·have:=((h.box.later u).grown d (λe=>A.1 M.sv.ownBlock (by simp) b rfl e.symm)).set 0 (.slice (PT g) (k+1) cap) (by simp);exact this
 ·show World.ownsRow _ 0 _ 1 _ (k+1) (qgn (λj=>if j=k then w.heap.size else M.bp j) (k+1));rw[qp5];exact qf own (λq e=>jce _ _ _ _ (λa=>J ((jcu e).trans a)))
 ·have L:RS (wE.setCell (AD b 0) (.slice (PT g) (k+1) cap)) w.heap.size (λq=>q=w.heap.size) (λ_=>none) (qg8 k):=by
   refine(jax (w:=w) (id:=k) T).kept (λq e=>?_) (by rw[f];simp;omega);have e:=e;subst e;refine(jce _ _ _ _ (by simp only;omega)).trans ((d.block _ (by omega) (λe=>?_)).trans ?_)
   ·have:=h.ltF w.heap.size (by unfold ql vx;rw[<-e];simp);omega
   rw[t];exact(boxed (jcc _ (w.nu (vz (qg8 k) (.slice none 0 0) (.slice none 0 0) (.slice none 0 0)).toArray T)) o).block _ (by simp)
  refine h.fam.snoc (n:=k) (G:=λq=>q=w.heap.size) (λj q s e=>lv q ((qcu M k j).lt _ _ (h.fam.is j s) q e) (λa=>(h.fam.free b (by simp[ql,vx])).2 j s (by rw[<-a];exact e)) (λa=>(h.fam.free q (by unfold ql vx;rw[a];simp)).2 j s e)) (by rw[f];omega) ?_ (λq e=>by omega) (λi hi=>?_) (λq e=>?_)
  ·show (qcu _ (k+1) k).is _ _;unfold qcu;rw[if_pos (by omega)];show RS _ (if k=k then w.heap.size else M.bp k) _ _ _;rw[if_pos rfl];exact L
  ·have hi:=hi;unfold qcu;rw[if_pos (by omega),if_pos hi];show qek (if i=k then w.heap.size else M.bp i) _ _=_;rw[if_neg (by omega)]
  rcases z q e with r|r
  ·have:=h.ltF q r;exact⟨.inl r,by rw[f];omega,λa=>by omega⟩
  refine⟨.inr (by omega),?_,λa=>by omega⟩;rw[f];have e:some q∈some b::(Value.slice (PT g) (k+1) cap).ownBlock::[M.wv.ownBlock,M.cv.ownBlock,M.av.ownBlock,M.yv.ownBlock]:=e;rcases jdd.1 e with e|e
  ·injection e with e;omega
  rcases jdd.1 e with e|e
  ·exact(own.lt q e.symm).2
  have:=h.ltF q (jdc _ (jdc _ e));omega
 ·refine q4i h.ap 1 (x:=(Value.slice (PT g) (k+1) cap).ownBlock) (λq e=>?_);rcases nv q e with r|r
  ·exact .inl (by show some M.sv.ownBlock=_;rw[r])
  refine .inr (λy C a=>?_);have:=h.ltF q (by rw[a]at C;exact C);omega
 ·have e:=e;by_cases D:j=k
  ·rw[if_pos D]at e;omega
  rw[if_neg D]at e;exact h.gs j q (by omega) e
 ·rcases z q e with r|r
  ·exact h.ft q r
  omega
 exact((qa h.hb u).grown d (by omega) (λq e=>h.ft q (by unfold ql vx;rw[<-e];simp))).setCell (p:=AD b 0) (h.ft b (by simp[ql,vx])) _
theorem qpw (h:l.Pairwise (λx y=>∀k,x=some k->y≠some k)) {i j:Nat} (e:i≠j) (f:l[i]?=some (some q)):l[j]?≠some (some q):=λp=>by
 have P:=List.pairwise_iff_getElem.1 h;obtain⟨a1,a2⟩:=jck.1 f;obtain⟨a,d⟩:=jck.1 p;rcases Nat.lt_or_gt_of_ne e with q|q
 ·exact P i j a1 a q _ a2 d
 exact P j i a a1 q _ d a2
theorem qja.ses (h:qja w0 b n c k m M Gs w) (u:w2=(w.nu (jr qez (.slice none 0 0)).toArray T).alloc o)
 (own:wE.ownsRow 0 87 1 (.slice (PT g) (m+1) cap) (m+1) (qgn M.bs m++[PP w.heap.size])) (d:w2.grownBy wE M.cv.ownBlock) (A:M.cv.ownBlock=some g\/g=w2.heap.size):
 qja w0 b n c k (m+1) {M with cv:=.slice (PT g) (m+1) cap,bs:=λj=>if j=m then w.heap.size else M.bs j} (λj=>if j=k+m then (λq=>q=w.heap.size)else Gs j) (wE.setCell (AD b 2) (.slice (PT g) (m+1) cap)):=by
 have E:Bw w (w.nu (jr qez (.slice none 0 0)).toArray T):=boxed (jcc _ w) _
 have v:Bw w w2:=by rw[u];exact boxed E _
 have s2:w2.heap.size=w.heap.size+2:=by rw[u];simp
 have L:=d.size
 have f:(wE.setCell (AD b 2) (.slice (PT g) (m+1) cap)).heap.size=wE.heap.size:=by simp[World.setCell]
 have N:=h.box.lt;have cb:M.cv.ownBlock≠some b:=λe=>qpw h.ap (i:=0) (j:=3) (q:=b) (by decide) rfl (by show some M.cv.ownBlock=_;rw[e]);have lv:∀q,q<w.heap.size->q≠b->M.cv.ownBlock≠some q->(wE.setCell (AD b 2) (.slice (PT g) (m+1) cap)).heap[q]?=w.heap[q]?:=λq F H z=>qo7 v d F H z;have row:∀{j:Nat} (_:j≠0) (_:j≠3) (q:Nat),(vx b M)[j]?=some (some q)->(wE.setCell (AD b 2) (.slice (PT g) (m+1) cap)).heap[q]?=w.heap[q]?:=λ{j} h0 z q e=>lv q (h.ltF q (jcq e)) (λa=>qpw h.ap (i:=0) (j:=j) (q:=b) (λe=>h0 e.symm) rfl (by rw[e,a])) (λa=>qpw h.ap (i:=3) (j:=j) (q:=q) (λe=>z e.symm) (by show some M.cv.ownBlock=_;rw[a]) e)
 have I:g≠b:=λe=>by
  rcases A with q|q
  ·exact cb (by rw[q,e])
  omega
 have nv:∀q,(Value.slice (PT g) (m+1) cap).ownBlock=some q->M.cv.ownBlock=some q\/w.heap.size+2<=q:=λq e=>by
  have J:g=q:=jcu e;subst J;exact A.imp id (λq=>by omega)
 have B:∀q,ql b {M with cv:=.slice (PT g) (m+1) cap,bs:=λj=>if j=m then w.heap.size else M.bs j} q->ql b M q\/(w.heap.size+2<=q/\q<wE.heap.size):=λq e=>by
  have e:some q∈[some b,M.sv.ownBlock,M.wv.ownBlock]++((Value.slice (PT g) (m+1) cap).ownBlock::[M.av.ownBlock,M.yv.ownBlock]):=e;rcases jcf.1 e with e|e
  ·exact .inl (List.mem_append_left [M.cv.ownBlock,M.av.ownBlock,M.yv.ownBlock] e)
  rcases jdd.1 e with e|e
  ·exact(nv q e.symm).imp (λr=>by unfold ql vx;rw[r];simp) (λr=>⟨r,(own.lt q e.symm).2⟩)
  exact .inl (List.mem_append_right [some b,M.sv.ownBlock,M.wv.ownBlock] (jdc _ e))
 have O:=h.hb.size;refine⟨?_,qf h.sr (λq e=>row (j:=1) (by decide) (by decide) q (by show some M.sv.ownBlock=_;rw[e])),qf h.wr (λq e=>row (j:=2) (by decide) (by decide) q (by show some M.wv.ownBlock=_;rw[e])),?_,qf h.ar (λq e=>row (j:=4) (by decide) (by decide) q (by show some M.av.ownBlock=_;rw[e])),h.yl,?_,?_,λj q s e=>?_,λq e=>?_,?_⟩
 ·have:=((h.box.later v).grown d (λe=>cb e.symm)).set 2 (.slice (PT g) (m+1) cap) (by simp);exact this
 ·show World.ownsRow _ 0 _ 1 _ (m+1) (qgn (λj=>if j=m then w.heap.size else M.bs j) (m+1));rw[qp5];exact qf own (λq e=>jce _ _ _ _ (λa=>I ((jcu e).trans a)))
 ·have K:RSe (wE.setCell (AD b 2) (.slice (PT g) (m+1) cap)) w.heap.size (λq=>q=w.heap.size) qez:=by
   refine(jaa (w:=w) T).kept (λq e=>?_) (by rw[f];simp;omega);have e:=e;subst e;refine(jce _ _ _ _ (by simp only;omega)).trans ((d.block _ (by omega) (λe=>?_)).trans ?_)
   ·have:=h.ltF w.heap.size (by unfold ql vx;rw[<-e];simp);omega
   rw[u];exact(boxed (jcc _ (w.nu (jr qez (.slice none 0 0)).toArray T)) o).block _ (by simp)
  refine h.fam.snoc (n:=k+m) (G:=λq=>q=w.heap.size) (λj q s e=>lv q ((qcu M k j).lt _ _ (h.fam.is j s) q e) (λa=>(h.fam.free b (by simp[ql,vx])).2 j s (by rw[<-a];exact e)) (λa=>(h.fam.free q (by unfold ql vx;rw[a];simp)).2 j s e)) (by rw[f];omega) ?_ (λq e=>by omega) (λi hi=>?_) (λq e=>?_)
  ·show (qcu _ k (k+m)).is _ _;unfold qcu;rw[if_neg (by omega)];show RSe _ (if k+m-k=m then w.heap.size else M.bs (k+m-k)) _ _;rw[if_pos (by omega)];exact K
  ·unfold qcu;by_cases t:i<k
   ·rw[if_pos t,if_pos t]
   rw[if_neg t,if_neg t];show qjd (if i-k=m then w.heap.size else M.bs (i-k)) _=_;rw[if_neg (by omega)]
  rcases B q e with r|r
  ·have:=h.ltF q r;exact⟨.inl r,by rw[f];omega,λa=>by omega⟩
  exact⟨.inr (by omega),by rw[f];exact r.2,λa=>by omega⟩
 ·refine q4i h.ap 3 (x:=(Value.slice (PT g) (m+1) cap).ownBlock) (λq e=>?_);rcases nv q e with r|r
  ·exact .inl (by show some M.cv.ownBlock=_;rw[r])
  refine .inr (λy C a=>?_);have:=h.ltF q (by rw[a]at C;exact C);omega
 ·have e:=e;by_cases D:j=k+m
  ·rw[if_pos D]at e;omega
  rw[if_neg D]at e;exact h.gs j q (by omega) e
 ·rcases B q e with r|r
  ·exact h.ft q r
  omega
 exact((qa h.hb v).grown d (by omega) (λq e=>h.ft q (by unfold ql vx;rw[<-e];simp))).setCell (p:=AD b 2) (h.ft b (by simp[ql,vx])) _
theorem qja.done (h:qja w0 b n c n c M Gs w):RW w b (qg6 b M (n+c) Gs) (qcb n c)/\∀q,qg6 b M (n+c) Gs q->w0.heap.size<=q:=by
 obtain⟨f,a,p⟩:=h.yl;refine⟨⟨M,Gs,⟨h.box,h.sr,h.wr,h.cr,h.ar,?_,by rw[a];rfl,λx d=>(by rw[a]at d;cases d),?_,h.ap⟩,λ_=>jdl⟩,λq r=>r.elim (h.ft q) (λ⟨j,s,e⟩=>h.gs j q s e)⟩
 ·rw[f,a];exact jcx _ _ _ _
 have:qdm M (qcb n c)=qcu M n:=by
  funext i
  unfold qdm qcu;rw[p];rfl
 rw[this];exact h.fam
theorem qja.first {g g':Nat} (a:qd w b [.slice none 0 0,.slice (PT g) n n,.slice none 0 0,.slice (PT g') c c,.slice none 0 0,U 0]) (d:w.ownsRow 0 3 1 (.slice (PT g) n n) n (qdw (λ_=>0) n)) (f:w.ownsRow 0 3 1 (.slice (PT g') c c) c (qdw (λ_=>0) c)) (a1:g≠g') (a2:g≠b) (a3:g'≠b) (f1:w0.heap.size<=g) (r:w0.heap.size<=g') (s:w0.heap.size<=b) (p:Bw w0 w):
 qja w0 b n c 0 0 ⟨.slice none 0 0,.slice (PT g) n n,.slice none 0 0,.slice (PT g') c c,.slice none 0 0,λ_=>0,λ_=>0,λ_ _=>none,[]⟩ (λ_ _=>False) w:=by
 have h:∀q,ql b ⟨.slice none 0 0,.slice (PT g) n n,.slice none 0 0,.slice (PT g') c c,.slice none 0 0,λ_=>0,λ_=>0,λ_ _=>none,[]⟩ q->q=b\/q=g\/q=g':=λq e=>by
  have e:some q∈[some b,none,some g,none,some g',none]:=e;simpa using e
 refine⟨a,jcx _ _ _ _,d,jcx _ _ _ _,f,⟨rfl,rfl,rfl⟩,⟨λi hi=>by omega,λi j q hi=>by omega,λq e=>⟨?_,λi hi=>by omega⟩,λq e=>e.elim⟩,?_,λj q t=>by omega,λq e=>?_,p⟩
 ·rcases h q e with e|e|e
  ·rw[e];exact a.lt
  ·rw[e];exact(d.lt g rfl).2
  rw[e];exact(f.lt g' rfl).2
 ·show [some b,none,some g,none,some g',none].Pairwise _;simp;omega
 rcases h q e with e|e|e<;>omega
end
end
theorem qro (x:Nat->Int) (y:Int) {i:Nat} (n:Nat) (hi:i<n):(qdw x n).set i (U y)=qdw (jj x i y) n:=by
 refine List.ext_getElem? λj=>?_;rw[List.getElem?_set];have c:=qlj x n;by_cases a:j<n
 ·rw[qie a (x:=jj x i y)];by_cases q:i=j
  ·subst q;rw[if_pos rfl,if_pos (by omega),qt]
  rw[if_neg q,qie a,yq _ _ (λe=>q e.symm)]
 rw[List.getElem?_eq_none (l:=qdw (jj x i y) n) (by rw[qlj];omega),if_neg (by omega)];exact List.getElem?_eq_none (by omega)
section
variable {w:World} {b g cc i:Nat} {M:RoM} {W:WoS} {Gs:Nat->Nat->Prop}
theorem RWo.setAt (h:RWo w b M W Gs) (l:M.av=.slice (PT g) W.c cc) (hi:i<W.c) (x:Nat):RWo (w.setCell (AD g i) (U x)) b M {W with at_:=jj W.at_ i x} Gs/\qc (λk=>k=g) w (w.setCell (AD g i) (U x)):=by
 have r:M.av.ownBlock=some g:=by rw[l];rfl
 have m:(vx b M)[4]?=some (some g):=by show some M.av.ownBlock=_;rw[r]
 have n:∀k,k≠g->(w.setCell (AD g i) (U x)).heap[k]?=w.heap[k]?:=λk d=>jce _ _ _ _ (λe=>d e)
 have f:(w.setCell (AD g i) (U x)).heap.size=w.heap.size:=by simp[World.setCell]
 have row:∀{j:Nat} (_:j≠4) (q:Nat),(vx b M)[j]?=some (some q)->(w.setCell (AD g i) (U x)).heap[q]?=w.heap[q]?:=λ{j} a q e=>n q (λt=>qpw h.ap (i:=4) (j:=j) (λe=>a e.symm) m (by rw[e,t]));have gf:ql b M g:=jcq m;have p:=λj k a e=>n k (λq=>(h.fam.free g gf).2 j a (by rw[<-q];exact e));refine⟨⟨h.box.kept (row (j:=0) (by decide) b rfl) (by rw[f];exact jcd _),qf h.sr (λq e=>row (j:=1) (by decide) q (by show some M.sv.ownBlock=_;rw[e])),qf h.wr (λq e=>row (j:=2) (by decide) q (by show some M.wv.ownBlock=_;rw[e])),qf h.cr (λq e=>row (j:=3) (by decide) q (by show some M.cv.ownBlock=_;rw[e])),?_,qf h.yr (λq e=>row (j:=5) (by decide) q (by show some M.yv.ownBlock=_;rw[e])),h.nl,λy u=>(h.gr y u).tj (λj k o a e=>⟨e,(h.site a).frozen e,(p j k (by omega) ((h.site a).frozenG e)).trans ((h.site a).frozen e)⟩),h.fam.tj p (by rw[f];exact jcd _) (λk d=>⟨.inl d,by rw[f];exact h.ltF k d⟩),h.ap⟩,qc.setCell _ _ _ rfl⟩;have o:=h.ar;rw[l]at o ⊢;have s:=(o.stored i (U x)).1;rw[qro _ _ _ hi]at s
 have e:(λk=>((jj W.at_ i x k:Nat):Int))=jj (λk=>(W.at_ k:Int)) i (x:Int):=by
  funext k
  unfold jj
  split<;>rfl
 show World.ownsRow _ 0 _ 1 _ W.c (qdw (λk=>((jj W.at_ i x k:Nat):Int)) W.c);rw[e];exact s
theorem RWo.setWall (h:RWo w b M W Gs) (f:M.wv=.slice (PT g) W.n cc) (hi:i<W.n) (x:Int):RWo (w.setCell (AD g i) (U x)) b M {W with wall:=jj W.wall i x} Gs/\qc (λk=>k=g) w (w.setCell (AD g i) (U x)):=by
 have r:M.wv.ownBlock=some g:=by rw[f];rfl
 have l:(vx b M)[2]?=some (some g):=by show some M.wv.ownBlock=_;rw[r]
 have m:∀k,k≠g->(w.setCell (AD g i) (U x)).heap[k]?=w.heap[k]?:=λk c=>jce _ _ _ _ (λe=>c e)
 have d:(w.setCell (AD g i) (U x)).heap.size=w.heap.size:=by simp[World.setCell]
 have row:∀{j:Nat} (_:j≠2) (q:Nat),(vx b M)[j]?=some (some q)->(w.setCell (AD g i) (U x)).heap[q]?=w.heap[q]?:=λ{j} a q e=>m q (λt=>qpw h.ap (i:=2) (j:=j) (λe=>a e.symm) l (by rw[e,t]));have gf:ql b M g:=jcq l;have p:=λj k a e=>m k (λq=>(h.fam.free g gf).2 j a (by rw[<-q];exact e));refine⟨⟨h.box.kept (row (j:=0) (by decide) b rfl) (by rw[d];exact jcd _),qf h.sr (λq e=>row (j:=1) (by decide) q (by show some M.sv.ownBlock=_;rw[e])),?_,qf h.cr (λq e=>row (j:=3) (by decide) q (by show some M.cv.ownBlock=_;rw[e])),qf h.ar (λq e=>row (j:=4) (by decide) q (by show some M.av.ownBlock=_;rw[e])),qf h.yr (λq e=>row (j:=5) (by decide) q (by show some M.yv.ownBlock=_;rw[e])),h.nl,λy u=>(h.gr y u).tj (λj k o a e=>⟨e,(h.site a).frozen e,(p j k (by omega) ((h.site a).frozenG e)).trans ((h.site a).frozen e)⟩),h.fam.tj p (by rw[d];exact jcd _) (λk c=>⟨.inl c,by rw[d];exact h.ltF k c⟩),h.ap⟩,qc.setCell _ _ _ rfl⟩;have o:=h.wr;rw[f]at o ⊢;have s:=(o.stored i (U x)).1;rw[qro _ _ _ hi]at s;exact s
end
end Go.Proofs.YtoanjdndmlffdaaGreatDoor
