import Derived.Test.YtbfkeoagmajcpaaGreatDoorSiteC
set_option maxHeartbeats 16000000
set_option maxRecDepth 100000
set_option linter.defProp false
namespace Go.Proofs.YtbfkeoagmajcpaaGreatDoor
open Go.RowKit
variable {A B b n:Nat} {G Y:Np} {L R R':List UInt8} {S:qe} {W:WoS} {l:List Wr} {p:qfr} {s:qy} {w w':Wl} {z:Nat->Np}
section
open _root_.Go.Proofs.Tryz
def qbm.nonneg {c:Int} {R a:List UInt8} {d e:Bool} {v:Int} (h:qbm c R d v a e):0<=v:=by
 obtain⟨h,_,_⟩|⟨_,h,_⟩:=h.2
 .exact(qlk 5 R v a h).1.1
 omega
structure qer (w:Wl) (b:Nat) (key:Int) (data:By) (gone:Bool):Prop where
 c0:w.cell? (AD b 0)=some (U key)
 c1:w.cell? (AD b 1)=some (.string data)
 c2:w.cell? (AD b 2)=some (.bool gone)
 f0:w.frozen? (AD b 0)=false
 f1:w.frozen? (AD b 1)=false
 f2:w.frozen? (AD b 2)=false
def qer.lt {a:Int} {data:By} {gone:Bool} (h:qer w b a data gone):b<w.heap.size:=jcr _ _ h.c0
def qer.kept {a:Int} {data:By} {gone:Bool} (h:qer w b a data gone) (e:w'.heap[b]?=w.heap[b]?):qer w' b a data gone:=by
 constructor
 .rw[jch (w:=w) e];exact h.c0
 .rw[jch (w:=w) e];exact h.c1
 .rw[jch (w:=w) e];exact h.c2
 .rw[jcp (w:=w) e];exact h.f0
 .rw[jcp (w:=w) e];exact h.f1
 rw[jcp (w:=w) e];exact h.f2
def qer.only {a:Nat} {e:Int} {data:By} {gone:Bool} (h:qer w b e data gone) (c:yu a w w') (d:b≠a):qer w' b e data gone:=
 h.kept (c.block b h.lt (λx=>by injection x with x;exact d x))
def qer.far {d:Int} {data:By} {gone:Bool} (h:qer w b d data gone) (p:Addr) (u:Vl) (a:p.block≠b):qer (w.setCell p u) b d data gone:=
 h.kept (jce _ _ _ _ (Ne.symm a))
def qer.boxed {a:Int} {data:By} {gone:Bool} (h:qer w b a data gone) (o:Obj):qer (w.alloc o) b a data gone:=
 h.kept (jdg _ _ _ h.lt)
def qer.new {T:Tp} {n:Nat} {key:Int} {data:By} {gone:Bool} (a:w.heap.size=n):qer (w.alloc (.cells #[U key,.string data,.bool gone] T)) n key data gone:=by
 subst a;constructor<;>go_simp
def qer.set0 {a:Int} {data:By} {gone:Bool} (h:qer w b a data gone) (x:Int):qer (w.setCell (AD b 0) (U x)) b x data gone:=
 ⟨jc8 _ _ _ h.c0,(jco _ _ _ _ oi).trans h.c1,(jco _ _ _ _ oi).trans h.c2,(jcm _ _ _ _).trans h.f0,(jcm _ _ _ _).trans h.f1,(jcm _ _ _ _).trans h.f2⟩
def qer.set1 {a:Int} {data:By} {gone:Bool} (h:qer w b a data gone) (x:By):qer (w.setCell (AD b 1) (.string x)) b a x gone:=
 ⟨(jco _ _ _ _ oi).trans h.c0,jc8 _ _ _ h.c1,(jco _ _ _ _ oi).trans h.c2,(jcm _ _ _ _).trans h.f0,(jcm _ _ _ _).trans h.f1,(jcm _ _ _ _).trans h.f2⟩
def qer.set2 {a:Int} {data:By} {gone:Bool} (h:qer w b a data gone) (x:Bool):qer (w.setCell (AD b 2) (.bool x)) b a data x:=
 ⟨(jco _ _ _ _ oi).trans h.c0,(jco _ _ _ _ oi).trans h.c1,jc8 _ _ _ h.c2,(jcm _ _ _ _).trans h.f0,(jcm _ _ _ _).trans h.f1,(jcm _ _ _ _).trans h.f2⟩
def ql5 (R:List UInt8) (wrong:Bool) (key:Int) (data:By) (gone:Bool) (R':List UInt8) (wrong':Bool):Prop:=
 ∃R0 x0 R1 x1 R2 x2 g n,qbm 7 R wrong key R0 x0/\qbm 1 R0 x0 g R1 x1/\gone=(g==1)/\qbm 12 R1 x1 n R2 x2/\qkz R2 x2 n data R' wrong'
def q2e (R:List UInt8) (wrong:Bool) (rb:Nat) (w:Wl) (key:Int) (data:By) (gone:Bool) (w':Wl):Prop:=
 ∃R' wrong',ql5 R wrong key data gone R' wrong'/\Rd w' rb R' wrong'/\yu rb w w'
def q3e (d:Nat) (R:List UInt8) (j:Bool) (w:Wl) (x:Rd w d R j) (S:R.length<=1000000):
 Ca 197 #[PP d] w λe w'=>
  ∃A data gone,e=.returned (.agg #[U A,.string data,.bool gone])/\q2e R j d w A data gone w':=by
 have V:=x.lt;have h:w.heap.size+1≠d:=oe;have i:w.heap.size≠d:=oe;have a:=(qer.new (T:=127) (key:=0) (data:=⟨#[]⟩) (gone:=false) (Eq.refl w.heap.size)).boxed (.cells #[U 0,.string ⟨#[]⟩,.bool false] 127);have RW:qer ((w.alloc (.cells #[U 0,.string ⟨#[]⟩,.bool false] 127)).alloc (.cells #[U 0,.string ⟨#[]⟩,.bool false] 127)) (w.heap.size+1) 0 ⟨#[]⟩ false:=qer.new oi;have c:yu d w ((w.alloc (.cells #[U 0,.string ⟨#[]⟩,.bool false] 127)).alloc (.cells #[U 0,.string ⟨#[]⟩,.bool false] 127)):=qly (qly (yu.refl _ _));go_enter func197,ntmps197;go_wp2_with fail
 refine(ym d R j 7 _ ((x.alloc _).alloc _)).mono ?_;rintro e W ⟨A,rfl,y,x0,E,k,l⟩;have z:=hd1 E;replace RW:=RW.only l h;replace a:=a.only l i;replace c:=c.trans l (.inl rfl);replace k:=k.far (AD (w.heap.size+1) 0) (U A) (by show d<w.heap.size+1;omega);replace c:=qbf (p:=AD (w.heap.size+1) 0) (v:=U A) c (by show w.heap.size<=w.heap.size+1;omega);have f:=RW.set0 A;replace a:=a.far (AD (w.heap.size+1) 0) (U A) (by show w.heap.size+1≠w.heap.size;omega);have X:=RW.c0;have Y:=RW.f0;go_wp2_with fail
 have RW:=f;refine(ym d y x0 1 _ k).mono ?_;rintro e w2 ⟨g,rfl,B,x1,F,m,o⟩;have C:=hd1 F;replace RW:=RW.only o h;replace a:=a.only o i;replace c:=c.trans o (.inl rfl);obtain⟨gone,G⟩:∃gone:Bool,(g==1)=gone:=⟨_,rfl⟩;replace m:=m.far (AD (w.heap.size+1) 2) (.bool gone) (by show d<w.heap.size+1;omega);replace c:=qbf (p:=AD (w.heap.size+1) 2) (v:=.bool gone) c (by show w.heap.size<=w.heap.size+1;omega);have f:=RW.set2 gone;replace a:=a.far (AD (w.heap.size+1) 2) (.bool gone) (by show w.heap.size+1≠w.heap.size;omega);have Z:=RW.c2;have f2:=RW.f2;go_wp2_with fail
 have RW:=f;have H:=hd1 G;refine(ym d B x1 12 _ m).mono ?_;rintro e w3 ⟨n,rfl,D,x2,I,J,q⟩;have r:=hd1 I;replace RW:=RW.only q h;replace a:=a.only q i;replace c:=c.trans q (.inl rfl);go_wp2_with fail
 refine(qrw d D x2 n _ J r.out.nonneg (by have:=z.out.1;have:=C.out.1;have:=r.out.1;omega)).mono ?_;rintro e w4 ⟨data,rfl,K,x3,L,s,t⟩;have M:=hd1 L;replace RW:=RW.only t h;replace a:=a.only t i;replace c:=c.trans t (.inl rfl);replace s:=s.far (AD (w.heap.size+1) 1) (.string data) (by show d<w.heap.size+1;omega);replace c:=qbf (p:=AD (w.heap.size+1) 1) (v:=.string data) c (by show w.heap.size<=w.heap.size+1;omega);have f:=RW.set1 data;replace a:=a.far (AD (w.heap.size+1) 1) (.string data) (by show w.heap.size+1≠w.heap.size;omega);have N:=((s.far (AD w.heap.size 0) (U A) (by show d<w.heap.size;omega)).far (AD w.heap.size 1) (.string data) (by show d<w.heap.size;omega)).far (AD w.heap.size 2) (.bool gone) (by show d<w.heap.size;omega);replace c:=qbf (p:=AD w.heap.size 2) (v:=.bool gone) (qbf (p:=AD w.heap.size 1) (v:=.string data) (qbf (p:=AD w.heap.size 0) (v:=U A) c (jcd _)) (jcd _)) (jcd _);have u:=((a.set0 A).set1 data).set2 gone;have c1:=RW.c1;have f1:=RW.f1;have e0:=f.c0;have e1:=f.c1;have e2:=f.c2;have k0:=a.c0;have k1:=a.c1;have k2:=a.c2;have g0:=a.f0;have g1:=a.f1;have g2:=a.f2;go_wp2_with fail
 have O:=u.c0;have P:=u.c1;have Q:=u.c2;exact bodyPost_ret (v:=.agg #[U A,.string data,.bool gone]) (by simp[results,results197,go_sem,O,P,Q]) rfl ⟨A,data,gone,rfl,K,x3,⟨y,x0,B,x1,D,x2,g,n,z.out,C.out,H.out.symm,r.out,M.out⟩,N,c⟩
variable {v:Int}
def qbm.sound {c:Int} {d e:Bool} (h:qbm c R d v R' e) (f:e=false):d=false/\(0<=v/\v<=c)/\R=qbs 5 v++R':=by
 obtain⟨g,i,b⟩|⟨_,_,b⟩:=h.2
 .obtain⟨⟨s0,_⟩,s1⟩:=qlk 5 R v R' g;exact⟨by rw[<-b];exact f,⟨s0,i⟩,s1⟩
 rw[f]at b;cases b
def qbm.full {c:Int} {d f:Bool} {n:Int} {r:List UInt8} (h:qbm c R d v R' f) (g:d=false) (i:R=qbs 5 n++r) (j:0<=n) (k:n<=c) (m:c<=1099511627776):v=n/\R'=r/\f=false:=by
 have e:=qtf 5 n r j (by rw[jar];omega);rw[<-i]at e;obtain⟨b,_,l⟩|⟨b,_,_⟩:=h.2
 .rw[e]at b;injection b with b;injection b with h4 h5;exact⟨h4.symm,h5.symm,by rw[l,g]⟩
 exact absurd k (b n r e)
def qsj (R:List UInt8) (wrong:Bool) (c:UInt8) (R':List UInt8) (wrong':Bool):Prop:=(wrong'=false↔wrong=false/\R=c::R')/\R'.length<=R.length/\(∀r,R=c::r->R'=r)
def qkd {b:Bool}:ql0 R b=true↔b=false/\R=[]:=by cases b<;>simp[ql0]
def q22 {q r t u x g:List UInt8} {x0 x1 x2 x3 z i:Bool} {j k l m o:Int} (p:qsj L false 97 q x0) (A:qbm 3 q x0 j r x1) (B:qbm 1099511627776 r x1 k t x2) (C:qbm 1099511627776 t x2 l u x3) (D:qbm 1099511627776 u x3 m x z) (E:qbm 1099511627776 x z o g i):
 (ql0 g i=true->qdj L ⟨j,k,l,m,o⟩)/\(∀y,qdj L y->ql0 g i=true):=by
 constructor
 .intro h;obtain⟨H,I⟩:=qkd.1 h;obtain⟨J,b,K⟩:=E.sound H;obtain⟨M,c,N⟩:=D.sound J;obtain⟨O,d,P⟩:=C.sound M;obtain⟨Q,f,S⟩:=B.sound O;obtain⟨T,bs,V⟩:=A.sound Q;obtain⟨_,W⟩:=p.1.1 T;refine⟨?_,?_⟩
  .simp only[qho.ok,jct,jk,jb,qdz];exact⟨⟨bs.1,bs.2⟩,⟨⟨f,d⟩,c⟩,b⟩
  show toL (q1e j k l m o)=L;rw[qhy,W,V,S,P,N,K,I];rfl
 rintro ⟨s,a0,a1,a2,a3⟩ F;obtain⟨bs,f,d,c,b⟩:=qmo F.1;have e:=F.2.symm.trans (qhy s a0 a1 a2 a3);unfold q1a at e;have G:=p.2.2 _ e;have X:=p.1.2 ⟨rfl,by rw[G];exact e⟩;obtain⟨_,Y,Z⟩:=A.full X G bs.1 bs.2 oj;obtain⟨_,r2,y2⟩:=B.full Z Y f.1 f.2 oj;obtain⟨_,r3,y3⟩:=C.full y2 r2 d.1 d.2 oj;obtain⟨_,r4,y4⟩:=D.full y3 r3 c.1 c.2 oj;obtain⟨_,r5,y5⟩:=E.full y4 r4 b.1 b.2 oj;exact qkd.2 ⟨y5,r5⟩
variable {a:Oa}
def Rd.new {c T:Nat} (e:w.heap.size=n) (f:L.length<=c) (d:qa5 w n a L):Rd (w.alloc (.cells #[.slice a L.length c,.bool false] T)) n L false:=by
 subst e;refine⟨⟨a,c,o9,f,?_⟩,o9,o9,o9⟩;obtain d|⟨b,o,g,h,i⟩:=d
 .exact .inl d
 refine .inr ⟨b,o,g,h,λj u k=>?_⟩;exact cell_later (boxed (jcc _ _) _) (i j u k)
def qa5.later {c:Nat} (h:qa5 w n a L) (d:Bw w w') (i:n<=c):qa5 w' c a L:=by
 obtain h|⟨b,o,e,k,f⟩:=h
 .exact .inl h
 exact .inr ⟨b,o,e,oe,λj u g=>cell_later d (f j u g)⟩
def qa1 {g:Nat} {W:Wl} (h:Bw W w) (b:yu g w w') (c:W.heap.size<=g):Bw W w':=h.trans (b.below c h.size)
def ja1 (L:List UInt8) (w:Wl) (e:Ending) (w':Wl):Prop:=
 ((∃x:qho,qdj L x/\e=.returned (.tuple #[U x.site,.agg #[U x.a0,U x.a1,U x.a2,U x.a3],.nilIface]))\/
  ((∀x,¬qdj L x)/\e=.returned (.tuple #[U 0,.agg #[U 0,U 0,U 0,U 0],.iface 30 (U 3)])))/\Bw w w'
def qxc (a:Oa) (L:List UInt8) (c:Nat) (w:Wl) (H:qa5 w w.heap.size a L) (I:L.length<=c) (J:L.length<=1000000):
 Ca 163 #[.slice a L.length c] w λe w'=>ja1 L w e w':=by
 have b:=(qo.new w 113 0 0 0 0).boxed (.cells #[.slice a L.length c,.bool false] 246);have D:=Rd.new (w:=w.alloc (.cells #[U 0,U 0,U 0,U 0] 113)) (n:=w.heap.size+1) (T:=246) oi I (H.later (boxed (jcc _ _) _) oe);have d:=boxed (boxed (jcc _ w) (.cells #[U 0,U 0,U 0,U 0] 113)) (.cells #[.slice a L.length c,.bool false] 246);have l:w.heap.size≠w.heap.size+1:=oe;go_enter func163,ntmps163;go_wp2_with fail
 refine(qul (w.heap.size+1) L false 97 _ D J).mono ?_;rintro e w1 ⟨rfl,t,A,u,K,y⟩;have M:Hid (qsj L false 97 t A):=u;replace b:=b.only y l;replace d:=qa1 d y oe;go_wp2_with fail
 refine(ym (w.heap.size+1) t A 3 _ K).mono ?_;rintro e w2 ⟨z,rfl,N,x1,O,P,B⟩;have Q:=hd1 O;replace b:=b.only B l;replace d:=qa1 d B oe;go_wp2_with fail
 refine(qzy (w.heap.size+1) N x1 _ P).mono ?_;rintro e S ⟨g,h,i,j,rfl,R2,x2,R3,x3,R4,x4,C,E,V,W,X,Y,m,F⟩;have G:=hd1 (q22 M.out Q.out V W X Y);replace b:=b.only F l;replace d:=qa1 d F oe;have k:=qo.new S 113 g h i j;replace b:=b.boxed (.cells #[U g,U h,U i,U j] 113);replace m:=m.alloc (.cells #[U g,U h,U i,U j] 113);replace d:=boxed d (.cells #[U g,U h,U i,U j] 113);go_wp2_with fail
 refine(qpy (w.heap.size+1) C E _ m).mono ?_;rintro e w4 ⟨rfl,o⟩;replace b:=b.later o;replace k:=k.later o;replace d:=qa d o;have u:=b.c0;have k1:=b.c1;have k2:=b.c2;have k3:=b.c3;have f0:=b.f0;have f1:=b.f1;have f2:=b.f2;have f3:=b.f3;cases hd:ql0 C E
 .have Z:Hid (∀x,¬qdj L x):=λx hx=>by rw[G.out.2 x hx]at hd;cases hd
  have f:=b.set (x0:=0) (x1:=0) (x2:=0) (x3:=0);go_wp2_with fail
  have p:=f.c0;have q:=f.c1;have r:=f.c2;have s:=f.c3;exact bodyPost_ret (v:=.tuple #[U 0,.agg #[U 0,U 0,U 0,U 0],.iface 30 (U 3)]) (by simp[results,results163,go_sem,p,q,r,s]) rfl ⟨.inr ⟨Z.out,rfl⟩,(((d.setCell (jcd _) _).setCell (jcd _) _).setCell (jcd _) _).setCell (jcd _) _⟩
 have YES:=hd1 (G.out.1 hd);have c0:=k.c0;have c1:=k.c1;have c2:=k.c2;have c3:=k.c3;have f:=b.set (x0:=g) (x1:=h) (x2:=i) (x3:=j);go_wp2_with fail
 go_region
 all_goals (try go_wp2)
 have p:=f.drew.c0;have q:=f.drew.c1;have r:=f.drew.c2;have s:=f.drew.c3;exact bodyPost_ret (v:=.tuple #[U z,.agg #[U g,U h,U i,U j],.nilIface]) (by simp[results,results163,go_sem,p,q,r,s]) rfl ⟨.inl ⟨⟨z,g,h,i,j⟩,YES.out,rfl⟩,((((d.setCell (jcd _) _).setCell (jcd _) _).setCell (jcd _) _).setCell (jcd _) _).drew⟩
end
section
variable {n:Int} {s:By}
def qzd {b c:Bool} (h:qkz R b n s R' c) (d:c=false) (g:0<=n):b=false/\(s.size:Int)=n/\R=toL s++R':=by
 obtain⟨i,e,f,a⟩|⟨_,_,_,a⟩:=h
 .refine⟨by rw[<-a];exact d,?_,by rw[e,f,jds]⟩
  have:(toL s).length=n.toNat:=by rw[e,jc5];omega
  rw[yh]at this;omega
 rw[d]at a;cases a
variable {r:List UInt8}
def q1d {b c:Bool} {d:By} (h:qkz R b n s R' c) (g:b=false) (m:n=(d.size:Int)) (a:R=toL d++r):s=d/\R'=r/\c=false:=by
 have e:(toL d).length=n.toNat:=by rw[yh];omega
 obtain⟨f,i,j,k⟩|⟨f,_,_,_⟩:=h
 .refine⟨qsh ?_,?_,by rw[k,g]⟩
  .rw[i,a,<-e,List.take_left]
  rw[j,a,<-e,List.drop_left]
 rw[a,jcl]at f;omega
def qua {a b:Bool} {C:Int} {data:By} {gone:Bool} (h:ql5 R a C data gone R' b) (d:b=false):a=false/\R=wrL ⟨C,data,gone⟩++R':=by
 obtain⟨y,D,z,E,A,F,g,n,f,i,j,c,t⟩:=h;obtain⟨k,s2,m⟩:=qzd t d c.nonneg;obtain⟨o,_,p⟩:=c.sound k;obtain⟨q,B,u⟩:=i.sound o;obtain⟨e,_,v⟩:=f.sound q;refine⟨e,?_⟩;have w:g=if gone then 1 else 0:=by
  rw[j]
  have:g=0\/g=1:=oe;obtain rfl|rfl:=this<;>rfl
 simp only[wrL,jcy];rw[v,u,p,m,<-w,s2]
def qy8 {a b:Bool} {G:Int} {data:By} {gone:Bool} {y:Wr} (h:ql5 R a G data gone R' b) (f:a=false) (c:R=wrL y++r) (d:0<=y.key/\y.key<=7/\y.data.size<=12):
 (⟨G,data,gone⟩:Wr)=y/\R'=r/\b=false:=by
 obtain⟨B,H,C,I,D,J,g,n,i,j,k,m,t⟩:=h;simp only[wrL,jcy]at c;obtain⟨a0,o,p⟩:=i.full f c d.1 d.2.1 oj;obtain⟨a1,q,u⟩:=j.full p o (by cases y.gone<;>decide) (by cases y.gone<;>decide) oj;obtain⟨a2,v,w⟩:=m.full u q oe oe oj;obtain⟨a3,z,A⟩:=q1d t w a2 v;refine⟨?_,z,A⟩;obtain⟨E,F,e⟩:=y;simp only at a0 a1 a3
 have:gone=e:=by
  rw[k,a1];cases e<;>rfl
 rw[a0,a3,this]
def qs6 {a b:Bool} {m:Int} {data:By} {gone:Bool} (h:ql5 R a m data gone R' b):R'.length<=R.length:=by
 obtain⟨f,o,i,q,j,w,g,n,c,d,k,e,t⟩:=h;have a0:=c.1;have a1:=d.1;have a2:=e.1;have a3:=take_length t;omega
inductive qvx (R:List UInt8) (x:Bool):List Wr->List UInt8->Bool->Prop
 |nil:qvx R x [] R x
 |snoc {l:List Wr} {R1 R2:List UInt8} {x1 x2:Bool} {key:Int} {data:By} {gone:Bool}:qvx R x l R1 x1->ql5 R1 x1 key data gone R2 x2->qvx R x (l++[⟨key,data,gone⟩]) R2 x2
def q06 (l:List Wr) (x:Wr):qhc (l++[x])=qhc l++wrL x:=by simp[qhc]
variable {x x':Bool}
def q4z (h:qvx R x l R' x'):x'=false->x=false/\R=qhc l++R':=by
 induction h with
 |nil=>exact λe=>⟨e,rfl⟩
 |snoc _ hw ih=>
  intro e;obtain⟨a,b⟩:=qua hw e;obtain⟨c,d⟩:=ih a;exact⟨c,by rw[d,b,q06,jcy]⟩
def q87 {m:List Wr} (h:qvx R x l R' x') (g:x=false) (i:R=qhc m++r) (j:∀y∈m,0<=y.key/\y.key<=7/\y.data.size<=12):
 l.length<=m.length->l=m.take l.length/\R'=qhc (m.drop l.length)++r/\x'=false:=by
 induction h with
 |nil=>exact λ_=>⟨oi,by simpa using i,g⟩
 |@snoc l R1 R2 x1 x2 key data gone _ hw ih=>
  intro k;rw[jcl,List.length_singleton]at k ⊢;obtain⟨o,f,p⟩:=ih oe;have d:l.length<m.length:=oe;have e:qhc (m.drop l.length)=wrL m[l.length]++qhc (m.drop (l.length+1)):=by
   unfold qhc;rw[jdy d,List.flatMap_cons]
  rw[e,jcy]at f;obtain⟨a,b,c⟩:=qy8 hw p f (j _ (jdr d));refine⟨?_,b,c⟩;rw[a,jc1 d,<-o]
def q2u (h:qvx R x l R' x'):R'.length<=R.length:=by
 induction h with
 |nil=>exact jcd _
 |snoc _ hw ih=>exact jcn (qs6 hw) ih
def q5s {L A B C D E F G H I J a:List UInt8} {x0 x1 x2 x3 K M N O P Q b:Bool} {c d wall f g i j k S:Int}
 (o:qsj L false 116 A x0) (T:qbm 3 A x0 c B x1) (V:qbm 1099511627776 B x1 d C x2) (W:qbm 1099511627776 C x2 wall D x3) (X:qbm 1099511627776 D x3 f E K)
 (Y:qbm 1099511627776 E K g F M) (Z:qbm 1099511627776 F M i G N) (h7:qbm 1099511627776 G N j H O) (h8:qbm 1099511627776 H O k I P) (h9:qbm 5 I P S J Q) (hW:qvx J Q l a b) (hl:(l.length:Int)=S):
 (ql0 a b=true->toL (txS c d wall f g i j k l)=L)/\(∀y,ql3 L y->ql0 a b=true/\y=⟨c,d,wall,f,g,i,j,k,l⟩):=by
 constructor
 .intro h;obtain⟨hx,hR⟩:=qkd.1 h;obtain⟨e9,q10⟩:=q4z hW hx;obtain⟨e8,_,q9⟩:=h9.sound e9;obtain⟨e7,_,q8⟩:=h8.sound e8;obtain⟨e6,_,q7⟩:=h7.sound e7;obtain⟨e5,_,q6⟩:=Z.sound e6;obtain⟨e4,_,q5⟩:=Y.sound e5;obtain⟨e3,_,q4⟩:=X.sound e4;obtain⟨e2,_,q3⟩:=W.sound e3;obtain⟨e1,_,q2⟩:=V.sound e2;obtain⟨e0,_,q1⟩:=T.sound e1;obtain⟨_,qk⟩:=o.1.1 e0;rw[qkb,qk,q1,q2,q3,q4,q5,q6,q7,q8,q9,q10,hR,hl,jdx];rfl
 rintro ⟨s,q,wl,ct,a0,a1,a2,a3,m⟩ hy;obtain⟨bs,bq,p,t,u,v,w,z,bm⟩:=qlw hy.1;simp only at bs bq p t u v w z bm;have hlen:=qjz bm;have e:=hy.2.symm.trans (qkb s q wl ct a0 a1 a2 a3 m);unfold qrk at e;have r0:=o.2.2 _ e;have y0:=o.1.2 ⟨rfl,by rw[r0];exact e⟩;obtain⟨z1,r1,y1⟩:=T.full y0 r0 bs.1 bs.2 oj;obtain⟨z2,r2,y2⟩:=V.full y1 r1 oe bq.2 oj;obtain⟨z3,r3,y3⟩:=W.full y2 r2 p.1 p.2 oj;obtain⟨z4,r4,y4⟩:=X.full y3 r3 t.1 t.2 oj;obtain⟨z5,r5,y5⟩:=Y.full y4 r4 u.1 u.2 oj;obtain⟨z6,r6,y6⟩:=Z.full y5 r5 v.1 v.2 oj;obtain⟨z7,r7,y7⟩:=h7.full y6 r6 w.1 w.2 oj;obtain⟨z8,r8,y8⟩:=h8.full y7 r7 z.1 z.2 oj;obtain⟨z9,r9,y9⟩:=h9.full y8 r8 oe oe oj;have hlm:l.length=m.length:=oe;obtain⟨w1,w2,w3⟩:=q87 (m:=m) (r:=[]) hW y9 (by simpa using r9) (qob bm) oe;have hlm2:l=m:=by rw[hlm,jc9]at w1;exact w1
 refine⟨qkd.2 ⟨w3,?_⟩,?_⟩
 .rw[w2,hlm,List.drop_length];rfl
 rw[z1,z2,z3,z4,z5,z6,z7,z8,hlm2]
end
section
open _root_.Go.Proofs.Tryz
def Rd.drew {a:Bool} (h:Rd w A R a):Rd w.drew A R a:=h.kept λ_ _=>rfl
def Rd.grown {f:Bool} {r:Option Nat} (h:Rd w A R f) (g:w.grownBy w' r) (i:∀k,r=some k->A<k):Rd w' A R f:=by
 obtain⟨a,c,m,p,d⟩:=h.rest;have e:=g.block A h.lt (λx=>by have:=i A x.symm;omega);refine⟨⟨a,c,by rw[jch (w:=w) e];exact m,p,?_⟩,by rw[jch (w:=w) e];exact h.c1,by rw[jcp (w:=w) e];exact h.f0,by rw[jcp (w:=w) e];exact h.f1⟩;obtain d|⟨b,o,q,s,t⟩:=d
 .exact .inl d
 refine .inr ⟨b,o,q,s,λj u y=>?_⟩;have l:=t j u y;rw[jch (w:=w) (g.block b (jcr _ _ l) (λx=>by have:=i b x.symm;omega))];exact l
variable {T:Tp} {v:Vl} {xs:Lv}
def q6n (h:w.ownsRow B T 3 v n xs) (a:yu A w w') (b:A<B):w'.ownsRow B T 3 v n xs:=by
 refine h.kept a ?_;cases hv:v.ownBlock with
 |none=>exact .inl rfl
 |some k=>
  refine .inr (λe=>?_);injection e with e;have:=(h.lt k hv).1;omega
def qq3 (h:w.ownsRow B T 3 v n xs) (a:Bw w w'):w'.ownsRow B T 3 v n xs:=
 h.kept (row:=none) ⟨a.os,a.tape,a.output,a.size,λk b _=>a.block k b⟩ (by cases v.ownBlock<;>simp)
def qlm (h:w.ownsRow B T 3 v n xs):∀k,v.ownBlock=some k->B<=k:=λk a=>(h.lt k a).1
def q35:(prog.info? 127).map (λi=>(i.zero,i.size,i.bytes))=some (some (.agg #[U 0,.string ⟨#[]⟩,.bool false]),3,32):=oh
def txA (site seq wall count d0 d1 d2 d3:Int) (v:Vl):Lv:=[U site,U seq,U wall,U count,U d0,U d1,U d2,U d3,v]
def jbi (L:List UInt8) (w:Wl) (e:Ending) (w':Wl):Prop:=
 ((∃(x:TxV) (a:Oa) (cap:Nat),ql3 L x/\qr w' a cap x.l/\e=.returned (.tuple #[.agg (List.toArray (T9 x.site x.seq x.wall x.count x.d0 x.d1 x.d2 x.d3 a x.l.length cap)),.nilIface]))\/
  ((∀x,¬ql3 L x)/\e=.returned (.tuple #[.agg ZA,.iface 30 (U 3)])))/\Bw w w'
def qjt {tmps:Av} {b:Nat} {d e f g i j k l m V:Vl} (h:qd w b [d,e,f,g,i,j,k,l,m]) (o:tmps[2]?=some (.pointer (some ⟨b,0,none⟩))) (p:tmps[3]?=some V)
 (p0:∃n,d=U n) (p1:∃n,e=U n) (p2:∃n,f=U n) (p3:∃n,g=U n) (q:∃n,i=U n) (r:∃n,j=U n) (s:∃n,k=U n) (t:∃n,l=U n) (u:∃a n c,m=.slice a n c):
 (results f161 tmps).run prog w=.ok (.tuple #[.agg #[d,e,f,g,i,j,k,l,m],V]) w:=by
 obtain⟨I,rfl⟩:=p0;obtain⟨J,rfl⟩:=p1;obtain⟨K,rfl⟩:=p2;obtain⟨L,rfl⟩:=p3;obtain⟨M,rfl⟩:=q;obtain⟨N,rfl⟩:=r;obtain⟨O,rfl⟩:=s;obtain⟨P,rfl⟩:=t;obtain⟨a,n,c,rfl⟩:=u;obtain⟨x,y,z,C,D,E,F,G,H⟩:=h.c9;simp[results,results161,go_sem,o,p,x,y,z,C,D,E,F,G,H]
def qq5 (a:Oa) (L:List UInt8) (c:Nat) (w:Wl) (hB:qa5 w w.heap.size a L) (hc:L.length<=c) (hl:L.length<=1000000):
 Ca 161 #[.slice a L.length c] w λe w'=>jbi L w e w':=by
 have q:=(qd.new (w:=w) (T:=122) ZL rfl).boxed (.cells #[.slice a L.length c,.bool false] 246);have D:=Rd.new (w:=w.alloc (.cells ZA 122)) (n:=w.heap.size+1) (T:=246) oi hc (hB.later (boxed (jcc _ _) _) oe);have r:=boxed (boxed (jcc _ w) (.cells ZA 122)) (.cells #[.slice a L.length c,.bool false] 246);have P:w.heap.size≠w.heap.size+1:=oe;go_enter func161,ntmps161;go_wp2_with fail
 refine(qul (w.heap.size+1) L false 116 _ D hl).mono ?_;rintro e b ⟨rfl,R0,x0,Y,D0,y0⟩;have K0:Hid (qsj L false 116 R0 x0):=Y;replace q:=(q.only y0 P).boxed (.cells ZA 122);replace r:=boxed (qa1 r y0 oe) (.cells ZA 122);replace D0:=D0.alloc (.cells ZA 122);have o:=qd.new (w:=b) (T:=122) ZL rfl;have hlt:w.heap.size+1<b.heap.size:=by have:=y0.size;simp at this;omega
 have Q:b.heap.size≠w.heap.size+1:=oe;clear Y y0 D;go_wp2_with fail
 refine(ym (w.heap.size+1) R0 x0 3 _ D0).mono ?_;rintro e w2 ⟨C,rfl,R1,x1,n1,D1,y1⟩;have N1:=hd1 n1;replace q:=q.only y1 P;replace o:=o.only y1 Q;replace r:=qa1 r y1 oe;clear n1 y1 D0;have c0:=o.c 0;have f0:=o.f 0;replace q:=q.far ⟨b.heap.size,0,none⟩ (U C) (by show b.heap.size≠w.heap.size;omega);replace o:=o.set 0 (U C) oi;replace r:=r.setCell (p:=⟨b.heap.size,0,none⟩) (by show w.heap.size<=b.heap.size;omega) (U C);replace D1:=D1.far ⟨b.heap.size,0,none⟩ (U C) (by show w.heap.size+1<b.heap.size;omega);go_wp2_with fail
 clear c0 f0;refine(ym (w.heap.size+1) R1 x1 1099511627776 _ D1).mono ?_;rintro e w3 ⟨E,rfl,R2,x2,n2,D2,y2⟩;have N2:=hd1 n2;replace q:=q.only y2 P;replace o:=o.only y2 Q;replace r:=qa1 r y2 oe;clear n2 y2 D1;have c1:=o.c 1;have f1:=o.f 1;replace q:=q.far ⟨b.heap.size,1,none⟩ (U E) (by show b.heap.size≠w.heap.size;omega);replace o:=o.set 1 (U E) oi;replace r:=r.setCell (p:=⟨b.heap.size,1,none⟩) (by show w.heap.size<=b.heap.size;omega) (U E);replace D2:=D2.far ⟨b.heap.size,1,none⟩ (U E) (by show w.heap.size+1<b.heap.size;omega);go_wp2_with fail
 clear c1 f1;refine(ym (w.heap.size+1) R2 x2 1099511627776 _ D2).mono ?_;rintro e w4 ⟨wall,rfl,R3,x3,n3,D3,y3⟩;have N3:=hd1 n3;replace q:=q.only y3 P;replace o:=o.only y3 Q;replace r:=qa1 r y3 oe;clear n3 y3 D2;have c2:=o.c 2;have f2:=o.f 2;replace q:=q.far ⟨b.heap.size,2,none⟩ (U wall) (by show b.heap.size≠w.heap.size;omega);replace o:=o.set 2 (U wall) oi;replace r:=r.setCell (p:=⟨b.heap.size,2,none⟩) (by show w.heap.size<=b.heap.size;omega) (U wall);replace D3:=D3.far ⟨b.heap.size,2,none⟩ (U wall) (by show w.heap.size+1<b.heap.size;omega);go_wp2_with fail
 clear c2 f2;refine(ym (w.heap.size+1) R3 x3 1099511627776 _ D3).mono ?_;rintro e w5 ⟨F,rfl,R4,x4,n4,D4,y4⟩;have N4:=hd1 n4;replace q:=q.only y4 P;replace o:=o.only y4 Q;replace r:=qa1 r y4 oe;clear n4 y4 D3;have c3:=o.c 3;have f3:=o.f 3;replace q:=q.far ⟨b.heap.size,3,none⟩ (U F) (by show b.heap.size≠w.heap.size;omega);replace o:=o.set 3 (U F) oi;replace r:=r.setCell (p:=⟨b.heap.size,3,none⟩) (by show w.heap.size<=b.heap.size;omega) (U F);replace D4:=D4.far ⟨b.heap.size,3,none⟩ (U F) (by show w.heap.size+1<b.heap.size;omega);go_wp2_with fail
 clear c3 f3;refine(qzy (w.heap.size+1) R4 x4 _ D4).mono ?_;rintro e w6 ⟨G,H,I,J,rfl,R5,x5,R6,x6,R7,x7,R8,x8,m5,m6,m7,m8,M,N⟩;have N5:=hd1 m5;have N6:=hd1 m6;have N7:=hd1 m7;have N8:=hd1 m8;replace q:=q.only N P;replace o:=o.only N Q;replace r:=qa1 r N oe;clear m5 m6 m7 m8 N D4;have c4:=o.c 4;have f4:=o.f 4;have c5:=o.c 5;have f5:=o.f 5;have c6:=o.c 6;have f6:=o.f 6;have c7:=o.c 7;have f7:=o.f 7;replace q:=q.far ⟨b.heap.size,4,none⟩ (U G) (by show b.heap.size≠w.heap.size;omega);replace o:=o.set 4 (U G) oi;replace r:=r.setCell (p:=⟨b.heap.size,4,none⟩) (by show w.heap.size<=b.heap.size;omega) (U G);replace M:=M.far ⟨b.heap.size,4,none⟩ (U G) (by show w.heap.size+1<b.heap.size;omega);replace q:=q.far ⟨b.heap.size,5,none⟩ (U H) (by show b.heap.size≠w.heap.size;omega);replace o:=o.set 5 (U H) oi;replace r:=r.setCell (p:=⟨b.heap.size,5,none⟩) (by show w.heap.size<=b.heap.size;omega) (U H);replace M:=M.far ⟨b.heap.size,5,none⟩ (U H) (by show w.heap.size+1<b.heap.size;omega);replace q:=q.far ⟨b.heap.size,6,none⟩ (U I) (by show b.heap.size≠w.heap.size;omega);replace o:=o.set 6 (U I) oi;replace r:=r.setCell (p:=⟨b.heap.size,6,none⟩) (by show w.heap.size<=b.heap.size;omega) (U I);replace M:=M.far ⟨b.heap.size,6,none⟩ (U I) (by show w.heap.size+1<b.heap.size;omega);replace q:=q.far ⟨b.heap.size,7,none⟩ (U J) (by show b.heap.size≠w.heap.size;omega);replace o:=o.set 7 (U J) oi;replace r:=r.setCell (p:=⟨b.heap.size,7,none⟩) (by show w.heap.size<=b.heap.size;omega) (U J);replace M:=M.far ⟨b.heap.size,7,none⟩ (U J) (by show w.heap.size+1<b.heap.size;omega);go_wp2_with fail
 clear c4 f4 c5 f5 c6 f6 c7 f7;refine(ym (w.heap.size+1) R8 x8 5 _ M).mono ?_;rintro e w7 ⟨nw,rfl,R9,x9,n9,D9,y9⟩;have N9:=hd1 n9;replace q:=q.only y9 P;replace o:=o.only y9 Q;replace r:=qa1 r y9 oe;clear n9 y9 M;have RTX:qd w7 b.heap.size (txA C E wall F G H I J (.slice none 0 0)):=o;have hsz:b.heap.size+1<=w7.heap.size:=o.lt;clear o;have nw0:=N9.out.nonneg;have hlen9:R9.length<=1000000:=by
  have a0:=K0.out.2.1;have a1:=N1.out.1;have a2:=N2.out.1;have a3:=N3.out.1;have a4:=N4.out.1;have a5:=N5.out.1;have a6:=N6.out.1;have a7:=N7.out.1;have a8:=N8.out.1;have a9:=N9.out.1;omega
 obtain⟨m,rfl⟩:∃m:Nat,nw=m:=⟨nw.toNat,oe⟩;have hm5:m<=5:=by
  obtain⟨_,h,_⟩|⟨_,h,_⟩:=N9.out.2<;>omega
 clear nw0;go_wp2_with fail
 go_loopw [30] (λiv wr=>∃(k:Nat) (z:Int) (l:List Wr) (R:List UInt8) (x:Bool) (v:Vl),k<=m/\z=k/\iv=U z/\l.length=k/\qvx R9 x9 l R x/\qd wr b.heap.size (txA C E wall F G H I J v)/\wr.ownsRow (b.heap.size+1) 127 3 v l.length (qcf l)/\Rd wr (w.heap.size+1) R x/\qd wr w.heap.size ZL/\Bw w wr/\b.heap.size+1<=wr.heap.size) (λi _=>m-(intOf i).toNat)
 case atStart=>exact⟨0,0,[],R9,x9,.slice none 0 0,oe,rfl,rfl,rfl,.nil,RTX,jcx _ _ _ _,D9,q,r,hsz⟩
 clear RTX D9 q r hsz;obtain⟨k,z,l,R,x,v,hk,hz,rfl,hlk,hws,o,own,D,q,r,hsz⟩:=hrel;have HWS:=hd1 hws;have HLK:=hd1 hlk;have hl5:l.length<=5:=oe;clear hws hlk;by_cases hlt2:k<m
 .have h1:z<(m:Int):=oe;have h3:0<=z:=oe;have HZ:=hd1 hz;clear hz;have hlenR:=jcn (q2u HWS.out) hlen9;have c8:=o.c 8;obtain⟨i0,hi,hz0,hz1,hz2⟩:=info_parts q35;go_wp2_with fail
  go_region_law (first
   |(refine je rfl 197 #[.pointer (some ⟨w.heap.size+1,0,none⟩)] (by go_simp) (q3e (w.heap.size+1) R x _ D.drew hlenR) ?_
     rintro e w8 ⟨key,data,gone,rfl,R',x',wi,D',N⟩;refine⟨_,rfl,?_⟩;have WI:=hd1 wi;have t:=o.drew.only N Q;have d:=q.drew.only N P;have O:=qa1 r.drew N oe;have Z:=q6n (w:=wr.drew) own N oe;have c8b:=t.c 8;have hlt8:=t.lt;clear wi N)
   |(refine step_append_lies _ rfl (.tmp 33) (.tmp 36) 120 rfl (b.heap.size+1) 127 i0 (.agg #[U 0,.string ⟨#[]⟩,.bool false]) 3 32 underlying120 hi hz0 hz1 hz2 rfl (by decide) v l.length (qcf l) (by simp[Act.eval]) (Z.alloc _) ⟨w8.heap.size,0,none⟩ 1 1 (wrC ⟨key,data,gone⟩) (by simp[Act.eval]) rfl (World.news_of_block (heap_alloc_new w8 (.cells #[U key,.string data,.bool gone] 127))) (by intro u hu;simp[wrC]at hu;rcases hu with rfl|rfl|rfl<;>rfl) (by decide) (by simp only[maxLen];omega) (by omega) (by simp;omega) _ rfl ?_
     intro g cap w9 own9 gr9 eg9 lt9;have RT9:=(t.boxed (.cells #[U key,.string data,.bool gone] 127)).grown gr9 (λe=>by have:=qlm Z _ e.symm;omega);have RV9:=(d.boxed (.cells #[U key,.string data,.bool gone] 127)).grown gr9 (λe=>by have:=qlm Z _ e.symm;omega);have D9:=(D'.alloc (.cells #[U key,.string data,.bool gone] 127)).grown gr9 (λj hj=>by have:=qlm Z _ hj;omega);have K:=(boxed O (.cells #[U key,.string data,.bool gone] 127)).grown gr9 (by have:=O.size;simp;omega) (λj hj=>by have:=qlm Z _ hj;omega);have c8c:=RT9.c 8;have f8c:=RT9.free 8 (by simp[txA])))
  all_goals
   have RT10:qd (w9.setCell ⟨b.heap.size,8,none⟩ (.slice (some ⟨g,0,none⟩) (l.length+1) cap)) b.heap.size (txA C E wall F G H I J (.slice (some ⟨g,0,none⟩) (l.length+1) cap)):=RT9.set 8 (.slice (some ⟨g,0,none⟩) (l.length+1) cap) (by simp[txA]);have RV10:=RV9.far ⟨b.heap.size,8,none⟩ (.slice (some ⟨g,0,none⟩) (l.length+1) cap) (by show b.heap.size≠w.heap.size;omega);have D10:=D9.far ⟨b.heap.size,8,none⟩ (.slice (some ⟨g,0,none⟩) (l.length+1) cap) (by show w.heap.size+1<b.heap.size;omega);have hb10:=K.setCell (p:=⟨b.heap.size,8,none⟩) (by show w.heap.size<=b.heap.size;omega) (.slice (some ⟨g,0,none⟩) (l.length+1) cap);have own10:=ownsRow_setCell_below own9 (a:=⟨b.heap.size,8,none⟩) (by show b.heap.size<b.heap.size+1;omega) (.slice (some ⟨g,0,none⟩) (l.length+1) cap);go_wp2_with fail
   go_roundw
   case rel=>exact⟨k+1,z+1,l++[⟨key,data,gone⟩],R',x',_,oe,oK,oI,by have:=HLK.out;simp;omega,.snoc HWS.out WI.out,RT10,by rw[qkh,jcl];exact own10,D10,RV10,hb10,by have:=RT10.lt;omega⟩
   simp[intOf];omega
 obtain rfl:k=m:=oe;have CH:=hd1 (q5s K0.out N1.out N2.out N3.out N4.out N5.out N6.out N7.out N8.out N9.out HWS.out (by have:=HLK.out;omega));obtain⟨S,V,rfl,X⟩:=qbg own;have OWN:=hd1 own;clear own;go_wp2_with fail
 refine(qpy (w.heap.size+1) R x _ D).mono ?_;rintro e w8 ⟨rfl,O⟩;have d:=q.later O;have t:=o.later O;replace X:=X.later O;replace OWN:Hid (w8.ownsRow (b.heap.size+1) 127 3 (.slice S l.length V) l.length (qcf l)):=qq3 OWN.out O;have W:=qa r O;clear O D q o;cases hd:ql0 R x
 .have NO:Hid (∀y,¬ql3 L y):=λy hy=>by rw[(CH.out.2 y hy).1]at hd;cases hd
  clear hd;have RZ:=(((((((((d.set 0 (U 0) oi).set 1 (U 0) oi).set 2 (U 0) oi).set 3 (U 0) oi).set 4 (U 0) oi).set 5 (U 0) oi).set 6 (U 0) oi).set 7 (U 0) oi).set 8 (.slice none 0 0) oi);have hbZ:=(((((((((W.setCell (p:=⟨w.heap.size,0,none⟩) (jcd _) (U 0)).setCell (p:=⟨w.heap.size,1,none⟩) (jcd _) (U 0)).setCell (p:=⟨w.heap.size,2,none⟩) (jcd _) (U 0)).setCell (p:=⟨w.heap.size,3,none⟩) (jcd _) (U 0)).setCell (p:=⟨w.heap.size,4,none⟩) (jcd _) (U 0)).setCell (p:=⟨w.heap.size,5,none⟩) (jcd _) (U 0)).setCell (p:=⟨w.heap.size,6,none⟩) (jcd _) (U 0)).setCell (p:=⟨w.heap.size,7,none⟩) (jcd _) (U 0)).setCell (p:=⟨w.heap.size,8,none⟩) (jcd _) (.slice none 0 0));have Y:=d.c 0;have g0:=d.f 0;have k1:=d.c 1;have g1:=d.f 1;have k2:=d.c 2;have g2:=d.f 2;have k3:=d.c 3;have g3:=d.f 3;have k4:=d.c 4;have g4:=d.f 4;have k5:=d.c 5;have g5:=d.f 5;have k6:=d.c 6;have g6:=d.f 6;have k7:=d.c 7;have g7:=d.f 7;have k8:=d.c 8;have g8:=d.f 8;go_wp2_with fail
  refine bodyPost_ret (v:=.tuple #[.agg ZA,.iface 30 (U 3)]) (qjt RZ rfl rfl ⟨_,rfl⟩ ⟨_,rfl⟩ ⟨_,rfl⟩ ⟨_,rfl⟩ ⟨_,rfl⟩ ⟨_,rfl⟩ ⟨_,rfl⟩ ⟨_,rfl⟩ ⟨_,_,_,rfl⟩) rfl ⟨.inr ⟨NO.out,rfl⟩,hbZ⟩
 have HD:=hd1 hd;clear hd;obtain⟨c0,c1,c2,c3,c4,c5,c6,c7,c8⟩:=t.c9;cases ho:jt C E wall F G H I J l
 .have NO:Hid (∀y,¬ql3 L y):=λy hy=>by
   have h1:=(CH.out.2 y hy).2;have h2:=hy.1;rw[h1]at h2;rw[show TxV.ok ⟨C,E,wall,F,G,H,I,J,l⟩=jt C E wall F G H I J l from rfl,ho]at h2;cases h2
  have HO:=hd1 ho;clear ho;go_wp2_with fail
  refine(qex X HO.out).mono ?_;rintro e w9 ⟨rfl,K⟩;replace d:=d.later K;replace W:=qa W K;clear K t X c0 c1 c2 c3 c4 c5 c6 c7 c8;have RZ:=(((((((((d.set 0 (U 0) oi).set 1 (U 0) oi).set 2 (U 0) oi).set 3 (U 0) oi).set 4 (U 0) oi).set 5 (U 0) oi).set 6 (U 0) oi).set 7 (U 0) oi).set 8 (.slice none 0 0) oi);have hbZ:=(((((((((W.setCell (p:=⟨w.heap.size,0,none⟩) (jcd _) (U 0)).setCell (p:=⟨w.heap.size,1,none⟩) (jcd _) (U 0)).setCell (p:=⟨w.heap.size,2,none⟩) (jcd _) (U 0)).setCell (p:=⟨w.heap.size,3,none⟩) (jcd _) (U 0)).setCell (p:=⟨w.heap.size,4,none⟩) (jcd _) (U 0)).setCell (p:=⟨w.heap.size,5,none⟩) (jcd _) (U 0)).setCell (p:=⟨w.heap.size,6,none⟩) (jcd _) (U 0)).setCell (p:=⟨w.heap.size,7,none⟩) (jcd _) (U 0)).setCell (p:=⟨w.heap.size,8,none⟩) (jcd _) (.slice none 0 0));have Y:=d.c 0;have g0:=d.f 0;have k1:=d.c 1;have g1:=d.f 1;have k2:=d.c 2;have g2:=d.f 2;have k3:=d.c 3;have g3:=d.f 3;have k4:=d.c 4;have g4:=d.f 4;have k5:=d.c 5;have g5:=d.f 5;have k6:=d.c 6;have g6:=d.f 6;have k7:=d.c 7;have g7:=d.f 7;have k8:=d.c 8;have g8:=d.f 8;go_wp2_with fail
  refine bodyPost_ret (v:=.tuple #[.agg ZA,.iface 30 (U 3)]) (qjt RZ rfl rfl ⟨_,rfl⟩ ⟨_,rfl⟩ ⟨_,rfl⟩ ⟨_,rfl⟩ ⟨_,rfl⟩ ⟨_,rfl⟩ ⟨_,rfl⟩ ⟨_,rfl⟩ ⟨_,_,_,rfl⟩) rfl ⟨.inr ⟨NO.out,rfl⟩,hbZ⟩
 have YES:Hid (ql3 L ⟨C,E,wall,F,G,H,I,J,l⟩):=⟨ho,CH.out.1 HD.out⟩;have HO:=hd1 ho;clear ho;go_wp2_with fail
 refine(qex X HO.out).mono ?_;rintro e w9 ⟨rfl,K⟩;replace d:=d.later K;replace t:=t.later K;have s:=qq3 OWN.out K;replace W:=qa W K;clear K;replace c0:=t.c 0;replace c1:=t.c 1;replace c2:=t.c 2;replace c3:=t.c 3;replace c4:=t.c 4;replace c5:=t.c 5;replace c6:=t.c 6;replace c7:=t.c 7;replace c8:=t.c 8;have RZ:=(((((((((d.set 0 (U C) oi).set 1 (U E) oi).set 2 (U wall) oi).set 3 (U F) oi).set 4 (U G) oi).set 5 (U H) oi).set 6 (U I) oi).set 7 (U J) oi).set 8 (.slice S l.length V) oi);replace s:=ownsRow_setCell_below s (a:=⟨w.heap.size,0,none⟩) (by show w.heap.size<b.heap.size+1;omega) (U C);replace s:=ownsRow_setCell_below s (a:=⟨w.heap.size,1,none⟩) (by show w.heap.size<b.heap.size+1;omega) (U E);replace s:=ownsRow_setCell_below s (a:=⟨w.heap.size,2,none⟩) (by show w.heap.size<b.heap.size+1;omega) (U wall);replace s:=ownsRow_setCell_below s (a:=⟨w.heap.size,3,none⟩) (by show w.heap.size<b.heap.size+1;omega) (U F);replace s:=ownsRow_setCell_below s (a:=⟨w.heap.size,4,none⟩) (by show w.heap.size<b.heap.size+1;omega) (U G);replace s:=ownsRow_setCell_below s (a:=⟨w.heap.size,5,none⟩) (by show w.heap.size<b.heap.size+1;omega) (U H);replace s:=ownsRow_setCell_below s (a:=⟨w.heap.size,6,none⟩) (by show w.heap.size<b.heap.size+1;omega) (U I);replace s:=ownsRow_setCell_below s (a:=⟨w.heap.size,7,none⟩) (by show w.heap.size<b.heap.size+1;omega) (U J);replace s:=ownsRow_setCell_below s (a:=⟨w.heap.size,8,none⟩) (by show w.heap.size<b.heap.size+1;omega) (.slice S l.length V);obtain⟨a2,cap2,ea,hW2⟩:=qbg s;injection ea with e1 _ e3;subst e1 e3;have HW2:Hid (qr _ S V l):=hW2;clear hW2 s X OWN;have hbZ:=(((((((((W.setCell (p:=⟨w.heap.size,0,none⟩) (jcd _) (U C)).setCell (p:=⟨w.heap.size,1,none⟩) (jcd _) (U E)).setCell (p:=⟨w.heap.size,2,none⟩) (jcd _) (U wall)).setCell (p:=⟨w.heap.size,3,none⟩) (jcd _) (U F)).setCell (p:=⟨w.heap.size,4,none⟩) (jcd _) (U G)).setCell (p:=⟨w.heap.size,5,none⟩) (jcd _) (U H)).setCell (p:=⟨w.heap.size,6,none⟩) (jcd _) (U I)).setCell (p:=⟨w.heap.size,7,none⟩) (jcd _) (U J)).setCell (p:=⟨w.heap.size,8,none⟩) (jcd _) (.slice S l.length V));have Y:=d.c 0;have g0:=d.f 0;have k1:=d.c 1;have g1:=d.f 1;have k2:=d.c 2;have g2:=d.f 2;have k3:=d.c 3;have g3:=d.f 3;have k4:=d.c 4;have g4:=d.f 4;have k5:=d.c 5;have g5:=d.f 5;have k6:=d.c 6;have g6:=d.f 6;have k7:=d.c 7;have g7:=d.f 7;have k8:=d.c 8;have g8:=d.f 8;go_wp2_with fail
 refine bodyPost_ret (v:=.tuple #[.agg (List.toArray (T9 C E wall F G H I J S l.length V)),.nilIface]) (qjt RZ rfl rfl ⟨_,rfl⟩ ⟨_,rfl⟩ ⟨_,rfl⟩ ⟨_,rfl⟩ ⟨_,rfl⟩ ⟨_,rfl⟩ ⟨_,rfl⟩ ⟨_,rfl⟩ ⟨_,_,_,rfl⟩) rfl ⟨.inl ⟨⟨C,E,wall,F,G,H,I,J,l⟩,S,V,YES.out,HW2.out,rfl⟩,hbZ⟩
end
section
open _root_.Go.Proofs.Tryz
def qkt (S:By) (ns:List Int):By:=ns.foldl (λs n=>s++qcq 5 n) S
def qph {S:By} {a:List Int} {k:Nat} (b:k<a.length):qkt S (a.take (k+1))=qkt S (a.take k)++qcq 5 (a.getD k 0):=by
 unfold qkt;rw[jc1 b,List.foldl_append];simp[List.getD,List.getElem?_eq_getElem b]
def qiz (S:By) (d:List Int):∀k,k<=d.length->(qkt S (d.take k)).size<=S.size+6*k
 |0,_=>by simp[qkt]
 |k+1,hk=>by
  rw[qph oe,jc4];have a:=qiz S d k oe;have b:=vo 5 (d.getD k 0);omega
variable {m:Int}
def jb7 (a:0<=m):IntKind.i64.wrap (m.tmod 128)=m%128:=by
 rw[Int.tmod_eq_emod_of_nonneg a];unfold IntKind.wrap;simp[IntKind.signed,IntKind.bits];omega
def jcb (a:0<=m) (b:m<=1099511627776):IntKind.i64.wrap (m.tdiv 128)=m/128:=by
 rw[Int.tdiv_eq_ediv_of_nonneg a];unfold IntKind.wrap;simp[IntKind.signed,IntKind.bits];omega
def qtv:(prog.info? 5).map (λi=>(i.zero,i.size,i.bytes))=some (some (.int .u8 0),1,1):=oh
def qct (B g h:Nat) (S:By) (K lo lc:Nat) (b:List Int) (w:Wl) (hO:Own w B g h S) (hB:B<=w.heap.size) (L:K≠g)
 (hC:∀i,i<b.length->w.cell? (AD K (lo+i))=some (U (b.getD i 0))) (hr:∀i,i<b.length->0<=b.getD i 0/\b.getD i 0<=1099511627776) (hs:S.size+6*b.length<=900000):
 Ca 156 #[.slice (PT g) S.size h,.slice (some (AD K lo)) b.length lc] w λe w'=>
  ∃j d a,e=.returned (.slice (PT d) j.size a)/\j=qkt S b/\Own w' B d a j/\(d=g\/w.heap.size<=d)/\yu g w w':=by
 have HC:=hd1 hC;have HR:=hd1 hr;clear hC hr;go_enter func156,ntmps156;go_wp2_with fail
 go_loopw [0,9] (λM i wr=>∃(k:Nat) (z:Int) (j:By) (d a:Nat),k<=b.length/\z=k/\i=U z/\M=.slice (PT d) j.size a/\j=qkt S (b.take k)/\Own wr B d a j/\(d=g\/w.heap.size<=d)/\yu g w wr) (λ_ i _=>b.length-(intOf i).toNat)
 case atStart=>exact⟨0,0,S,g,h,oe,rfl,rfl,rfl,rfl,hO,.inl rfl,yu.refl _ _⟩
 obtain⟨k,z,I,g1,c1,hk,hz,rfl,rfl,A,O1,e1,N⟩:=hrel;have o:=hd1 A;clear A;have hsz1:I.size<=S.size+6*k:=by rw[o.out];exact qiz S b k hk
 by_cases s:k<b.length
 .have x0:=N.cell (HC.out k s) L;obtain⟨r0,r1⟩:=HR.out k s;have h1:z<(b.length:Int):=oe;have h2:z.toNat=k:=oe;have h3:0<=z:=oe;have HZ:=hd1 hz;clear hz;have C:=qph (S:=S) s;obtain⟨n,hn⟩:∃n,b.getD k 0=n:=⟨_,rfl⟩;rw[hn]at x0 r0 r1 C;rw[<-o.out]at C;obtain⟨T,O⟩:∃T,T=I++qcq 5 n:=⟨_,rfl⟩;rw[<-O]at C;have R:=hd1 C;have HT:=hd1 O;clear C O hn;have hszT:T.size<=S.size+6*k+6:=by rw[HT.out,jc4];have:=vo 5 n;omega
  go_wp2_with fail
  go_loopw [0,6] (λM nv wi=>∃(m:Int) (f:Nat) (D:By) (E V:Nat),nv=U m/\M=.slice (PT E) D.size V/\0<=m/\m<=1099511627776/\m<128^(f+1)/\D++qcq f m=T/\Own wi B E V D/\(E=g\/w.heap.size<=E)/\yu g w wi) (λ_ nv _=>(intOf nv).toNat)
  case atStart=>exact⟨n,5,I,g1,c1,rfl,rfl,r0,r1,by have e:(128:Int)^(5+1)=4398046511104:=by decide
                                                   rw[e];omega,HT.out.symm,O1,e1,N⟩
  obtain⟨m,f,D,E,V,rfl,rfl,m0,m1,F,G,O2,J,y⟩:=hrel;have t:=hd1 G;clear G;have hszS:D.size<=T.size:=by rw[<-t.out,jc4];omega
  have q:=jcb m0 m1;have r:=jb7 m0;by_cases hm:127<m
  .obtain⟨f,rfl⟩:∃f',f=f'+1:=by
        cases f with
        |zero=>simp at F;omega
        |succ f=>exact⟨f,rfl⟩
   have MF:=hd1 F;clear F;have X:(wr.alloc (.cells #[.int .u8 (m%128+128)] 5)).cell? (AD wr.heap.size 0)=some (.int .u8 (m%128+128)):=o9;go_wp2_with (at_builtin;refine qbn rfl (.tmp 15) (.tmp 20) 51 51 5 rfl underlying51 qtv rfl (O2.alloc _) (qft (m%128+128)) _ rfl (q0w underlying51 oe oe 1 X) (by rw[qcx];omega) (by have:=y.size;simp;omega) ?_;intro Y Z c3 w3 x O3 e3 y3)
   go_roundw
   case rel=>
        have H:(128:Int)^(f+1+1)=128^(f+1)*128:=Int.pow_succ 128 (f+1);have hmf:=MF.out;rw[H]at hmf;have y4:=(yu.ofBelow (boxed (jcc _ _) _)).trans y3 (.inl rfl);refine⟨m/128,f,Y,Z,c3,rfl,rfl,oe,oe,oe,?_,O3,?_,y.trans y4 J⟩
        .rw[x.out,<-t.out,qr8 oe,ByteArray.append_assoc]
        obtain rfl|rfl:=e3
        .exact J
        exact .inr (by have:=y.size;simp;omega)
   simp[intOf];omega
  have X:(wr.alloc (.cells #[.int .u8 m] 5)).cell? (AD wr.heap.size 0)=some (.int .u8 m):=o9;have MF:=hd1 F;clear F;go_wp2_with (at_builtin;refine qbn rfl (.tmp 24) (.tmp 27) 51 51 5 rfl underlying51 qtv rfl (O2.alloc _) (qft m) _ rfl (q0w underlying51 oe oe 1 X) (by rw[qcx];omega) (by have:=y.size;simp;omega) ?_;intro Y Z c3 w3 x O3 e3 y3)
  go_roundw
  case rel=>
   have y4:=(yu.ofBelow (boxed (jcc _ _) _)).trans y3 (.inl rfl);refine⟨k+1,z+1,Y,Z,c3,oe,oK,oI,rfl,?_,O3,?_,y.trans y4 J⟩
   .rw[x.out,R.out,<-t.out,qtw oe]
   obtain rfl|rfl:=e3
   .exact J
   exact .inr (by have:=y.size;simp;omega)
  simp[intOf];omega
 have e:k=b.length:=oe;go_wp2_with fail
 go_ret;exact⟨I,g1,c1,rfl,by rw[o.out,e,jc9],O1,e1,N⟩
end
section
open _root_.Go.Proofs.Tryz
def qj7 (S:By) (a:List Int):(qkt S a).size<=S.size+6*a.length:=by
 have:=qiz S a a.length (jcd _);rwa [jc9]at this
def q7s (g:Bool):qcq 5 (if g then 1 else 0)=qv6 g:=by cases g<;>rfl
def q85 (S:By) (a:Int) (data:By) (gone:Bool):qkt S [a,if gone then 1 else 0,(data.size:Int)]++data=stepS S ⟨a,data,gone⟩:=by
 show S++qcq 5 a++qcq 5 (if gone then 1 else 0)++qcq 5 (data.size:Int)++data=S++qcq 5 a++qv6 gone++(qcq 5 (data.size:Int)++data);rw[q7s,ByteArray.append_assoc (b:=qcq 5 (data.size:Int))]
def q6b (d f wall j m o q r:Int) (a:Oa) (A:Nat) (l:List Wr) (w:Wl) (K:qr w a A l) (h:jt d f wall j m o q r l=true):
 Ca 193 #[.agg (List.toArray (T9 d f wall j m o q r a l.length A))] w λe w'=>
  ∃S g cp,e=.returned (.tuple #[.slice (PT g) S.size cp,.nilIface])/\S=txS d f wall j m o q r l/\Own w' w.heap.size g cp S/\Bw w w':=by
 have kc:=λ(w:Wl) (C:Av) (n c:Nat)=>Lib.run_convert_bytes_const (P:=prog) w 51 5 C n c underlying51 underlying5;have H:=hd1 h;have ht:=h;simp only[jt,jct,jk,jb,qdz]at ht;obtain⟨⟨⟨⟨⟨ts,tq⟩,tw,tc⟩,⟨⟨t0,t1⟩,t2⟩,t3⟩,_⟩,hok⟩:=ht;have TS:=hd4 ts tq tw tc;have TD:=hd4 t0 t1 t2 t3;have HLEN:=hd1 (qjz hok);have hall:=hd1 (qkl hok);clear hok ts tq tw tc t0 t1 t2 t3 h
 have c0:(w.alloc (.cells (List.toArray (T9 d f wall j m o q r a l.length A)) 122)).cell? (AD w.heap.size 0)=some (U d):=o9;have c1:(w.alloc (.cells (List.toArray (T9 d f wall j m o q r a l.length A)) 122)).cell? (AD w.heap.size 1)=some (U f):=o9;have c2:(w.alloc (.cells (List.toArray (T9 d f wall j m o q r a l.length A)) 122)).cell? (AD w.heap.size 2)=some (U wall):=o9;have c3:(w.alloc (.cells (List.toArray (T9 d f wall j m o q r a l.length A)) 122)).cell? (AD w.heap.size 3)=some (U j):=o9;have N:(w.alloc (.cells (List.toArray (T9 d f wall j m o q r a l.length A)) 122)).cell? (AD w.heap.size 4)=some (U m):=o9;have O:(w.alloc (.cells (List.toArray (T9 d f wall j m o q r a l.length A)) 122)).cell? (AD w.heap.size 5)=some (U o):=o9;have Q:(w.alloc (.cells (List.toArray (T9 d f wall j m o q r a l.length A)) 122)).cell? (AD w.heap.size 6)=some (U q):=o9;have R:(w.alloc (.cells (List.toArray (T9 d f wall j m o q r a l.length A)) 122)).cell? (AD w.heap.size 7)=some (U r):=o9;have D:(w.alloc (.cells (List.toArray (T9 d f wall j m o q r a l.length A)) 122)).cell? (AD w.heap.size 8)=some (.slice a l.length A):=o9;go_enter func193,ntmps193;go_wp2_with fail
 refine(qex (K.later (boxed (jcc _ _) _)) H.out).mono ?_;rintro e t ⟨rfl,v⟩;replace c0:=cell_later v c0;replace c1:=cell_later v c1;replace c2:=cell_later v c2;replace c3:=cell_later v c3;replace N:=cell_later v N;replace O:=cell_later v O;replace Q:=cell_later v Q;replace R:=cell_later v R;replace D:=cell_later v D;have hbw:=qa (boxed (jcc _ _) _) v;replace K:=K.later hbw;clear v;have hlt:w.heap.size<t.heap.size:=jcr _ _ c0;have T:=hd1 hlt;go_wp2_with fail
 refine(qct t.heap.size t.heap.size 1 (qft 116) (t.heap.size+1) 0 4 [d,f,wall,j] _ ((Own.one t t.heap.size _ oe oe (jcd _)).alloc _) ou oe ?_ ?_ (by rw[qcx];simp)).mono ?_
 .intro i hi;have s:i=0\/i=1\/i=2\/i=3:=oY;obtain rfl|rfl|rfl|rfl:=s<;>go_simp
 .intro i hi;have s:i=0\/i=1\/i=2\/i=3:=oY;obtain⟨V,W,q2,q3⟩:=TS.out;obtain rfl|rfl|rfl|rfl:=s
  .exact⟨V.1,Int.le_trans V.2 oj⟩
  .exact⟨Int.le_trans oj W.1,W.2⟩
  .exact q2
  exact q3
 rintro e w2 ⟨S1,g1,cap1,rfl,hS1,O1,e1,X⟩;have HS1:=hd1 hS1;have y:=(boxed (boxed (jcc _ _) _) _).trans (X.below (jcd _) ou);have HG:=hd1 O1.base;have hz1:S1.size<=25:=by rw[HS1.out];exact qj7 (qft 116) [d,f,wall,j]
 clear hS1 X e1;replace N:=cell_later y N;replace O:=cell_later y O;replace Q:=cell_later y Q;replace R:=cell_later y R;replace D:=cell_later y D;clear c0 c1 c2 c3;go_wp2_with fail
 refine(qct t.heap.size g1 cap1 S1 w.heap.size 4 4 [m,o,q,r] w2 O1 y.size (by have:=HG.out;have:=T.out;omega) ?_ ?_ ?_).mono ?_
 .intro i hi;have s:i=0\/i=1\/i=2\/i=3:=oY;obtain rfl|rfl|rfl|rfl:=s
  .exact N
  .exact O
  .exact Q
  exact R
 .intro i hi;have s:i=0\/i=1\/i=2\/i=3:=oY;obtain⟨V,W,q2,q3⟩:=TD.out;obtain rfl|rfl|rfl|rfl:=s
  .exact V
  .exact W
  .exact q2
  exact q3
 .exact jcn (Nat.add_le_add_right hz1 _) oi
 rintro e w3 ⟨S2,g2,cap2,rfl,hS2,O2,e2,Y⟩;have HS2:=hd1 hS2;have Z:=y.trans (Y.below HG.out y.size);have hz2:S2.size<=49:=by rw[HS2.out];exact jcn (qj7 S1 [m,o,q,r]) (Nat.add_le_add_right hz1 24)
 have HG2:=hd1 O2.base;replace D:w3.cell? (AD w.heap.size 8)=some (.slice a l.length A):=(Y.below (B:=t.heap.size) HG.out y.size).cell (p:=AD w.heap.size 8) T.out▸D;clear hS2 Y e2 y N O Q R;go_wp2_with fail
 refine(qct t.heap.size g2 cap2 S2 w3.heap.size 0 1 [(l.length:Int)] _ (O2.alloc _) (by have:=Z.size;simp;omega) (by have:=O2.lt;omega) ?_ ?_ ?_).mono ?_
 .intro i hi;obtain rfl:i=0:=by simpa using hi
  go_simp
 .intro i hi;obtain rfl:i=0:=by simpa using hi
  have:=HLEN.out;show 0<=(l.length:Int)/\(l.length:Int)<=1099511627776;omega
 .exact jcn (Nat.add_le_add_right hz2 _) oi
 rintro e w4 ⟨S3,g3,cap3,rfl,hS3,O3,e3,y3⟩;have HS3:Hid (S3=qnh d f wall j m o q r l.length):=by show S3=_;rw[hS3,HS2.out,HS1.out];rfl
 have hb34:=((jcc _ _).alloc Z.size _).trans (y3.below HG2.out (by have:=Z.size;simp;omega));have hb4:=Z.trans hb34;replace D:w4.cell? (AD w.heap.size 8)=some (.slice a l.length A):=hb34.cell (p:=AD w.heap.size 8) T.out▸D;obtain⟨b,off,rfl,C⟩:∃b off,a=some (AD b off)/\qbo t b off l:=by
  obtain h0|h0:=K.held
  .have:=HLEN.out;rw[h0]at this;simp at this
  exact h0
 have hcap:=K.cap;have hlc:=K.len;clear K hS3 y3 e3 hb34 O2 hz2 HG2 HG O1 hz1 Z;go_wp2_with fail
 clear D;go_loopw [4,39] (λbv i wr=>∃(k:Nat) (z:Int) (S':By) (g' cap':Nat),k<=l.length/\z=k/\i=U z/\bv=.slice (PT g') S'.size cap'/\S'=wrS (qnh d f wall j m o q r l.length) (l.take k)/\Own wr t.heap.size g' cap' S'/\Bw t wr) (λ_ i _=>l.length-(intOf i).toNat)
 case atStart=>exact⟨0,0,S3,g3,cap3,oe,rfl,rfl,rfl,HS3.out,O3,hb4⟩
 clear O3 hb4;obtain⟨k,z,F,g5,cap5,hk,hz,rfl,rfl,hS5,G,u⟩:=hrel;have HS5:=hd1 hS5;clear hS5;have hsz:F.size<=55+25*k:=by
  rw[HS5.out];exact jcn (qor hall.out k hk) (Nat.add_le_add_right (qos _ _ _ _ _ _ _ _ _) _)
 have hlen:=HLEN.out;by_cases hlt2:k<l.length
 .obtain⟨x0,x1,x2⟩:=(C.later u) k hlt2;have h1:z<(l.length:Int):=oe;have h2:z.toNat=k:=oe;have h3:0<=z:=oe;have HZ:=hd1 hz;clear hz;have hkey:=qoy (hall.out k hlt2);have hsize:=qmq (hall.out k hlt2);obtain⟨⟨key,data,gone⟩,hx⟩:∃x,qa7 l k=x:=⟨_,rfl⟩;rw[hx]at x0 x1 x2 hkey hsize;have HX:=hd1 hx;clear hx;simp only at x0 x1 x2 hkey hsize;obtain⟨V,W⟩:=hkey;have E:Hid (∀I,I=qkt F [key,if gone then 1 else 0,(data.size:Int)]->I++data=wrS (qnh d f wall j m o q r l.length) (l.take (k+1))):=λI h6=>by
   rw[h6,q85,qu5 hlt2,HX.out,HS5.out]
  obtain⟨J,hgi⟩:∃J:Int,J=if gone then 1 else 0:=⟨_,rfl⟩
  rw[<-hgi]at E;have Hgi:Hid (0<=J/\J<=1):=by
   show 0<=J/\J<=1;rw[hgi];cases gone<;>decide
  have X:(wr.alloc (.cells #[U key,.string data,.bool gone] 127)).cell? (AD wr.heap.size 1)=some (.string data):=o9;have y1':((wr.alloc (.cells #[U key,.string data,.bool gone] 127)).alloc (.cells #[U key,U J,U (data.size:Int)] 3)).cell? (AD wr.heap.size 1)=some (.string data):=o9;cases gone
  .obtain rfl:J=0:=hgi;go_wp2_with fail
   refine(qct t.heap.size g5 cap5 F (wr.heap.size+1) 0 3 [key,0,(data.size:Int)] _ ((G.alloc _).alloc _) (by have:=u.size;simp;omega) (by have:=G.lt;omega) ?_ ?_ ?_).mono ?_
   .intro i hi;have s:i=0\/i=1\/i=2:=oY;obtain rfl|rfl|rfl:=s<;>go_simp
   .intro i hi;have s:i=0\/i=1\/i=2:=oY;obtain rfl|rfl|rfl:=s
    .show 0<=key/\key<=1099511627776;omega
    .show (0:Int)<=0/\(0:Int)<=1099511627776;decide
    show 0<=(data.size:Int)/\(data.size:Int)<=1099511627776;omega
   .simp;omega
   rintro e w6 ⟨I,g6,cap6,rfl,hS6,O6,e6,L⟩;have HS6:=hd1 hS6;have hz6:I.size<=F.size+18:=by rw[HS6.out];exact qj7 F [key,0,(data.size:Int)]
   have M:=(u.trans (((jcc _ _).alloc u.size _).alloc (by have:=u.size;simp;omega) _)).trans (L.below G.base (by have:=u.size;simp;omega));have Y:=L.cell y1' (by have:=G.lt;show wr.heap.size≠g5;omega);clear hS6 L e6 X y1';go_wp2_with (at_builtin;refine qbn rfl (.tmp 54) (.tmp 56) 51 9 5 rfl underlying51 qtv rfl O6 data _ rfl (Src.ofString _ underlying9 data) oe M.size ?_;intro S7 g7 cap7 w7 hS7 O7 e7 y7)
   go_roundw
   case rel=>exact⟨k+1,z+1,S7,g7,cap7,oe,oK,oI,rfl,by rw[hS7.out];exact E.out I HS6.out,O7,M.trans (y7.below O6.base M.size)⟩
   simp[intOf];omega
  obtain rfl:J=1:=hgi;go_wp2_with fail
  refine(qct t.heap.size g5 cap5 F (wr.heap.size+1) 0 3 [key,1,(data.size:Int)] _ ((G.alloc _).alloc _) (by have:=u.size;simp;omega) (by have:=G.lt;omega) ?_ ?_ ?_).mono ?_
  .intro i hi;have s:i=0\/i=1\/i=2:=oY;obtain rfl|rfl|rfl:=s<;>go_simp
  .intro i hi;have s:i=0\/i=1\/i=2:=oY;obtain rfl|rfl|rfl:=s
   .show 0<=key/\key<=1099511627776;omega
   .show (0:Int)<=1/\(1:Int)<=1099511627776;decide
   show 0<=(data.size:Int)/\(data.size:Int)<=1099511627776;omega
  .simp;omega
  rintro e w6 ⟨I,g6,cap6,rfl,hS6,O6,e6,L⟩;have HS6:=hd1 hS6;have hz6:I.size<=F.size+18:=by rw[HS6.out];exact qj7 F [key,1,(data.size:Int)]
  have M:=(u.trans (((jcc _ _).alloc u.size _).alloc (by have:=u.size;simp;omega) _)).trans (L.below G.base (by have:=u.size;simp;omega));have Y:=L.cell y1' (by have:=G.lt;show wr.heap.size≠g5;omega);clear hS6 L e6 X y1';go_wp2_with (at_builtin;refine qbn rfl (.tmp 54) (.tmp 56) 51 9 5 rfl underlying51 qtv rfl O6 data _ rfl (Src.ofString _ underlying9 data) oe M.size ?_;intro S7 g7 cap7 w7 hS7 O7 e7 y7)
  go_roundw
  case rel=>exact⟨k+1,z+1,S7,g7,cap7,oe,oK,oI,rfl,by rw[hS7.out];exact E.out I HS6.out,O7,M.trans (y7.below O6.base M.size)⟩
  simp[intOf];omega
 have e:k=l.length:=oe;go_wp2_with fail
 go_ret2;exact⟨F,g5,cap5,rfl,by rw[HS5.out,e,jc9];rfl,G.mono (by have:=T.out;omega),hbw.trans (u.mono (by have:=T.out;omega))⟩
def q17 (a a0 a1 a2 a3:Int) (w:Wl) (h:inB a 0 3=true) (p:jb a0 a1 a2 a3=true):
 Ca 116 #[U a,.agg #[U a0,U a1,U a2,U a3]] w λe w'=>
  ∃S g cap,e=.returned (.tuple #[.slice (PT g) S.size cap,.nilIface])/\S=q1e a a0 a1 a2 a3/\Own w' w.heap.size g cap S/\Bw w w':=by
 have H:=hd1 h;have G:=hd1 p;have t:=jk.1 h;have q:=p;simp only[jb,jct,qdz]at q;have I:=hd1 q;have J:=hd1 t;clear h p q t;have X:=λ(w:Wl) (C:Av) (n c:Nat)=>Lib.run_convert_bytes_const (P:=prog) w 51 5 C n c underlying51 underlying5;obtain⟨b,d,f,j,_,_,_,_⟩:=qo.new w 113 a0 a1 a2 a3;go_enter func116,ntmps116
 go_wp2_with fail
 refine(qhv H.out _).mono ?_;rintro e Y ⟨rfl,k⟩;replace b:=cell_later k b;replace d:=cell_later k d;replace f:=cell_later k f;replace j:=cell_later k j;go_wp2_with fail
 refine(qh7 G.out _).mono ?_;rintro e A ⟨rfl,l⟩;replace b:=cell_later l b;replace d:=cell_later l d;replace f:=cell_later l f;replace j:=cell_later l j;have u:w.heap.size<A.heap.size:=jcr _ _ b;have o:=qa (qa (boxed (jcc _ _) _) k) l;clear k l;have r:=hd1 u;clear u;go_wp2_with fail
 have v:((A.alloc (.cells #[.int .u8 97] 5 (1,2))).alloc (.cells #[U a] 3)).cell? (AD (A.heap.size+1) 0)=some (U a):=o9;refine(qct A.heap.size A.heap.size 1 (qft 97) (A.heap.size+1) 0 1 [a] _ ((Own.one A A.heap.size _ oe oe (jcd _)).alloc _) ou oe ?_ ?_ (by rw[qcx];simp)).mono ?_
 .intro i hi;obtain rfl:i=0:=by simpa using hi
  exact v
 .intro i hi;obtain rfl:i=0:=by simpa using hi
  show 0<=a/\a<=1099511627776;have:=J.out;omega
 rintro e K ⟨x,L,M,rfl,y,z,N,B⟩;have D:=hd1 y;have m:=(boxed (boxed (jcc _ _) _) _).trans (B.below (jcd _) ou);have E:=hd1 z.base;clear y v B N;replace b:=cell_later m b;replace d:=cell_later m d;replace f:=cell_later m f;replace j:=cell_later m j;replace o:=qa o m;go_wp2_with fail
 refine(qct A.heap.size L M x w.heap.size 0 4 [a0,a1,a2,a3] K z m.size (by have:=E.out;have:=r.out;omega) ?_ ?_ ?_).mono ?_
 .intro i hi;have s:i=0\/i=1\/i=2\/i=3:=oY;obtain rfl|rfl|rfl|rfl:=s
  .exact b
  .exact d
  .exact f
  exact j
 .intro i hi;have s:i=0\/i=1\/i=2\/i=3:=oY
  have:=I.out;obtain rfl|rfl|rfl|rfl:=s
  .exact this.1.1.1
  .exact this.1.1.2
  .exact this.1.2
  exact this.2
 .have:x.size<=7:=by
   rw[D.out];have:=qiz (qft 97) [a] 1 (jcd _);simpa[qcx]using this
  simp;omega
 rintro e Z ⟨O,Q,R,rfl,F,T,e2,V⟩;have W:=hd1 F;clear F;go_wp2_with fail
 go_ret2;refine⟨O,Q,R,rfl,?_,T.mono (by have:=r.out;omega),o.trans (V.below (by have:=E.out;have:=r.out;omega) o.size)⟩;rw[W.out,D.out];rfl
end
section
def qr6 (S:By) (j:Nat) (u:UInt8) (h:(toL S)[j]?=some u):(byteCells S)[j]?=some (.int .u8 u.toNat):=by
 unfold byteCells;rw[jcv];show ((toL S)[j]?).map _=_;rw[h];rfl
variable {g:Nat} {S:By}
def Own.bytes {b:Nat} (h:Own w B g b S) (r:Nat):qa5 w w.heap.size (PT g) ((toL S).take r):=by
 refine .inr ⟨g,0,rfl,h.lt,λj u a=>?_⟩;rw[mF];refine h.have_ j _ (qr6 S j u ?_);rw[List.getElem?_take]at a;split at a
 .exact a
 cases a
def Own.all {a:Nat} (h:Own w B g a S):qa5 w w.heap.size (PT g) (toL S):=by
 have:=h.bytes (toL S).length;rwa [jc9]at this
def qy2 {x:TxV} (d:ql3 L x) (a:Oa) (b c:Nat) (h:L.length=b) (w:Wl) (i:qa5 w w.heap.size a L) (j:b<=c) (k:b<=1000000):
 Ca 161 #[.slice a b c] w λe w'=>∃a2 f,e=.returned (.tuple #[.agg (List.toArray (T9 x.site x.seq x.wall x.count x.d0 x.d1 x.d2 x.d3 a2 x.l.length f)),.nilIface])/\qr w' a2 f x.l/\Bw w w':=by
 subst h;refine(qq5 a L c w i j k).mono λe w' m=>?_;obtain⟨⟨y,n,o,p,q,r⟩|⟨s,_⟩,t⟩:=m
 .obtain rfl:=q6h d p;exact⟨n,o,r,q,t⟩
 exact absurd d (s x)
def q08 (f:∀x,¬ql3 L x) (a:Oa) (b c:Nat) (h:L.length=b) (w:Wl) (i:qa5 w w.heap.size a L) (j:b<=c) (k:b<=1000000):
 Ca 161 #[.slice a b c] w (Rn (.tuple #[.agg ZA,.iface 30 (U 3)]) w):=by
 subst h;refine(qq5 a L c w i j k).mono λe w' l=>?_;obtain⟨⟨y,o,p,m,q,d⟩|⟨r,d⟩,n⟩:=l
 .exact absurd m (f y)
 exact⟨d,n⟩
def qws {x:qho} (d:qdj L x) (a:Oa) (b c:Nat) (f:L.length=b) (w:Wl) (h:qa5 w w.heap.size a L) (i:b<=c) (j:b<=1000000):
 Ca 163 #[.slice a b c] w (Rn (.tuple #[U x.site,.agg #[U x.a0,U x.a1,U x.a2,U x.a3],.nilIface]) w):=by
 subst f;refine(qxc a L c w h i j).mono λe w' k=>?_;obtain⟨⟨y,l,m⟩|⟨n,_⟩,o⟩:=k
 .obtain rfl:=qwl d l;exact⟨m,o⟩
 exact absurd d (n x)
def qvb {a a0 a1 a2 a3:Int} (h:qho.ok ⟨a,a0,a1,a2,a3⟩=true) (w:Wl):
 Ca 116 #[U a,.agg #[U a0,U a1,U a2,U a3]] w λe w'=>∃S g b,e=.returned (.tuple #[.slice (PT g) S.size b,.nilIface])/\(qdj (toL S) ⟨a,a0,a1,a2,a3⟩/\0<S.size)/\S.size<=1000000/\Own w' w.heap.size g b S/\Bw w w':=by
 have d:inB a 0 3=true/\jb a0 a1 a2 a3=true:=by simpa[qho.ok]using h
 refine(q17 a a0 a1 a2 a3 w d.1 d.2).mono λe w' ⟨S,g,b,f,c,O,i⟩=>⟨S,g,b,f,⟨⟨h,o6⟩,?_⟩,?_,O,i⟩
 .rw[c,<-yh,qhy];simp[q1a]
 rw[c];have j:=vo 5 a;have k:=vo 5 a0;have l:=vo 5 a1;have m:=vo 5 a2;have n:=vo 5 a3;have z:(⟨#[97]⟩:By).size=1:=rfl;simp only[q1e,jc4];omega
def qw5 {b c wall d f i j k:Int} {a:Oa} {y:Nat} {l:List Wr} (p:qr w a y l) (h:jt b c wall d f i j k l=true):
 Ca 193 #[.agg (List.toArray (T9 b c wall d f i j k a l.length y))] w λe w'=>∃S g m,e=.returned (.tuple #[.slice (PT g) S.size m,.nilIface])/\(ql3 (toL S) ⟨b,c,wall,d,f,i,j,k,l⟩/\0<S.size)/\S.size<=1000000/\Own w' w.heap.size g m S/\Bw w w':=by
 refine(q6b b c wall d f i j k a y l w p h).mono λe w' ⟨S,g,m,q,n,O,r⟩=>⟨S,g,m,q,⟨⟨h,by rw[n];rfl⟩,?_⟩,?_,O,r⟩
 .rw[n,<-yh,qkb];simp[qrk]
 have o:=(qlw (x:=⟨b,c,wall,d,f,i,j,k,l⟩) h).2.2.2.2.2.2.2.2;have t:=qjz o;simp only at t;have u:=qor (s:=qnh b c wall d f i j k l.length) (qkl o) l.length (jcd _);have v:=qos b c wall d f i j k l.length;rw[jc9]at u;rw[n];unfold txS;omega
end
section
def qum (b:Nat) (x:Int):Lv:=[PP b,U x]
def zt (bp:Nat->Nat) (x:Nat->Int) (n:Nat):Lv:=(List.range n).flatMap (λi=>qum (bp i) (x i))
structure GrM where
 g:GrS
 blk:Nat
 cap:Nat
 S:By
def qpe (m:GrM):Lv:=[U m.g.tj,.slice (PT m.blk) m.S.size m.cap]
def qap (l:List GrM):Lv:=l.flatMap qpe
def txv (t:TxP):TxV:=⟨t.site,t.seq,t.wall,t.count,t.d0,t.d1,t.d2,t.d3,t.ws⟩
def jaw (L:List UInt8):GrB->Prop
 |.tx t=>ql3 L (txv t)
 |.ask site a0 a1 a2 a3=>qdj L ⟨site,a0,a1,a2,a3⟩
structure GrM.Ok (w:Wl) (m:GrM):Prop where
 own:Own w 0 m.blk m.cap m.S
 size:m.S.size<=1000000
 is:jaw (toL m.S) m.g.body
variable {m:GrM}
def GrM.Ok.kept {w':Wl} (h:m.Ok w) (a:w'.heap[m.blk]?=w.heap[m.blk]?) (c:w.heap.size<=w'.heap.size):m.Ok w':=⟨h.own.kept a c,h.size,h.is⟩
def qjw {α:Type} (f:α->Lv) (a:∀x,(f x).length=2):∀(l:List α) (i r:Nat) (x:α) (u:Vl),l[i]?=some x->(f x)[r]?=some u->(l.flatMap f)[i*2+r]?=some u
 |[],i,r,x,u,h,_=>by simp at h
 |y::l,0,r,x,u,h,hu=>by
  have e:y=x:=oM;subst e;have c:r<2:=by have:=(jck.1 hu).1;rw[a]at this;exact this
  rw[List.flatMap_cons,Nat.zero_mul,mF,jc3 (by rw[a];exact c)];exact hu
 |y::l,i+1,r,x,u,h,hu=>by
  have d:l[i]?=some x:=oM;rw[List.flatMap_cons,jc0 (by rw[a];omega),a,show (i+1)*2+r-2=i*2+r by omega];exact qjw f a l i r x u d hu
variable {i:Nat}
def qea {bp:Nat->Nat} {x:Nat->Int} (a:i<n):(zt bp x n)[i*2]?=some (PP (bp i))/\(zt bp x n)[i*2+1]?=some (U (x i)):=
 ⟨qjw _ (λ_=>rfl) _ i 0 i _ (List.getElem?_range a) rfl,qjw _ (λ_=>rfl) _ i 1 i _ (List.getElem?_range a) rfl⟩
def qtm {l:List GrM} (a:l[i]?=some m):(qap l)[i*2]?=some (U m.g.tj)/\(qap l)[i*2+1]?=some (.slice (PT m.blk) m.S.size m.cap):=
 ⟨qjw _ (λ_=>rfl) _ i 0 m _ a rfl,qjw _ (λ_=>rfl) _ i 1 m _ a rfl⟩
def qkr (bp:Nat->Nat) (x:Nat->Int):∀n,(zt bp x n).length=n*2
 |0=>rfl
 |n+1=>by
  unfold zt;rw[List.range_succ,List.flatMap_append,jcl];have:=qkr bp x n;unfold zt at this;rw[this];simp[qum];omega
def qgz (l:List GrM):(qap l).length=l.length*2:=by
 induction l with
 |nil=>rfl
 |cons x l ih=>
  show (qpe x++qap l).length=_;rw[jcl,ih];simp[qpe];omega
structure jbd (w:Wl) (a:Oa) (cap n:Nat) (L:Lv):Prop where
 len:n<=cap
 cap:cap<=9223372036854775807
 held:n=0\/∃g,a=some (AD g 0)/\g<w.heap.size/\∀j u,L[j]?=some u->w.cell? (AD g j)=some u
variable {k:Nat}
def qq {B:Nat} {T:Tp} {v:Vl} {L:Lv} (h:w.ownsRow B T k v n L):∃a t,v=.slice a n t/\jbd w a t n L:=by
 have c:=h;obtain⟨rfl,d⟩|⟨g,t,x,rfl,p,q,f,l,r,s⟩:=h.2
 .exact⟨none,0,by rw[d],⟨oe,oe,.inl d⟩⟩
 refine⟨_,t,rfl,⟨f,by simp only[maxLen]at l;omega,.inr ⟨g,rfl,(c.lt g rfl).2,λj u o=>?_⟩⟩⟩;have e:=c.cells (g:=g) rfl j u o;rw[qal]at e;exact e
structure WoM where
 pv:Vl
 cv:Vl
 nv:Vl
 bp:Nat->Nat
 bs:Nat->Nat
 l:List GrM
def qfw (b:Nat) (M:WoM) (k:Nat):Prop:=k=b\/M.pv.ownBlock=some k\/M.cv.ownBlock=some k\/M.nv.ownBlock=some k\/∃m∈M.l,m.blk=k
def qci (M:WoM) (W:WoS):Nat->qfr:=λi=>if i<W.n then qfp (M.bp i) (W.S i)else qix (M.bs (i-W.n)) (W.ses (i-W.n))
structure PWo (w:Wl) (b:Nat) (M:WoM) (W:WoS) (z:Nat->Nat->Prop):Prop where
 box:qd w b [M.pv,M.cv,M.nv,U W.lost]
 pr:w.ownsRow 0 145 2 M.pv W.n (zt M.bp W.wall W.n)
 cr:w.ownsRow 0 149 2 M.cv W.c (zt M.bs (λk=>(W.at_ k:Int)) W.c)
 nr:w.ownsRow 0 169 2 M.nv M.l.length (qap M.l)
 nl:M.l.map (·.g)=W.net
 gr:∀m∈M.l,m.Ok w
 fam:zh w (W.n+W.c) (qci M W) z (qfw b M) (W.n+W.c) NoY
 sb:M.pv.ownBlock≠some b/\M.cv.ownBlock≠some b/\M.nv.ownBlock≠some b
 sr:∀k,(M.pv.ownBlock=some k->M.cv.ownBlock≠some k/\M.nv.ownBlock≠some k)/\(M.cv.ownBlock=some k->M.nv.ownBlock≠some k)
 sg:∀m∈M.l,m.blk≠b/\M.pv.ownBlock≠some m.blk/\M.cv.ownBlock≠some m.blk/\M.nv.ownBlock≠some m.blk
section
variable {M:WoM}
def PWo.site (h:PWo w b M W z) (a:i<W.n):PS w (M.bp i) (z i) (W.S i):=by
 have:=h.fam.is i oe;unfold qci at this;rw[if_pos a]at this;exact this
def PWo.sess (h:PWo w b M W z) (a:k<W.c):PSe w (M.bs k) (z (W.n+k)) (W.ses k):=by
 have:=h.fam.is (W.n+k) oe;unfold qci at this;rw[if_neg oe,show W.n+k-W.n=k by omega]at this;exact this
def PWo.keep (h:PWo w b M W z) {s:WoS} {d:Nat->Np} (a:jg (qfw b M) w w') (l:zh w' (W.n+W.c) (qci M s) d (qfw b M) (W.n+W.c) NoY) (f:s.n=W.n) (g:s.c=W.c) (o:s.wall=W.wall) (p:s.at_=W.at_) (q:s.net=W.net) (r:s.lost=W.lost):PWo w' b M s d:=by
 refine⟨?_,?_,?_,qf h.nr (λk e=>a.block k (.inr (.inr (.inr (.inl e))))),by rw[q];exact h.nl,λm j=>(h.gr m j).kept (a.block _ (.inr (.inr (.inr (.inr ⟨m,j,rfl⟩))))) a.size,by rw[f,g];exact l,h.sb,h.sr,h.sg⟩
 .rw[r];exact h.box.keeps a (.inl rfl)
 .rw[f,o];exact qf h.pr (λk e=>a.block k (.inr (.inl e)))
 rw[g,p];exact qf h.cr (λk e=>a.block k (.inr (.inr (.inl e))))
end
def qmp (b:Nat) (M:WoM) (N:Nat) (z:Nat->Np) (k:Nat):Prop:=qfw b M k\/∃i,i<N/\z i k
def PW (w:Wl) (b:Nat) (G:Np) (W:WoS):Prop:=∃M z,PWo w b M W z/\∀k,G k↔qmp b M (W.n+W.c) z k
section
variable {M:WoM}
def PWo.ltF (h:PWo w b M W z):∀k,qfw b M k->k<w.heap.size:=λk a=>(h.fam.free k a).1
def PWo.ltG (h:PWo w b M W z) (d:i<W.n+W.c) (a:z i k):k<w.heap.size:=(qci M W i).lt _ _ (h.fam.is i d) k a
def PW.lt (h:PW w b G W):∀k,G k->k<w.heap.size:=by
 obtain⟨M,z,h,a⟩:=h;intro k c;rcases(a k).1 c with q|⟨i,d,q⟩
 .exact h.ltF k q
 exact h.ltG d q
def PW.kept (h:PW w b G W) (f:∀k,G k->w'.heap[k]?=w.heap[k]?) (c:w.heap.size<=w'.heap.size):PW w' b G W:=by
 obtain⟨M,z,h,d⟩:=h;have a:=λk q=>f k ((d k).2 (.inl q));refine⟨M,z,⟨h.box.kept (a b (.inl rfl)) c,qf h.pr (λk e=>a k (.inr (.inl e))),qf h.cr (λk e=>a k (.inr (.inr (.inl e)))),qf h.nr (λk e=>a k (.inr (.inr (.inr (.inl e))))),h.nl,λm g=>(h.gr m g).kept (a _ (.inr (.inr (.inr (.inr ⟨m,g,rfl⟩))))) c,h.fam.tj (λj k l e=>f k ((d k).2 (.inr ⟨j,l,e⟩))) c (λk e=>⟨.inl e,jci (h.ltF k e) c⟩),h.sb,h.sr,h.sg⟩,d⟩
def PW.later (h:PW w b G W) (a:Bw w w'):PW w' b G W:=h.kept (λk c=>a.block k (h.lt k c)) a.size
end
def woP (b:Nat) (W:WoS):qfr:=⟨λw G=>PW w b G W,λ_ _ h=>h.lt,λ_ _ _ h=>h.kept⟩
def vh (w:Wl) (b:Nat) (G:Np) (W':WoS) (w':Wl):Prop:=qbi (woP b W') w G w'
section
variable {M:WoM}
def vh.same (h:PW w b G W) (a:Bw w w'):vh w b G W w':=⟨G,h.later a,λ_ c=>.inl c,qc.ofBelow a⟩
def PWo.stepS (h:PWo w b M W z) (d:∀k,G k↔qmp b M (W.n+W.c) z k) (A:i<W.n) {y:qe} (t:PPo w (M.bp i) (z i) y w'):vh w b G (setSite W i y) w':=by
 obtain⟨o,f,g,u,a⟩:=h.fam.stepG (ps':=qci M (setSite W i y)) (i:=i) oe (p:=qfp (M.bp i) y) t (by show (if i<W.n then _ else _)=_;rw[if_pos A];show qfp (M.bp i) (jj W.S i y i)=_;rw[qt]) (λj s v=>by
  show (if j<W.n then qfp (M.bp j) (jj W.S i y j)else _)=(if j<W.n then _ else _);rw[yq _ _ v];rfl)
 refine⟨qmp b M (W.n+W.c) o,⟨M,o,h.keep u f rfl rfl rfl rfl rfl rfl,λ_=>jdl⟩,λk l=>?_,⟨a.os,a.tape,a.output,a.size,λk l x=>a.block k l (λe=>x ((d k).2 (.inr ⟨i,oe,e⟩)))⟩⟩;obtain q|⟨j,s,q⟩:=l
 .exact .inl ((d k).2 (.inl q))
 obtain r|r:=g j k q
 .exact .inl ((d k).2 (.inr ⟨j,s,r⟩))
 exact .inr r
def PWo.stepC (h:PWo w b M W z) (l:∀k,G k↔qmp b M (W.n+W.c) z k) (A:i<W.c) {a:qy} (u:qc8 w (M.bs i) (z (W.n+i)) a w'):vh w b G (vf W i a) w':=by
 obtain⟨s,f,g,v,d⟩:=h.fam.stepG (ps':=qci M (vf W i a)) (i:=W.n+i) oe (p:=qix (M.bs i) a) u (by show (if W.n+i<W.n then _ else _)=_;rw[if_neg oe];show qix (M.bs (W.n+i-W.n)) (jj W.ses i a (W.n+i-W.n))=_;rw[show W.n+i-W.n=i by omega,qt]) (λj t y=>by
  show (if j<W.n then _ else qix (M.bs (j-W.n)) (jj W.ses i a (j-W.n)))=(if j<W.n then _ else _);by_cases q:j<W.n
  .rw[if_pos q,if_pos q];rfl
  rw[if_neg q,if_neg q,yq _ _ oe])
 refine⟨qmp b M (W.n+W.c) s,⟨M,s,h.keep v f rfl rfl rfl rfl rfl rfl,λ_=>jdl⟩,λk o=>?_,⟨d.os,d.tape,d.output,d.size,λk o x=>d.block k o (λe=>x ((l k).2 (.inr ⟨W.n+i,oe,e⟩)))⟩⟩;obtain q|⟨j,t,q⟩:=o
 .exact .inl ((l k).2 (.inl q))
 obtain r|r:=g j k q
 .exact .inl ((l k).2 (.inr ⟨j,t,r⟩))
 exact .inr r
end
end
section
open Tryz
def q2h (w:Wl):Ca 104 #[] w λe w'=>e=.returned (PP w.heap.size)/\PSe w' w.heap.size (λk=>k=w.heap.size) qez/\Bw w w':=by
 go_enter func104,ntmps104;go_wp2_with fail
 go_ret;exact⟨rfl,q9y _,boxed (jcc _ w) _⟩
def qmk (w:Wl) (h:PSe w b G s):
 Ca 123 #[PP b] w (Rn (.bool s.opn) w):=by
 obtain⟨a,B,_⟩:=h;have d:=B.c 4;go_enter func123,ntmps123;go_wp2_with fail
 go_ret;exact⟨rfl,jcc _ _⟩
def qm7 {f:Func} {tmps:Av} {w:Wl} {k m o q:Int} (a:f.results=#[.cell 2 113]) (h:qd w b [U k,U m,U o,U q]) (d:tmps[2]?=some (PP b)):
 (results f tmps).run prog w=.ok (.agg #[U k,U m,U o,U q]) w:=by
 have e:=h.c 0;have g:=h.c 1;have i:=h.c 2;have j:=h.c 3;simp[results,a,go_sem,d,e,g,i,j]
def q00 (w:Wl) (h:PSe w b G s):
 Ca 121 #[PP b] w (Rn (.agg #[U s.p0,U s.p1,U s.p2,U s.p3]) w):=by
 obtain⟨a,B,_⟩:=h;have d:=B.c 0;have e:=B.c 1;have f:=B.c 2;have g:=B.c 3;have i:=B.lt;go_enter func121,ntmps121;go_wp2_with fail
 exact bodyPost_ret (qm7 results121 (qd.new (w:=w) (T:=113) [U s.p0,U s.p1,U s.p2,U s.p3] rfl) rfl) rfl ⟨rfl,boxed (jcc _ w) _⟩
def qrq (w:Wl) (h:PSe w b G s):
 Ca 122 #[PP b] w (Rn (.agg #[U s.s0,U s.s1,U s.s2,U s.s3]) w):=by
 obtain⟨a,B,_⟩:=h;have d:=B.c 5;have e:=B.c 6;have f:=B.c 7;have g:=B.c 8;have i:=B.lt;go_enter func122,ntmps122;go_wp2_with fail
 exact bodyPost_ret (qm7 results122 (qd.new (w:=w) (T:=113) [U s.s0,U s.s1,U s.s2,U s.s3] rfl) rfl) rfl ⟨rfl,boxed (jcc _ w) _⟩
def qom (w:Wl) (h:PSe w b G s):
 Ca 152 #[PP b] w λe w'=>e=.returned (.tuple #[])/\qc8 w b G (qc3 s) w':=by
 have i:=h.own;obtain⟨l,B,_⟩:=h;have j:=hd1 B;have f:Bw w w.drew:=(jcc _ w).drew;have d:=B.later f;go_enter func152,ntmps152;go_wp2_with fail
 have m:=d.c 0;have n:=d.c 1;have o:=d.c 2;have p:=d.c 3;have q:=d.c 5;have r:=d.c 6;have t:=d.c 7;have u:=d.c 8
 go_region_law (refine je rfl 185 #[.agg #[U s.p0,U s.p1,U s.p2,U s.p3],.agg #[U s.s0,U s.s1,U s.s2,U s.s3]] (by go_simp) (qzz s.p0 s.p1 s.p2 s.p3 s.s0 s.s1 s.s2 s.s3 _) ?_
                rintro e v ⟨rfl,k⟩;refine⟨_,rfl,?_⟩;have g:=qa f k;have a:=j.out.later g;have x:=a.c 0;have y:=a.c 1;have z:=a.c 2;have C:=a.c 3;have D:=a.c 4;have E:=a.c 5;have F:=a.c 6;have H:=a.c 7;have I:=a.c 8;have J:=a.c 9;have K:=a.free 0 oH;have A:=a.free 1 oH;have L:=a.free 2 oH;have M:=a.free 3 oH;have N:=a.free 4 oH;have O:=a.free 5 oH;have P:=a.free 6 oH;have Q:=a.free 7 oH;have R:=a.free 8 oH;have S:=a.free 9 oH)
 all_goals
  go_wp2_with fail
  go_end0;exact⟨rfl,q8i i g a _ _ _ _⟩
def qw7 (w:Wl) (h:PSe w b G s):
 Ca 113 #[PP b] w λe w'=>e=.returned (jc (qi5 s))/\qc8 w b G (qhh s) w':=by
 have d:=hd1 h;obtain⟨j,B,_⟩:=h;have f:=B.c 4;cases ho:s.opn
 .rw[ho]at f;have a:Hid (qi5 s=6/\qhh s=s):=⟨by unfold qi5;rw[ho];rfl,by unfold qhh;rw[ho];rfl⟩;go_enter func113,ntmps113;go_wp2_with fail
  go_ret;refine⟨by rw[a.out.1];rfl,?_⟩;rw[a.out.2];exact qc8.same d.out (jcc _ _)
 rw[ho]at f;have a:Hid (qi5 s=0/\qhh s=qc3 s):=⟨by unfold qi5;rw[ho];rfl,by unfold qhh;rw[ho];rfl⟩;have g:=qom w d.out;go_enter func113,ntmps113;go_wp2_with fail
 refine g.mono ?_;rintro e k ⟨rfl,i⟩;go_wp2_with fail
 go_ret;refine⟨by rw[a.out.1];rfl,?_⟩;rw[a.out.2];exact i
def qyu {j:Nat} {o:Np} {S:qe} (w:Wl) (h:PSe w b G s) (p:PS w j o S):
 Ca 119 #[PP b,PP j] w λe w'=>e=.returned (jc (qhl S s))/\qc8 w b G (qhd S s) w':=by
 have q:=h.own;have f:=hd2 h p;have y:=qb.one;have z:=@run_makeMap prog;obtain⟨C,B,_⟩:=h;have r:=hd1 B;have t:=hd1 B.lt;have k:=B.c 4;cases ho:s.opn
 .rw[ho]at k;have D:=qb.cell (B.c 0);have V:=qb.cell (B.c 1);have E:=qb.cell (B.c 2);have F:=qb.cell (B.c 3);have l:=hd1 ho;cases hc:qa8 S.a0 S.a1 S.a2 S.a3 s.p0 s.p1 s.p2 s.p3
  .have g:=hd1 hc;have d:Hid (qhl S s=10):=by show _=_;unfold qhl;rw[l.out,g.out];rfl
   go_enter func119,ntmps119;go_wp2_with fail
   refine wrl ?_;repeat (go_big_quiet_step (first|rfl|(go_at_call 117;with_reducible exact qg (qff _ (f.out.2.later (qb.below _))))|(go_at_call 157;with_reducible exact qg (qh3 g.out _))))
   refine wpQuiet_nil ?_;rintro A ⟨⟨_,i⟩,rfl⟩;go_wp2_with fail
   go_ret;refine⟨by rw[d.out];rfl,?_⟩;rw[show qhd S s=s by unfold qhd;rw[if_neg (by rw[d.out];decide)]];exact qc8.same f.out.1 i
  have g:=hd1 hc;have d:Hid (qhl S s=0):=by show _=_;unfold qhl;rw[l.out,g.out];rfl
  go_enter func119,ntmps119;go_wp2_with fail
  refine wrl ?_;repeat (go_big_quiet_step (first|rfl|(go_at_call 117;with_reducible exact qg (qff _ (f.out.2.later (qb.below _))))|(go_at_call 157;with_reducible exact qg (qh3 g.out _))))
  refine wpQuiet_nil ?_;rintro A ⟨⟨_,i⟩,rfl⟩;have u:=qff _ (f.out.2.later i);go_wp2_with fail
  refine u.mono ?_;rintro e v ⟨rfl,m⟩;have n:=boxed (qa i m) (.map #[] 0);have a:=r.out.later n;have H:=a.c 4;have I:=a.c 5;have J:=a.c 6;have K:=a.c 7;have L:=a.c 8;have M:=a.c 9;have N:=a.free 4 oH;have O:=a.free 5 oH;have P:=a.free 6 oH;have Q:=a.free 7 oH;have R:=a.free 8 oH;have T:=a.free 9 oH;have x:=(qa i m).size;go_wp2_with fail
  go_ret;refine⟨by rw[d.out];rfl,?_⟩;rw[show qhd S s={s with opn:=true,s0:=S.a0,s1:=S.a1,s2:=S.a2,s3:=S.a3,ws:=[]} by unfold qhd;rw[if_pos d.out]];exact q37 q n a (qes.made v) x t.out S.a0 S.a1 S.a2 S.a3
 rw[ho]at k;have d:Hid (qhl S s=6):=by show _=_;unfold qhl;rw[ho];rfl
 go_enter func119,ntmps119;go_wp2_with fail
 go_ret;refine⟨by rw[d.out];rfl,?_⟩;rw[show qhd S s=s by unfold qhd;rw[if_neg (by rw[d.out];decide)]];exact qc8.same f.out.1 (jcc _ _)
end
section
open _root_.Go.Proofs.Tryz
def qtk {b:Nat} {G:Np} {S:qe} (now j o q r:Int) {a:Oa} {A:Nat} {ws:List Wr} (w:Wl) (h:PS w b G S) (hI:j3 S) (hW:qr w a A ws) (hX:∀k off,ws≠[]->a=some (AD k off)->¬G k):
 Ca 158 #[PP b,U now,.agg #[U j,U o,U q,U r],.slice a ws.length A] w (qsw w b G S now j o q r ws):=by
 have u:=(qo.new w 113 j o q r).boxed (.cells ZA 122);have d:qd ((w.alloc (.cells #[U j,U o,U q,U r] 113)).alloc (.cells ZA 122)) (w.heap.size+1) txZ:=qd.new (w:=w.alloc (.cells #[U j,U o,U q,U r] 113)) (T:=122) (n:=w.heap.size+1) ZL oi;have f:=boxed (boxed (jcc _ w) (.cells #[U j,U o,U q,U r] 113)) (.cells ZA 122);have WI:=hW.later f;have Y:=hd1 h;have HW:=hd1 hW;have HX:=hd1 hX;have HI:=hd1 hI;have Z:w.heap.size<=w.heap.size+1:=oe;have P:=hI.id0;have Q:=hI.id3;have aa:Hid (∀(w9:Wl) (ev:Int),qfl S now j o q r ws=ev->ev≠0->Bw w w9->Hid (qsw w b G S now j o q r ws (.returned (.tuple #[txV tx0,jc ev])) w9)):=λw9 ev h1 h2 h3=>by
  refine⟨tx0,G,by rw[h1],?_,⟨⟨jcd _,oj,.inl rfl⟩,?_,λk R=>.inl R,qc.ofBelow h3,λk R=>absurd rfl R.1⟩⟩
  .unfold qha;rw[if_neg (by rw[h1];exact h2)];rfl
  unfold qf3;rw[if_neg (by rw[h1];exact h2)];exact Y.out.later h3
 go_enter func158,ntmps158;go_wp2_with fail
 refine(qog WI).mono ?_;rintro e w1 ⟨rfl,hb1⟩;replace u:=u.later hb1;replace d:=d.later hb1;replace f:=qa f hb1;cases hok:qad ws
 .have E:Hid (qfl S now j o q r ws=1):=by show ji _ _ _ _ _ _ _ _=1;unfold ji;rw[if_pos hok]
  have r0:=d.c 0;have p0:=d.free 0 o8;have r1:=d.c 1;have p1:=d.free 1 o8;have r2:=d.c 2;have p2:=d.free 2 o8;have r3:=d.c 3;have p3:=d.free 3 o8;have r4:=d.c 4;have p4:=d.free 4 o8;have r5:=d.c 5;have p5:=d.free 5 o8;have r6:=d.c 6;have p6:=d.free 6 o8;have r7:=d.c 7;have p7:=d.free 7 o8;have r8:=d.c 8;have p8:=d.free 8 o8;have B:=yz d rfl 0 0 0 0 0 0 0 0 (.slice none 0 0);have J:=qd9 f Z 0 0 0 0 0 0 0 0 (.slice none 0 0);have z:=aa.out _ 1 E.out oj J;go_wp2_with fail
  exact bodyPost_ret (qba (m:=tx0) (ev:=jc 1) B rfl rfl) rfl z.out
 have HOK:=hd1 hok;obtain⟨lv,bm,F,log,waits,PM,hl,hw,hG⟩:=Y.out.later f;have K:=hd3 hl hw hG;have hll:log.length=S.log.length:=by rw[<-hl];simp
 have M1:=hd1 PM;have c0:=qb.cell u.c0;have c1:=qb.cell u.c1;have c2:=qb.cell u.c2;have c3:=qb.cell u.c3;have k1:=qb.cell (M1.out.box.c 1);have k2:=qb.cell (M1.out.box.c 2);have k3:=qb.cell (M1.out.box.c 3);have k4:=qb.cell (M1.out.box.c 4);cases hv:jb j o q r
 .have M:=hd1 hv;have E:Hid (qfl S now j o q r ws=10):=by show ji _ _ _ _ _ _ _ _=10;unfold ji;rw[if_neg (by rw[HOK.out];decide),if_pos hv]
  go_wp2_with fail
  refine wrl ?_;repeat (go_big_quiet_step (first|rfl|(go_at_call 155;with_reducible exact qg (qh7 M.out _))))
  refine wpQuiet_nil ?_;rintro w2 ⟨⟨_,I⟩,rfl⟩;replace d:=d.later I;replace f:=qa f I;have r0:=d.c 0;have p0:=d.free 0 o8;have r1:=d.c 1;have p1:=d.free 1 o8;have r2:=d.c 2;have p2:=d.free 2 o8;have r3:=d.c 3;have p3:=d.free 3 o8;have r4:=d.c 4;have p4:=d.free 4 o8;have r5:=d.c 5;have p5:=d.free 5 o8;have r6:=d.c 6;have p6:=d.free 6 o8;have r7:=d.c 7;have p7:=d.free 7 o8;have r8:=d.c 8;have p8:=d.free 8 o8;have B:=yz d rfl 0 0 0 0 0 0 0 0 (.slice none 0 0);have J:=qd9 f Z 0 0 0 0 0 0 0 0 (.slice none 0 0);have z:=aa.out _ 10 E.out oj J;go_wp2_with fail
  exact bodyPost_ret (qba (m:=tx0) (ev:=jc 10) B rfl rfl) rfl z.out
 have M:=hd1 hv;cases hc:qa8 S.a0 S.a1 S.a2 S.a3 j o q r
 .have HC:=hd1 hc;have E:Hid (qfl S now j o q r ws=10):=by show ji _ _ _ _ _ _ _ _=10;unfold ji;rw[if_neg (by rw[HOK.out];decide),if_neg (by rw[M.out];decide),if_pos hc]
  go_wp2_with fail
  refine wrl ?_;repeat (go_big_quiet_step (first|rfl|(go_at_call 155;with_reducible exact qg (qh7 M.out _))|(go_at_call 157;with_reducible exact qg (qh3 HC.out _))))
  refine wpQuiet_nil ?_;rintro w2 ⟨⟨_,I⟩,rfl⟩;replace d:=d.later I;replace f:=qa f I;have r0:=d.c 0;have p0:=d.free 0 o8;have r1:=d.c 1;have p1:=d.free 1 o8;have r2:=d.c 2;have p2:=d.free 2 o8;have r3:=d.c 3;have p3:=d.free 3 o8;have r4:=d.c 4;have p4:=d.free 4 o8;have r5:=d.c 5;have p5:=d.free 5 o8;have r6:=d.c 6;have p6:=d.free 6 o8;have r7:=d.c 7;have p7:=d.free 7 o8;have r8:=d.c 8;have p8:=d.free 8 o8;have B:=yz d rfl 0 0 0 0 0 0 0 0 (.slice none 0 0);have J:=qd9 f Z 0 0 0 0 0 0 0 0 (.slice none 0 0);have z:=aa.out _ 10 E.out oj J;go_wp2_with fail
  exact bodyPost_ret (qba (m:=tx0) (ev:=jc 10) B rfl rfl) rfl z.out
 have HC:=hd1 hc;go_wp2_with fail
 refine wrl ?_;repeat (go_big_quiet_step (first|rfl|(go_at_call 155;with_reducible exact qg (qh7 M.out _))|(go_at_call 157;with_reducible exact qg (qh3 HC.out _))))
 refine wpQuiet_nil ?_;rintro w2 ⟨⟨_,I⟩,rfl⟩;replace d:=d.later I;replace u:=u.later I;replace f:=qa f I;have M2:=hd1 (M1.out.later I);by_cases L:200<=log.length
 .have E:Hid (qfl S now j o q r ws=12):=by show ji _ _ _ _ _ _ _ _=12;unfold ji;rw[if_neg (by rw[HOK.out];decide),if_neg (by rw[M.out];decide),if_neg (by rw[HC.out];decide),if_pos oe]
  have IF:=qe0 (decide_eq_true L) w2 M2.out;go_wp2_with fail
  refine IF.mono ?_;rintro e w3 ⟨rfl,N⟩;replace d:=d.later N;replace f:=qa f N;have r0:=d.c 0;have p0:=d.free 0 o8;have r1:=d.c 1;have p1:=d.free 1 o8;have r2:=d.c 2;have p2:=d.free 2 o8;have r3:=d.c 3;have p3:=d.free 3 o8;have r4:=d.c 4;have p4:=d.free 4 o8;have r5:=d.c 5;have p5:=d.free 5 o8;have r6:=d.c 6;have p6:=d.free 6 o8;have r7:=d.c 7;have p7:=d.free 7 o8;have r8:=d.c 8;have p8:=d.free 8 o8;have B:=yz d rfl 0 0 0 0 0 0 0 0 (.slice none 0 0);have J:=qd9 f Z 0 0 0 0 0 0 0 0 (.slice none 0 0);have z:=aa.out _ 12 E.out oj J;go_wp2_with fail
  exact bodyPost_ret (qba (m:=tx0) (ev:=jc 12) B rfl rfl) rfl z.out
 have IF:=qe0 (decide_eq_false L) w2 M2.out;obtain⟨⟨s,t,V⟩,hnx⟩:∃x,qcp S.lw S.lc now=x:=⟨_,rfl⟩;have HN:Hid (qfl S now j o q r ws=V):=by show ji _ _ _ _ _ _ _ _=V;unfold ji;rw[if_neg (by rw[HOK.out];decide),if_neg (by rw[M.out];decide),if_neg (by rw[HC.out];decide),if_neg oe,hnx]
 have HNX:=hd1 hnx;have HF:Hid (S.log.length<200):=by show _<_;omega
 go_wp2_with fail
 refine IF.mono ?_;rintro e w3 ⟨rfl,N⟩;replace d:=d.later N;replace u:=u.later N;replace f:=qa f N;have M3:=hd1 (M2.out.later N);have k5:=M3.out.box.c 5;have k6:=M3.out.box.c 6;go_wp2_with fail
 refine(q62 HNX.out _).mono ?_;rintro e w4 ⟨rfl,hb4⟩;have HSZ:=hd1 ((d.later hb4).lt);replace d:=(d.later hb4).boxed (.cells #[U s,U t] 119);replace u:=(u.later hb4).boxed (.cells #[U s,U t] 119);replace f:=boxed (qa f hb4) (.cells #[U s,U t] 119);have RS:=qd.new (w:=w4) (T:=119) [U s,U t] rfl;have M4:Hid (zf (w4.alloc (.cells #[U s,U t] 119)) b lv bm F S log waits):=M3.out.later (boxed hb4 _);by_cases hne:V=0;rotate_left
 .have ee:jc V=.iface 30 (U V):=by unfold jc;rw[if_neg hne]
  rw[ee];have HEE:=hd1 ee;have r0:=d.c 0;have p0:=d.free 0 o8;have r1:=d.c 1;have p1:=d.free 1 o8;have r2:=d.c 2;have p2:=d.free 2 o8;have r3:=d.c 3;have p3:=d.free 3 o8;have r4:=d.c 4;have p4:=d.free 4 o8;have r5:=d.c 5;have p5:=d.free 5 o8;have r6:=d.c 6;have p6:=d.free 6 o8;have r7:=d.c 7;have p7:=d.free 7 o8;have r8:=d.c 8;have p8:=d.free 8 o8;have B:=yz d rfl 0 0 0 0 0 0 0 0 (.slice none 0 0);have J:=qd9 f Z 0 0 0 0 0 0 0 0 (.slice none 0 0);have z:=aa.out _ V HN.out hne J;rw[HEE.out]at z;go_wp2_with fail
  exact bodyPost_ret (qba (m:=tx0) B rfl rfl) rfl z.out
 subst hne;rw[show jc 0=.nilIface from rfl];obtain⟨D,hD⟩:∃D,qp S.id S.a0 S.a1 S.a2 S.a3=D:=⟨_,rfl⟩;have hd:=HI.out.dep S.id;rw[hD]at hd;have hwr:=qd1 hd;have HCT0:zv S now j o q r ws=⟨S.id,D+1,s,t,qch S.id D j,qcl S.id D o,qck S.id D q,qcj S.id D r,ws⟩:=by unfold zv;rw[hD,HNX.out]
 obtain⟨CI,w15,HF2,ho⟩:=qpk HI.out HN.out;have HL5:=hd2 w15 HF2;go_wp2_with fail
 obtain⟨W4,hW4⟩:∃W4,w4.alloc (.cells #[U s,U t] 119)=W4:=⟨_,rfl⟩;rw[hW4]at d u f RS M4 ⊢;have k0:=M4.out.box.c 0;have ks:=M4.out.box.cell _ _ (qmz P Q);rw[hD]at ks;have v1:=qk9 u P Q;have v2:=qwc u P Q;have hi4:S.id<4:=oe;have HD:=hd1 hD;have HGS:=hd1 Y.out.lt;have nb:b≠w.heap.size:=by have:=HGS.out b ((K.out.2.2 b).2 (.inl (.inl rfl)));omega
 go_region
 have O:=(q0b u P Q D).drew;have RT5:=(d.far (AD w.heap.size S.id.toNat) (U D) oi).drew;have RS5:=(RS.far (AD w.heap.size S.id.toNat) (U D) (by have:=HSZ.out;simp only;omega)).drew;have hb5:=(f.setCell (p:=AD w.heap.size S.id.toNat) (jcd _) (U D)).drew;have P5:=hd1 (Y.out.later hb5);obtain⟨g,hW5⟩:∃g,(W4.setCell (AD w.heap.size S.id.toNat) (U D)).drew=g:=⟨_,rfl⟩;rw[hW5]at O RT5 RS5 hb5 P5 ⊢;obtain⟨C,he0⟩:∃x,qch S.id D j=x:=⟨_,rfl⟩;obtain⟨v,he1⟩:∃x,qcl S.id D o=x:=⟨_,rfl⟩;obtain⟨y,he2⟩:∃x,qck S.id D q=x:=⟨_,rfl⟩;obtain⟨H,he3⟩:∃x,qcj S.id D r=x:=⟨_,rfl⟩;rw[he0,he1,he2,he3]at O HCT0;have HCT:=hd1 HCT0;have M5:Hid (zf g b lv bm F S log waits):=by
  have hbb:Bw W4 W4:=jcc _ _
  have:=M4.out.kept (w':=g) (λk R=>by
   rw[<-hW5];have hkk:=HGS.out k ((K.out.2.2 k).2 R);exact jce _ _ _ _ oL) (by rw[<-hW5];simp[World.setCell,World.drew])
  exact this
 have k0:=M5.out.box.c 0;have ks:=M5.out.box.cell _ _ (qmz P Q);rw[HD.out]at ks;have y0:=RS5.c 0;have y1:=RS5.c 1;have v0:=O.c0;have v1:=O.c1;have v2:=O.c2;have v3:=O.c3;have l1:=M5.out.box.lt;have l2:=RS5.lt;have l3:=O.lt;have Y0:=λ(w':Wl) (h:Bw g w')=>cell_later h k0;have Y1:=λ(w':Wl) (h:Bw g w')=>cell_later h ks;have Y2:=λ(w':Wl) (h:Bw g w')=>cell_later h y0;have Y3:=λ(w':Wl) (h:Bw g w')=>cell_later h y1;have Y4:=λ(w':Wl) (h:Bw g w')=>cell_later h v0;have Y5:=λ(w':Wl) (h:Bw g w')=>cell_later h v1;have Y6:=λ(w':Wl) (h:Bw g w')=>cell_later h v2;have Y7:=λ(w':Wl) (h:Bw g w')=>cell_later h v3;have hb50:=(jcc g.heap.size g).drew
 go_wp2_with fail
 go_region_held3 (λw'=>Bw g w') (repeat (first|(with_reducible assumption)|(with_reducible exact jcc _ _)|(with_reducible refine boxed ?_ _)|(with_reducible refine jc6 ?_)|(refine jdz ?_ (jcd _) _))) (fail)
 have hw2:IntKind.i64.wrap (D+1)=D+1:=by rw[<-qd1 hd];unfold wrap64 IntKind.wrap;simp[IntKind.signed,IntKind.bits];omega
 all_goals
  rw[hw2];have hx6:=boxed (jcc _ g) (.cells (List.toArray (T9 S.id (D+1) s t C v y H a ws.length A)) 122);have RX6:=(qd.new (w:=g) (T:=122) (T9 S.id (D+1) s t C v y H a ws.length A) rfl).drew;change qd (g.alloc (.cells (List.toArray (T9 S.id (D+1) s t C v y H a ws.length A)) 122)).drew g.heap.size (T9 S.id (D+1) s t C v y H a ws.length A)at RX6;have RT6:=(RT5.later hx6).drew;have hb6:=(qa hb5 hx6).drew;have M6:=hd1 ((M5.out.later hx6).later (jcc _ _).drew);have HS6:=hd2 RT5.lt RX6.lt;obtain⟨W6,hW6⟩:∃W6,(g.alloc (.cells (List.toArray (T9 S.id (D+1) s t C v y H a ws.length A)) 122)).drew=W6:=⟨_,rfl⟩;rw[hW6]at RX6 RT6 hb6 M6 HS6 ⊢;obtain⟨x0,x1,x2,x3,x4,x5,x6,x7,x8⟩:=RX6.c9;have CP:=qgq ⟨⟨S.id,D+1,s,t,C,v,y,H,ws⟩,a,A⟩ W6 (HW.out.later hb6) HL5.out.1 (by have:=HL5.out;simp only;omega);simp only[txV]at CP;have HLL:Hid (log.length=S.log.length):=by show _=_;rw[<-K.out.1];simp
  go_wp2_with fail
  refine CP.mono ?_;rintro e w7 ⟨m1,W,rfl,W71,hk1,hb7⟩;have HM1:=hd3 W W71 hk1;have AP:=qr3 m1 w7 (M6.out.later hb7) ⟨W71,λk e L=>by
   have q1:=hk1 k e;have q2:=M6.out.lt k L;omega⟩ (by rw[W];exact P) (by rw[W];exact Q) (by rw[W];have q1:=HI.out.len;have q2:=HF.out;have q3:=HL5.out;show S.l.length+ws.length<=1000;omega) (by have q1:=HLL.out;have q2:=HF.out;omega)
  have RX7:=RX6.later hb7;have RT7:=RT6.later hb7;have HB7:=hd2 (qa hb6 hb7) hb7.size;obtain⟨t1,wa1,wc1⟩:=m1;simp only at W;subst W;go_wp2_with fail
  refine AP.mono ?_;rintro e w8 ⟨rfl,lv',F',PM8,nf8,X⟩;have nfx:∀k,w.heap.size<=k->¬jn b lv bm F k:=λk R L=>by
   have:=HGS.out k ((K.out.2.2 k).2 (.inl L));omega
  have RX8:=RX7.kept (X.block _ RX7.lt (nfx _ (by have:=HS6.out;omega))) X.size;have RT8:=RT7.kept (X.block _ RT7.lt (nfx _ oe)) X.size;have W8:qr w8 a A ws:=qr.kept (m:=⟨⟨S.id,D+1,s,t,C,v,y,H,ws⟩,a,A⟩) (w:=w7) (HW.out.later HB7.out.1) (λk e=>X.block k (qr.blk_lt (m:=⟨⟨S.id,D+1,s,t,C,v,y,H,ws⟩,a,A⟩) (HW.out.later HB7.out.1) k e) (λL=>by
   obtain⟨v,off,y⟩:=e;exact HX.out k off v y ((K.out.2.2 k).2 (.inl L))))
  have HQ8:=hd3 PM8 nf8 X;have CP2:=qgq ⟨⟨S.id,D+1,s,t,C,v,y,H,ws⟩,a,A⟩ w8 W8 HL5.out.1 (by have:=HL5.out;simp only;omega);simp only[txV]at CP2;obtain⟨x0,x1,x2,x3,x4,x5,x6,x7,x8⟩:=RX8.c9;go_wp2_with fail
  refine CP2.mono ?_;rintro e w9 ⟨m2,hm2,rfl,W92,hk2,hb9⟩;obtain⟨t2,wa2,wc2⟩:=m2;simp only at hm2 W92;subst hm2;have i:=RT8.later hb9;have z:=qzm (wa2:=wa2) (wc2:=wc2) Y.out HB7.out.1 (by have:=HS6.out;have:=HB7.out.2;omega) HQ8.out.1 HQ8.out.2.1 HQ8.out.2.2 (λk e=>by have:=HM1.out.2.2 k e;have:=HS6.out;omega) K.out.1 K.out.2.1 K.out.2.2 hb9 W92 (λk e=>⟨by have:=hk2 k e;have:=HS6.out;have:=HB7.out.2;have:=HQ8.out.2.2.size;omega,hk2 k e⟩) (by rw[HCT.out]) HN.out;simp only[txV];have r0:=i.c 0;have p0:=i.free 0 o8;have r1:=i.c 1;have p1:=i.free 1 o8;have r2:=i.c 2;have p2:=i.free 2 o8;have r3:=i.c 3;have p3:=i.free 3 o8;have r4:=i.c 4;have p4:=i.free 4 o8;have r5:=i.c 5;have p5:=i.free 5 o8;have r6:=i.c 6;have p6:=i.free 6 o8;have r7:=i.c 7;have p7:=i.free 7 o8;have r8:=i.c 8;have p8:=i.free 8 o8;have B:=yz i rfl S.id (D+1) s t C v y H (.slice wa2 ws.length wc2);go_wp2_with fail
  exact bodyPost_ret (qba (m:=⟨⟨S.id,D+1,s,t,C,v,y,H,ws⟩,wa2,wc2⟩) B rfl rfl) rfl z.out
def qa2 {tmps:Av} {w:Wl} {b:Nat} {v:Ver} {k:Vl} (h:qd w b (qh v)) (a:tmps[6]?=some (PP b)) (c:tmps[7]?=some k):
 (results f217 tmps).run prog w=.ok (.tuple #[.agg (qh v).toArray,k]) w:=by
 obtain⟨d,e,f,g,i,j⟩:=h.c6;simp[results,results217,go_sem,a,c,d,e,f,g,i,j,qh]
def qq1 {b so:Nat} {F:Nat->Prop} {l:List Hd} (key a0 a1 a2 a3:Int) (w:Wl) (hS:qir w b so F l) (hl:l.length<=1000) (ha:qfk l) (ho:∀h∈l,qau h.v=true):
 Ca 217 #[.pointer (some (AD b so)),U key,.agg #[U a0,U a1,U a2,U a3]] w λe w'=>e=.returned (.tuple #[.agg (qh (zz key a0 a1 a2 a3 l).1).toArray,jc (zz key a0 a1 a2 a3 l).2])/\Bw w w':=by
 have RA:=(qd.new (w:=w) (T:=113) [U a0,U a1,U a2,U a3] rfl).boxed (.cells YA 218);have s:=qd.new (w:=w.alloc (.cells #[U a0,U a1,U a2,U a3] 113)) (T:=218) (n:=w.heap.size+1) (qh jq) oi;change qd ((w.alloc (.cells #[U a0,U a1,U a2,U a3] 113)).alloc (.cells YA 218)) (w.heap.size+1) (qh jq)at s;have t:=boxed (boxed (jcc _ w) (.cells #[U a0,U a1,U a2,U a3] 113)) (.cells YA 218);obtain⟨W,N⟩:∃W,(w.alloc (.cells #[U a0,U a1,U a2,U a3] 113)).alloc (.cells YA 218)=W:=⟨_,rfl⟩;obtain⟨r0,r1,r2,r3,r4,r5⟩:=s.c6;have f0:=s.free 0 oq;have f1:=s.free 1 oq;have f2:=s.free 2 oq;have f3:=s.free 3 oq;have f4:=s.free 4 oq;have f5:=s.free 5 oq;cases h:inB key 0 7
 .have H:=hd1 h;have G:Hid (zz key a0 a1 a2 a3 l=(jq,2)):=by show zz key a0 a1 a2 a3 l=_;unfold zz;rw[h];rfl
  clear h;rw[N]at r0 r1 r2 r3 r4 r5 f0 f1 f2 f3 f4 f5;go_enter func217,ntmps217;go_wp2_with fail
  rw[N]at RA s t;clear N;refine(qj4 H.out _).mono ?_;rintro e d ⟨rfl,rfl⟩;go_wp2_with fail
  rw[G.out];refine bodyPost_ret (qa2 (v:=jq) (s.verSet jq) rfl rfl) rfl ⟨rfl,jp t oe jq⟩
 have hk:=jk.1 h;obtain⟨k,rfl⟩:∃k:Nat,key=(k:Int):=⟨key.toNat,oe⟩;have O:k<8:=oe;have hkz:(k:Int)<8:=oe;obtain⟨vs,B,R,PH,hF⟩:=id hS;obtain⟨a,A,hvk,hV⟩:=qfo (R.own k O);have hlk:=jcn (PH.len O) hl;have H:=hd1 h;have LB:=PH.qlast R ha O a0 a1 a2 a3;obtain⟨K,hbest⟩:∃K,qdi a0 a1 a2 a3 (B k)=K:=⟨_,rfl⟩;have G:Hid (zz k a0 a1 a2 a3 l=qjj K):=by show zz k a0 a1 a2 a3 l=_;unfold zz;rw[h,LB,hbest];rfl
 have LA:=qwf a0 a1 a2 a3 (L:=B k) (a:=a) (cap:=A);rw[hbest]at LA;have st:=PH.sites ho O;have R1:=R.later t;have V1:=hV.later t;have k0:((w.alloc (.cells #[U a0,U a1,U a2,U a3] 113)).alloc (.cells YA 218)).cell? (AD b (so+k))=some (.slice a (B k).length A):=by rw[<-hvk];exact R1.cell O
 obtain⟨q0,q1,q2,q3⟩:=RA.c4;rw[N]at r0 r1 r2 r3 r4 r5 f0 f1 f2 f3 f4 f5 k0 q0 q1 q2 q3 RA s t R1 V1;have BE:=hd1 hbest;have M:Hid (∀x:qb W,Ca 218 #[.slice a (B k).length A,.agg #[U a0,U a1,U a2,U a3]] x.val λe w'=>e=.returned (.tuple #[.agg (qa6 K).toArray,.bool (qga K)])/\Below x.val.heap.size x.val w'):=λx=>LA x.val (V1.later x.below) st hlk;clear h hk LB hbest LA st;go_enter func217,ntmps217
 go_wp2_with fail
 clear N;refine(qj4 H.out _).mono ?_;rintro e d ⟨rfl,rfl⟩;cases K with
 |none=>
  have I:Hid (∀x:qb d,Ca 218 #[.slice a (B k).length A,.agg #[U a0,U a1,U a2,U a3]] x.val λe w'=>e=.returned (.tuple #[.agg YA,.bool false])/\Below x.val.heap.size x.val w'):=M.out;clear M;have q:=boxed (jcc _ d) (.cells YA 218);have p0:=cell_later q q0;have p1:=cell_later q q1;have p2:=cell_later q q2;have p3:=cell_later q q3;have p4:=cell_later q k0;clear q;go_wp2_with fail
  go_region_law (first
   |(refine je rfl 218 #[.slice a (B k).length A,.agg #[U a0,U a1,U a2,U a3]] (by go_simp) (I.out ⟨d.drew,(jcc _ d).drew⟩) ?_
     rintro e C ⟨rfl,J⟩;refine⟨_,rfl,?_⟩;have P:=hd1 (qa (jcc _ d).drew J);clear J)
   |(refine je rfl 218 #[.slice a (B k).length A,.agg #[U a0,U a1,U a2,U a3]] (by go_simp) (I.out ⟨(d.alloc (.cells YA 218)).drew,(boxed (jcc _ d) _).drew⟩) ?_
     rintro e Q ⟨rfl,f⟩;refine⟨_,rfl,?_⟩;have S:=hd1 (qa (boxed (jcc _ d) _).drew f);have p:=((qd.new (w:=d) (T:=218) (qh jq) rfl).drew).later f;obtain⟨V,X,Y,Z,z4,z5⟩:=p.c6;have y0:=p.free 0 oq;have y1:=p.free 1 oq;have y2:=p.free 2 oq;have y3:=p.free 3 oq;have y4:=p.free 4 oq;have y5:=p.free 5 oq;clear f))
  all_goals first
   |(have f:=boxed P.out (.cells YA 218)
     have r:=qd.new (w:=C) (T:=218) (qh jq) rfl;change qd (C.alloc (.cells YA 218)) C.heap.size (qh jq)at r;have c:=s.later f;obtain⟨s0,s1,s2,s3,s4,s5⟩:=c.c6;have g0:=c.free 0 oq;have g1:=c.free 1 oq;have g2:=c.free 2 oq;have g3:=c.free 3 oq;have g4:=c.free 4 oq;have g5:=c.free 5 oq;obtain⟨t0,t1,t2,t3,t4,t5⟩:=r.c6;have D:=jp (qa t f) (b:=w.heap.size+1) oe jq;have E:=c.verSet jq;clear f c r;go_wp2_with fail
     rw[G.out];refine bodyPost_ret (qa2 (v:=jq) E rfl rfl) rfl ⟨rfl,D⟩)
   |(obtain⟨y,z⟩:∃y,((((((Q.setCell (AD d.heap.size 0) (U 0)).setCell (AD d.heap.size 1) (U 0)).setCell (AD d.heap.size 2) (U 0)).setCell (AD d.heap.size 3) (U 0)).setCell (AD d.heap.size 4) (.string ⟨#[]⟩)).setCell (AD d.heap.size 5) (.bool false))=y:=⟨_,rfl⟩
     have f:Bw d y:=by rw[<-z];exact jp S.out (b:=d.heap.size) (jcd _) jq
     have r:qd y d.heap.size (qh jq):=by rw[<-z];exact p.verSet jq
     rw[z];clear z V X Y Z z4 z5 y0 y1 y2 y3 y4 y5;have c:=s.later f;obtain⟨s0,s1,s2,s3,s4,s5⟩:=c.c6;have g0:=c.free 0 oq;have g1:=c.free 1 oq;have g2:=c.free 2 oq;have g3:=c.free 3 oq;have g4:=c.free 4 oq;have g5:=c.free 5 oq;obtain⟨t0,t1,t2,t3,t4,t5⟩:=r.c6;have D:=jp (qa t f) (b:=w.heap.size+1) oe jq;have E:=c.verSet jq;clear f c r;go_wp2_with fail
     rw[G.out];refine bodyPost_ret (qa2 (v:=jq) E rfl rfl) rfl ⟨rfl,D⟩)
 |some u=>
  obtain⟨g,i,j,m,o,ug⟩:=u;cases ug
  .have I:Hid (∀x:qb d,Ca 218 #[.slice a (B k).length A,.agg #[U a0,U a1,U a2,U a3]] x.val λe w'=>e=.returned (.tuple #[.agg #[U g,U i,U j,U m,.string o,.bool false],.bool true])/\Below x.val.heap.size x.val w'):=M.out;clear M;have q:=boxed (jcc _ d) (.cells YA 218);have p0:=cell_later q q0;have p1:=cell_later q q1;have p2:=cell_later q q2;have p3:=cell_later q q3;have p4:=cell_later q k0;clear q;go_wp2_with fail
   go_region_law (first
        |(refine je rfl 218 #[.slice a (B k).length A,.agg #[U a0,U a1,U a2,U a3]] (by go_simp) (I.out ⟨d.drew,(jcc _ d).drew⟩) ?_
          rintro e C ⟨rfl,J⟩;refine⟨_,rfl,?_⟩;have P:=hd1 (qa (jcc _ d).drew J);clear J)
        |(refine je rfl 218 #[.slice a (B k).length A,.agg #[U a0,U a1,U a2,U a3]] (by go_simp) (I.out ⟨(d.alloc (.cells YA 218)).drew,(boxed (jcc _ d) _).drew⟩) ?_
          rintro e Q ⟨rfl,f⟩;refine⟨_,rfl,?_⟩;have S:=hd1 (qa (boxed (jcc _ d) _).drew f);have p:=((qd.new (w:=d) (T:=218) (qh jq) rfl).drew).later f;obtain⟨V,X,Y,Z,z4,z5⟩:=p.c6;have y0:=p.free 0 oq;have y1:=p.free 1 oq;have y2:=p.free 2 oq;have y3:=p.free 3 oq;have y4:=p.free 4 oq;have y5:=p.free 5 oq;clear f))
   all_goals first
        |(have f:=boxed P.out (.cells #[U g,U i,U j,U m,.string o,.bool false] 218)
          have r:=qd.new (w:=C) (T:=218) (qh ⟨g,i,j,m,o,false⟩) rfl;change qd (C.alloc (.cells #[U g,U i,U j,U m,.string o,.bool false] 218)) C.heap.size (qh ⟨g,i,j,m,o,false⟩)at r;have c:=s.later f;obtain⟨s0,s1,s2,s3,s4,s5⟩:=c.c6;have g0:=c.free 0 oq;have g1:=c.free 1 oq;have g2:=c.free 2 oq;have g3:=c.free 3 oq;have g4:=c.free 4 oq;have g5:=c.free 5 oq;obtain⟨t0,t1,t2,t3,t4,t5⟩:=r.c6;have D:=jp (qa t f) (b:=w.heap.size+1) oe jq;have E:=c.verSet jq;have hbu:=jp (qa t f) (b:=w.heap.size+1) oe ⟨g,i,j,m,o,false⟩;have RU2:=c.verSet ⟨g,i,j,m,o,false⟩;clear f c r;go_wp2_with fail
          rw[G.out];have e:qjj (some ⟨g,i,j,m,o,false⟩)=(⟨g,i,j,m,o,false⟩,0):=rfl;rw[e];refine bodyPost_ret (qa2 (v:=⟨g,i,j,m,o,false⟩) RU2 rfl rfl) rfl ⟨rfl,hbu⟩)
        |(obtain⟨y,z⟩:∃y,((((((Q.setCell (AD d.heap.size 0) (U g)).setCell (AD d.heap.size 1) (U i)).setCell (AD d.heap.size 2) (U j)).setCell (AD d.heap.size 3) (U m)).setCell (AD d.heap.size 4) (.string o)).setCell (AD d.heap.size 5) (.bool false))=y:=⟨_,rfl⟩
          have f:Bw d y:=by rw[<-z];exact jp S.out (b:=d.heap.size) (jcd _) ⟨g,i,j,m,o,false⟩
          have r:qd y d.heap.size (qh ⟨g,i,j,m,o,false⟩):=by rw[<-z];exact p.verSet ⟨g,i,j,m,o,false⟩
          rw[z];clear z V X Y Z z4 z5 y0 y1 y2 y3 y4 y5;have c:=s.later f;obtain⟨s0,s1,s2,s3,s4,s5⟩:=c.c6;have g0:=c.free 0 oq;have g1:=c.free 1 oq;have g2:=c.free 2 oq;have g3:=c.free 3 oq;have g4:=c.free 4 oq;have g5:=c.free 5 oq;obtain⟨t0,t1,t2,t3,t4,t5⟩:=r.c6;have D:=jp (qa t f) (b:=w.heap.size+1) oe jq;have E:=c.verSet jq;have hbu:=jp (qa t f) (b:=w.heap.size+1) oe ⟨g,i,j,m,o,false⟩;have RU2:=c.verSet ⟨g,i,j,m,o,false⟩;clear f c r;go_wp2_with fail
          rw[G.out];have e:qjj (some ⟨g,i,j,m,o,false⟩)=(⟨g,i,j,m,o,false⟩,0):=rfl;rw[e];refine bodyPost_ret (qa2 (v:=⟨g,i,j,m,o,false⟩) RU2 rfl rfl) rfl ⟨rfl,hbu⟩)
  have I:Hid (∀x:qb d,Ca 218 #[.slice a (B k).length A,.agg #[U a0,U a1,U a2,U a3]] x.val λe w'=>e=.returned (.tuple #[.agg #[U g,U i,U j,U m,.string o,.bool true],.bool true])/\Below x.val.heap.size x.val w'):=M.out;clear M;have q:=boxed (jcc _ d) (.cells YA 218);have p0:=cell_later q q0;have p1:=cell_later q q1;have p2:=cell_later q q2;have p3:=cell_later q q3;have p4:=cell_later q k0;clear q;go_wp2_with fail
  go_region_law (first
   |(refine je rfl 218 #[.slice a (B k).length A,.agg #[U a0,U a1,U a2,U a3]] (by go_simp) (I.out ⟨d.drew,(jcc _ d).drew⟩) ?_
     rintro e C ⟨rfl,J⟩;refine⟨_,rfl,?_⟩;have P:=hd1 (qa (jcc _ d).drew J);clear J)
   |(refine je rfl 218 #[.slice a (B k).length A,.agg #[U a0,U a1,U a2,U a3]] (by go_simp) (I.out ⟨(d.alloc (.cells YA 218)).drew,(boxed (jcc _ d) _).drew⟩) ?_
     rintro e Q ⟨rfl,f⟩;refine⟨_,rfl,?_⟩;have S:=hd1 (qa (boxed (jcc _ d) _).drew f);have p:=((qd.new (w:=d) (T:=218) (qh jq) rfl).drew).later f;obtain⟨V,X,Y,Z,z4,z5⟩:=p.c6;have y0:=p.free 0 oq;have y1:=p.free 1 oq;have y2:=p.free 2 oq;have y3:=p.free 3 oq;have y4:=p.free 4 oq;have y5:=p.free 5 oq;clear f))
  all_goals first
   |(have f:=boxed P.out (.cells #[U g,U i,U j,U m,.string o,.bool true] 218)
     have r:=qd.new (w:=C) (T:=218) (qh ⟨g,i,j,m,o,true⟩) rfl;change qd (C.alloc (.cells #[U g,U i,U j,U m,.string o,.bool true] 218)) C.heap.size (qh ⟨g,i,j,m,o,true⟩)at r;have c:=s.later f;obtain⟨s0,s1,s2,s3,s4,s5⟩:=c.c6;have g0:=c.free 0 oq;have g1:=c.free 1 oq;have g2:=c.free 2 oq;have g3:=c.free 3 oq;have g4:=c.free 4 oq;have g5:=c.free 5 oq;obtain⟨t0,t1,t2,t3,t4,t5⟩:=r.c6;have D:=jp (qa t f) (b:=w.heap.size+1) oe jq;have E:=c.verSet jq;have hbu:=jp (qa t f) (b:=w.heap.size+1) oe ⟨g,i,j,m,o,true⟩;have RU2:=c.verSet ⟨g,i,j,m,o,true⟩;clear f c r;go_wp2_with fail
     rw[G.out];have e:qjj (some ⟨g,i,j,m,o,true⟩)=(jq,8):=rfl;rw[e];refine bodyPost_ret (qa2 (v:=jq) E rfl rfl) rfl ⟨rfl,D⟩)
   |(obtain⟨y,z⟩:∃y,((((((Q.setCell (AD d.heap.size 0) (U g)).setCell (AD d.heap.size 1) (U i)).setCell (AD d.heap.size 2) (U j)).setCell (AD d.heap.size 3) (U m)).setCell (AD d.heap.size 4) (.string o)).setCell (AD d.heap.size 5) (.bool true))=y:=⟨_,rfl⟩
     have f:Bw d y:=by rw[<-z];exact jp S.out (b:=d.heap.size) (jcd _) ⟨g,i,j,m,o,true⟩
     have r:qd y d.heap.size (qh ⟨g,i,j,m,o,true⟩):=by rw[<-z];exact p.verSet ⟨g,i,j,m,o,true⟩
     rw[z];clear z V X Y Z z4 z5 y0 y1 y2 y3 y4 y5;have c:=s.later f;obtain⟨s0,s1,s2,s3,s4,s5⟩:=c.c6;have g0:=c.free 0 oq;have g1:=c.free 1 oq;have g2:=c.free 2 oq;have g3:=c.free 3 oq;have g4:=c.free 4 oq;have g5:=c.free 5 oq;obtain⟨t0,t1,t2,t3,t4,t5⟩:=r.c6;have D:=jp (qa t f) (b:=w.heap.size+1) oe jq;have E:=c.verSet jq;have hbu:=jp (qa t f) (b:=w.heap.size+1) oe ⟨g,i,j,m,o,true⟩;have RU2:=c.verSet ⟨g,i,j,m,o,true⟩;clear f c r;go_wp2_with fail
     rw[G.out];have e:qjj (some ⟨g,i,j,m,o,true⟩)=(jq,8):=rfl;rw[e];refine bodyPost_ret (qa2 (v:=jq) E rfl rfl) rfl ⟨rfl,D⟩)
def qku {tmps:Av} {w:Wl} {v:Ver} {ev:Vl} (h:qd w b (qh v)) (a:tmps[6]?=some (PP b)) (c:tmps[7]?=some ev):
 (results f171 tmps).run prog w=.ok (.tuple #[.agg (qh v).toArray,ev]) w:=by
 obtain⟨d,e,f,g,i,j⟩:=h.c6;simp[results,results171,go_sem,a,c,d,e,f,g,i,j,qh]
def q3x {lv:Vl} {bm:Nat} {F:Np} {S:qe} {log waits:List TxM} (A a0 a1 a2 a3:Int) (w:Wl) (h:zf w b lv bm F S log waits) (r:j3 S):
 Ca 171 #[PP b,U A,.agg #[U a0,U a1,U a2,U a3]] w λe w'=>
  e=.returned (.tuple #[.agg (qh (qbq S A a0 a1 a2 a3).1).toArray,jc (qbq S A a0 a1 a2 a3).2])/\Bw w w':=by
 have d:=(qo.new w 113 a0 a1 a2 a3).boxed (.cells YA 218);have a:qd ((w.alloc (.cells #[U a0,U a1,U a2,U a3] 113)).alloc (.cells YA 218)) (w.heap.size+1) (qh jq):=qd.new (w:=w.alloc (.cells #[U a0,U a1,U a2,U a3] 113)) (T:=218) (n:=w.heap.size+1) YL oi;have g:=boxed (boxed (jcc _ w) (.cells #[U a0,U a1,U a2,U a3] 113)) (.cells YA 218);have f:Hid (zf _ b lv bm F S log waits):=h.later g;have HH:=hd1 h;clear h;have C:=qb.cell (f.out.box.cell 1 _ rfl);have D:=qb.cell (f.out.box.cell 2 _ rfl);have E:=qb.cell (f.out.box.cell 3 _ rfl);have G:=qb.cell (f.out.box.cell 4 _ rfl);have H:=qb.cell d.c0;have I:=qb.cell d.c1;have J:=qb.cell d.c2;have K:=qb.cell d.c3;go_enter func171,ntmps171;go_wp2_with fail
 refine wrl ?_;repeat (go_big_quiet_step (first|rfl|(go_at_call 157;exact qg (qox _ _ _ _ _ _ _ _ _))))
 refine wpQuiet_nil ?_;rintro t ⟨⟨_,i⟩,rfl⟩;replace a:=a.later i;replace d:=qo.later i d;replace g:=qa g i;have L:=hd1 (f.out.later i);clear f C D E G H I J K i;cases hc:qa8 S.a0 S.a1 S.a2 S.a3 a0 a1 a2 a3
 .have u:Hid (qbq S A a0 a1 a2 a3=(jq,10)):=by show qbq S A a0 a1 a2 a3=(jq,10);unfold qbq;rw[hc];rfl
  have M:=a.cell 0 _ rfl;have p0:=a.free 0 oq;have N:=a.cell 1 _ rfl;have p1:=a.free 1 oq;have O:=a.cell 2 _ rfl;have p2:=a.free 2 oq;have P:=a.cell 3 _ rfl;have p3:=a.free 3 oq;have Q:=a.cell 4 _ rfl;have R:=a.free 4 oq;have V:=a.cell 5 _ rfl;have W:=a.free 5 oq;have y:=qn6 a 0 0 0 0 ⟨#[]⟩ false;have z:=qn3 g (show w.heap.size<=w.heap.size+1 by omega) 0 0 0 0 ⟨#[]⟩ false;clear hc;go_wp2_with fail
  refine bodyPost_ret (qku (v:=jq) (ev:=jc 10) y rfl rfl) rfl ⟨?_,z⟩;rw[u.out]
 obtain⟨⟨⟨j,k,m,o,p,q⟩,ev⟩,s⟩:∃x,zz A a0 a1 a2 a3 S.l=x:=⟨_,rfl⟩;have u:Hid (qbq S A a0 a1 a2 a3=(⟨j,k,m,o,p,q⟩,ev)):=by show qbq S A a0 a1 a2 a3=_;unfold qbq;rw[hc,<-s];rfl
 have X:Hid (Ca 217 #[.pointer (some (AD b 25)),U A,.agg #[U a0,U a1,U a2,U a3]] t.drew λe w'=>e=.returned (.tuple #[.agg #[U j,U k,U m,U o,.string p,.bool q],jc ev])/\qo w' w.heap.size a0 a1 a2 a3/\qd w' (w.heap.size+1) (qh jq)/\Bw w w'):=by
  refine(qq1 A a0 a1 a2 a3 t.drew (L.out.later (jcc _ t).drew).st (by have:=r.len;have:=r.log;omega) r.apart r.ok).mono ?_;rintro e w' ⟨rfl,B⟩;refine⟨by rw[s];rfl,qo.later B d.drew,a.drew.later B,qa g.drew B⟩
 have HRV:=hd1 s;have T0:=λ(w':Wl) (h:qo w' w.heap.size a0 a1 a2 a3)=>h.c0;have T1:=λ(w':Wl) (h:qo w' w.heap.size a0 a1 a2 a3)=>h.c1;have T2:=λ(w':Wl) (h:qo w' w.heap.size a0 a1 a2 a3)=>h.c2;have T3:=λ(w':Wl) (h:qo w' w.heap.size a0 a1 a2 a3)=>h.c3;have RA0:=d.drew
 have Y:w.heap.size+1≠w.heap.size:=oe;clear hc s d a;go_wp2_with fail
 go_region_held3 (λw'=>qo w' w.heap.size a0 a1 a2 a3) (first|(with_reducible assumption)|(with_reducible exact qt0 oG Y _ _ _ _ _ _))
  (first|(go_at_call 217;with_reducible refine X.out.mono ?_;rintro e w5 ⟨rfl,RA5,c,Z⟩;have M:=c.cell 0 _ rfl;have p0:=c.free 0 oq;have N:=c.cell 1 _ rfl;have p1:=c.free 1 oq;have O:=c.cell 2 _ rfl;have p2:=c.free 2 oq;have P:=c.cell 3 _ rfl;have p3:=c.free 3 oq;have Q:=c.cell 4 _ rfl;have R:=c.free 4 oq;have V:=c.cell 5 _ rfl;have W:=c.free 5 oq))
 all_goals
  have y:=qn6 c j k m o p q;have z:=qn3 Z (show w.heap.size<=w.heap.size+1 by omega) j k m o p q;go_wp2_with fail
  refine bodyPost_ret (qku (v:=⟨j,k,m,o,p,q⟩) (ev:=jc ev) y rfl rfl) rfl ⟨?_,z⟩;rw[u.out]
end
def qyr {b:Nat} {G:Np} {S:qe} (d a0 a1 a2 a3:Int) (w:Wl) (h:PS w b G S) (a:j3 S):
 Ca 171 #[PP b,U d,.agg #[U a0,U a1,U a2,U a3]] w λe w'=>
  e=.returned (.tuple #[.agg (qh (qbq S d a0 a1 a2 a3).1).toArray,jc (qbq S d a0 a1 a2 a3).2])/\Bw w w':=by
 obtain⟨i,j,F,log,waits,h,_,_,_⟩:=h;exact q3x d a0 a1 a2 a3 w h a
section
open Tryz Go.Maps
variable {k:Int}
def q0f (h:(Lit.int .i64 k).wf=true):keyOf prog 3 (.int .i64 k)=some (.int .i64 k):=by
 unfold keyOf;rw[underlying3];simp[mapKey,h,underlying3]
variable {v:Bool}
def qcy {f:Array Oper} {rest:List Oper} {o:Oper} {a:Act} {Q:Exit->Act->Wv} (w:Wl) (g:o.guard=none) (c d:Operand) (h:o.op=Op.lookup 190 c d true) {n:Nat} {D:DataW Vl} {u:Vl}
 (i:a.eval c=.map (some A)) (j:w.ownsMap prog 3 qcd A n D) (m:a.eval d=.int .i64 k) (p:keyOf prog 3 (.int .i64 k)=some (.int .i64 k)) (q:Maps.has D (.int .i64 k)=v) (r:D.atKey (.int .i64 k) (.held qqt)=.held u)
 (t:wpList prog f Q rest (a.put o.dst (.tuple #[u,.bool v])) w):wpList prog f Q (o::rest) a w:=by
 refine wpList_lookup_own_ok w g c d 190 h 3 127 qtl underlying190 qcd (q82 w) (.held qqt) [] rfl A n D i j (.int .i64 k) (.int .i64 k) m p ?_;intro y z x;have e:=qmj x;rw[r]at e;injection e with e;rw[<-e,q];exact t
def qes.look (h:qes w A l) (k:Int):∃D,w.ownsMap prog 3 qcd A (jh l).length D/\Maps.has D (.int .i64 k)=(qay l k).isSome/\D.atKey (.int .i64 k) (.held qqt)=.held (wrV (qav l k)):=by
 obtain⟨_,D,c,a⟩:=h;refine⟨D,c,?_⟩;cases ho:qay l k with
 |none=>
  have e:qav l k=⟨0,⟨#[]⟩,false⟩:=by unfold qav;rw[ho];rfl
  rw[e];exact⟨(a.no k ho).1,(a.no k ho).2 _⟩
 |some x=>
  have e:qav l k=x:=by unfold qav;rw[ho];rfl
  rw[e];exact⟨(a.has k x ho).1,(a.has k x ho).2 _⟩
def qes.len (h:qes w A l) (a:Tp):(Builtin.len_ #[190] a #[.map (some A)]).run prog w=.ok (.int .i64 (jh l).length) w:=by
 obtain⟨_,D,c,d⟩:=h;have:=c.len underlying190 a;rw[d.size]at this;exact this
def qes.later {w':Wl} (h:qes w A l) (a:Bw w w'):qes w' A l:=h.kept (a.block A h.lt)
def q89 (x:Wr):Int:=if x.gone=true then 8 else 0
def q9c (x:Wr):By:=if x.gone=true then ⟨#[]⟩else x.data
def qwg (x:Wr) (w:Wl):
 Ca 170 #[wrV x] w (Rn (.tuple #[.string (q9c x),jc (q89 x)]) w):=by
 obtain⟨c,d,a⟩:=x;show Ca 170 #[.agg #[.int .i64 c,.string d,.bool a]] w _;have e:=boxed (jcc _ w) (.cells #[.int .i64 c,.string d,.bool a] 127);cases a
 .go_enter func170,ntmps170;go_wp2_with fail
  go_ret2;exact⟨rfl,boxed (jcc _ w) _⟩
 go_enter func170,ntmps170;go_wp2_with fail
 go_ret2;exact⟨rfl,boxed (jcc _ w) _⟩
def qxe {I:Nat} {G T:Nat->Prop} {S:qe} (key:Int) (V:(Lit.int .i64 key).wf=true) (w:Wl) (h:PSe w b G s) (W:PS w I T S) (X:j3 S):
 Ca 134 #[PP b,PP I,.int .i64 key] w (Rn (.tuple #[.string (vi S s key).1,jc (vi S s key).2]) w):=by
 have J:=hd1 (q0f V);have K:=hd2 W X;obtain⟨mv,B,Y⟩:=h;have Z:=hd1 B;have L:=B.c 4;obtain⟨g,rfl,_,_⟩|⟨g,A,rfl,_,hM,_⟩:=Y
 .rw[g]at L;have i:Hid (vi S s key=(⟨#[]⟩,6)):=by show _=_;unfold vi;rw[g];rfl
  rw[i.out];go_enter func134,ntmps134;go_wp2_with fail
  go_ret2;exact⟨rfl,jcc _ _⟩
 rw[g]at L;have k9:=B.c 9;obtain⟨D,M,m,n⟩:=hM.look key;cases hw:qay s.ws key with
 |none=>
  have q:qav s.ws key=⟨0,⟨#[]⟩,false⟩:=by unfold qav;rw[hw];rfl
  rw[hw]at m;rw[q]at n;have r:Hid (Maps.has D (.int .i64 key)=false):=m;have t:Hid (D.atKey (.int .i64 key) (.held qqt)=.held (.agg #[.int .i64 0,.string ⟨#[]⟩,.bool false])):=n;obtain⟨⟨⟨y,z,rs,C,o,E⟩,N⟩,O⟩:∃x,qbq S key s.s0 s.s1 s.s2 s.s3=x:=⟨_,rfl⟩;have i:Hid (vi S s key=(o,N)):=by show _=_;unfold vi;rw[g,hw,O];rfl
  have j:=boxed (jcc _ w) (.cells #[.int .i64 0,.string ⟨#[]⟩,.bool false] 127);have P:=qyr key s.s0 s.s1 s.s2 s.s3 _ (K.out.1.later j) K.out.2;rw[O]at P;have p:=Z.out.later j;have y5:=p.c 5;have y6:=p.c 6;have y7:=p.c 7;have y8:=p.c 8;rw[i.out];go_enter func134,ntmps134;go_wp2_with (at_lookup;refine qcy _ rfl _ _ rfl (u:=.agg #[.int .i64 0,.string ⟨#[]⟩,.bool false]) rfl M rfl J.out r.out t.out ?_)
  refine P.mono ?_;rintro e w3 ⟨rfl,F⟩;rw[show qh ((⟨y,z,rs,C,o,E⟩,N):Ver×Int).1=[.int .i64 y,.int .i64 z,.int .i64 rs,.int .i64 C,.string o,.bool E]from rfl];have hb4:=boxed (qa j F) (.cells #[.int .i64 y,.int .i64 z,.int .i64 rs,.int .i64 C,.string o,.bool E] 218);go_wp2_with fail
  go_ret2;exact⟨rfl,hb4⟩
 |some x=>
  obtain⟨d,f,a⟩:=x;have q:qav s.ws key=⟨d,f,a⟩:=by unfold qav;rw[hw];rfl
  rw[hw]at m;rw[q]at n;have r:Hid (Maps.has D (.int .i64 key)=true):=m;have t:Hid (D.atKey (.int .i64 key) (.held qqt)=.held (.agg #[.int .i64 d,.string f,.bool a])):=n;have i:Hid (vi S s key=(q9c ⟨d,f,a⟩,q89 ⟨d,f,a⟩)):=by show _=_;unfold vi q9c q89;rw[g,hw];cases a<;>rfl
  have H:=qwg ⟨d,f,a⟩ (w.alloc (.cells #[.int .i64 d,.string f,.bool a] 127));have j:=boxed (jcc _ w) (.cells #[.int .i64 d,.string f,.bool a] 127);obtain⟨Q,hvd⟩:∃Q,q9c ⟨d,f,a⟩=Q:=⟨_,rfl⟩;obtain⟨R,hve⟩:∃R,q89 ⟨d,f,a⟩=R:=⟨_,rfl⟩;rw[hvd,hve]at H i;rw[show wrV ⟨d,f,a⟩=.agg #[.int .i64 d,.string f,.bool a]from rfl]at H;rw[i.out];go_enter func134,ntmps134;go_wp2_with (at_lookup;refine qcy _ rfl _ _ rfl (u:=.agg #[.int .i64 d,.string f,.bool a]) rfl M rfl J.out r.out t.out ?_)
  refine H.mono ?_;rintro e w3 ⟨rfl,F⟩;go_wp2_with fail
  go_ret2;exact⟨rfl,qa j F⟩
def qu3 (H:Int) (y:(Lit.int .i64 H).wf=true) (w:Wl) (B:qd w b (yj s (.map (some A)))) (p:qes w A s.ws) (q:decide (qay s.ws H=none/\5<=(jh s.ws).length)=!v):
 Ca 165 #[PP b,.int .i64 H] w (Rn (.bool v) w):=by
 have r:=hd1 (q0f y);have C:=B.c 9;obtain⟨D,t,d,f⟩:=p.look H;cases hw:qay s.ws H with
 |none=>
  have m:qav s.ws H=⟨0,⟨#[]⟩,false⟩:=by unfold qav;rw[hw];rfl
  rw[hw]at d;rw[m]at f;have n:Hid (Maps.has D (.int .i64 H)=false):=d;have o:Hid (D.atKey (.int .i64 H) (.held qqt)=.held (.agg #[.int .i64 0,.string ⟨#[]⟩,.bool false])):=f;have a:=boxed (jcc _ w) (.cells #[.int .i64 0,.string ⟨#[]⟩,.bool false] 127);have E:=(p.later a).len;have F:=(B.later a).c 9;have e:decide (((jh s.ws).length:Int)<5)=v:=by
   cases v
   .have:=of_decide_eq_true q;exact decide_eq_false oe
   have:=of_decide_eq_false q;refine decide_eq_true ?_;have G:¬5<=(jh s.ws).length:=λh=>this ⟨hw,h⟩;omega
  go_enter func165,ntmps165;go_wp2_with (at_lookup;refine qcy _ rfl _ _ rfl (u:=.agg #[.int .i64 0,.string ⟨#[]⟩,.bool false]) rfl t rfl r.out n.out o.out ?_)
  go_ret;refine⟨?_,a⟩;first|rfl|(simp[e])|(rw[e])
 |some x=>
  obtain⟨g,i,j⟩:=x;have m:qav s.ws H=⟨g,i,j⟩:=by unfold qav;rw[hw];rfl
  rw[hw]at d;rw[m]at f;have n:Hid (Maps.has D (.int .i64 H)=true):=d;have o:Hid (D.atKey (.int .i64 H) (.held qqt)=.held (.agg #[.int .i64 g,.string i,.bool j])):=f;have a:=boxed (jcc _ w) (.cells #[.int .i64 g,.string i,.bool j] 127);have z:v=true:=by cases v<;>simp_all
  subst z;go_enter func165,ntmps165;go_wp2_with (at_lookup;refine qcy _ rfl _ _ rfl (u:=.agg #[.int .i64 g,.string i,.bool j]) rfl t rfl r.out n.out o.out ?_)
  go_ret;exact⟨rfl,a⟩
def qya (w:Wl) (B:qd w b (yj s (.map (some A)))) (M:qes w A s.ws):
 Ca 159 #[PP b] w λe w'=>∃v,e=.returned v/\w'.ownsRow w.heap.size 127 3 v (jh s.ws).length (qcf (jh s.ws))/\Bw w w':=by
 have F:=hd2 B M;obtain⟨N,hi,O,P,Q⟩:=info_parts qmn;go_enter func159,ntmps159;go_wp2_with fail
 go_loopw [3,7] (λR iv wr=>∃(k:Nat) (z:Int),k<=8/\z=k/\iv=.int .i64 z/\wr.ownsRow w.heap.size 127 3 R (qak s.ws k).length (qcf (qak s.ws k))/\Bw w wr) (λ_ i _=>8-(intOf i).toNat)
 case atStart=>exact⟨0,0,oe,rfl,rfl,jcx _ _ _ _,jcc _ _⟩
 obtain⟨k,z,hk,o,rfl,own,m⟩:=hrel;have p:=hd1 o;have hal:=qkg s.ws k;have k9:=(F.out.1.later m).c 9;by_cases hlt:k<8
 .have S:z<8:=oe;have h0:0<=z:=oe;have G:Hid (keyOf prog 3 (.int .i64 z)=some (.int .i64 z)):=q4f ⟨oe,oe⟩;obtain⟨D,H,g,h⟩:=(F.out.2.later m).look z;have I:Hid (qak s.ws (k+1)=qak s.ws k++(match qay s.ws (k:Int)with|some x=>[x]|none=>[])):=qim s.ws k;rw[o]at g h;cases ho:qay s.ws (k:Int)with
  |none=>
   have t:qav s.ws (k:Int)=⟨0,⟨#[]⟩,false⟩:=by unfold qav;rw[ho];rfl
   have y:Hid (qak s.ws (k+1)=qak s.ws k):=by show _=_;rw[I.out,ho];simp
   rw[ho]at g;rw[t]at h;rw[<-o]at g h;have C:Hid (Maps.has D (.int .i64 z)=false):=g;have E:Hid (D.atKey (.int .i64 z) (.held qqt)=.held (.agg #[.int .i64 0,.string ⟨#[]⟩,.bool false])):=h;have V:=own.alloc (.cells #[.int .i64 0,.string ⟨#[]⟩,.bool false] 127);have W:=boxed m (.cells #[.int .i64 0,.string ⟨#[]⟩,.bool false] 127);go_wp2_with (at_lookup;refine qcy _ rfl _ _ rfl (u:=.agg #[.int .i64 0,.string ⟨#[]⟩,.bool false]) rfl H rfl G.out C.out E.out ?_)
   go_roundw
   case rel=>exact⟨k+1,z+1,oe,by have:=p.out;omega,oI,by rw[y.out];exact V,W⟩
   simp[intOf];have:=p.out;omega
  |some x=>
   obtain⟨a,d,f⟩:=x;have t:qav s.ws (k:Int)=⟨a,d,f⟩:=by unfold qav;rw[ho];rfl
   have y:Hid (qak s.ws (k+1)=qak s.ws k++[⟨a,d,f⟩]):=by show _=_;rw[I.out,ho]
   rw[ho]at g;rw[t]at h;rw[<-o]at g h;have C:Hid (Maps.has D (.int .i64 z)=true):=g;have E:Hid (D.atKey (.int .i64 z) (.held qqt)=.held (.agg #[.int .i64 a,.string d,.bool f])):=h;have q:=own.alloc (.cells #[.int .i64 a,.string d,.bool f] 127);have n:=qd.new (w:=wr) (T:=127) [.int .i64 a,.string d,.bool f] rfl;change qd (wr.alloc (.cells #[.int .i64 a,.string d,.bool f] 127)) wr.heap.size [.int .i64 a,.string d,.bool f]at n;have r:=boxed m (.cells #[.int .i64 a,.string d,.bool f] 127);obtain⟨W1,J⟩:∃W1,wr.alloc (.cells #[.int .i64 a,.string d,.bool f] 127)=W1:=⟨_,rfl⟩;rw[J]at q n r;have y0:=n.c 0;have y1:=n.c 1;have y2:=n.c 2;obtain⟨X,Y,rfl,K⟩:=qbg q;have hcl:=K.len;have hcc:=K.cap;go_wp2_with (first|(at_lookup;refine qcy _ rfl _ _ rfl (u:=.agg #[.int .i64 a,.string d,.bool f]) rfl H rfl G.out C.out E.out ?_)|(rw[J])|(at_builtin;refine wpList_append_lies _ rfl (.tmp 20) (.tmp 22) 120 rfl w.heap.size 127 N (.agg #[.int .i64 0,.string ⟨#[]⟩,.bool false]) 3 32 underlying120 hi O P Q rfl oj (.slice X (qak s.ws k).length Y) (qak s.ws k).length (qcf (qak s.ws k)) rfl (q.alloc _) (AD W1.heap.size 0) 1 1 (wrC ⟨a,d,f⟩) rfl rfl (World.news_of_block (heap_alloc_new W1 (.cells #[.int .i64 a,.string d,.bool f] 127))) (by intro u L;simp[wrC]at L;obtain rfl|rfl|rfl:=L<;>rfl) oj oN oe (by have:=r.size;simp;omega) _ rfl ?_;intro g9 cap9 wE Z aa egE ltE))
   have ab:=(boxed r (.cells #[.int .i64 a,.string d,.bool f] 127)).grown aa (by have:=r.size;simp;omega) (λj hj=>by have:=(q.lt _ hj).1;omega);go_roundw
   case rel=>exact⟨k+1,z+1,oe,by have:=p.out;omega,oI,by rw[y.out,qkh,jcl];exact Z,ab⟩
   simp[intOf];have:=p.out;omega
 have S:¬z<8:=oe;have hkk:k=8:=oe;subst hkk;go_wp2_with fail
 go_ret;exact⟨_,rfl,own,m⟩
end
section
def qeu (b:Nat) (S:qe) (Y:Np):qfr:=⟨λw G=>PS w b G S/\∀k,Y k->¬G k,λ_ _ h=>h.1.lt,λ_ _ _ h a c=>⟨h.1.kept a c,h.2⟩⟩
def q33 (w:Wl) (b l:Nat) (G j:Np) (S:qe) (s:qy) (now:Int) (e:Ending) (w':Wl):Prop:=
 ∃m:TxM,e=.returned (.tuple #[txV m,jc (qeg S s now)])/\m.t=qce S s now/\Hid (qr w' m.wa m.wc m.t.ws/\qfx (qix b (j0 S s now)) (qeu l (qcc S s now) m.blk) w G j m.blk w')
section
variable {j Z:Np} {l:Nat}
def qtr (h:qfx p (qfp l S) w G j Z w') (b:∀k,¬Y k):qfx p (qeu l S Y) w G j Y w':=by
 obtain⟨c,d,p1,e,p2,f,g,_,i⟩:=h;exact⟨c,d,p1,⟨e,λk a=>absurd a (b k)⟩,p2,f,g,λk a=>absurd a (b k),i⟩
def q74 (h:qfx p (qeu l S Y) w G j Z w'):qfx p (qfp l S) w G j NoY w':=by
 obtain⟨a,b,p1,c,p2,d,e,_,f⟩:=h;exact⟨a,b,p1,c.1,p2,d,e,λk g=>g.elim,f⟩
end
section
variable {q:qfr} {Z wB wC wD wF:Wl} {T N:Np}
def qz8 (i:∀k,G k->k<w.heap.size) (j:∀k,G k->¬T k) (a:Bw w Z) (l:∀k,N k->w.heap.size<=k/\k<Z.heap.size) (m:qbi q Z T wB) (d:qc N wB wC):(∀k,G k->wC.heap[k]?=w.heap[k]?)/\w.heap.size<=wC.heap.size:=by
 obtain⟨o,r,t,c⟩:=m;refine⟨λk f=>?_,jcn a.size (jcn c.size d.size)⟩;have g:=i k f;have h:=jci g a.size;exact(d.block k (jci h c.size) (λe=>by have:=(l k e).1;omega)).trans ((c.block k h (j k f)).trans (a.block k g))
def qid (l:∀k,G k->k<w.heap.size) (E:∀k,T k->k<w.heap.size) (F:∀k,G k->¬T k) (g:Bw w Z) (m:∀k,N k->w.heap.size<=k/\k<Z.heap.size) (H:qbi q Z T wB) (o:∀k,Y k->Z.heap.size<=k/\k<wB.heap.size)
 (d:qc N wB wC) (I:qbi p wC G wD) (c:qc N wD wF):qfx p q w G T Y wF/\∀k,Y k->wF.heap[k]?=wB.heap[k]?:=by
 obtain⟨t,v,u,i⟩:=H;obtain⟨x,p1,R,f⟩:=I;have P:=g.size;have Q:=i.size;have J:=d.size;have K:=f.size;have z:=c.size;have r:=λk a=>q.lt _ _ v k a
 have A:∀k,t k->¬N k:=λk a e=>by
  have:=m k e;obtain h|h:=u k a
  .have:=E k h;omega
  omega
 have B:∀k,t k->¬G k:=λk a e=>by
  obtain h|h:=u k a
  .exact F k e h
  have:=l k e;omega
 have L:∀k,x k->¬N k:=λk a e=>by
  have:=m k e;obtain h|h:=R k a
  .have:=l k h;omega
  omega
 refine⟨⟨x,t,?_,?_,λk a=>?_,λk a=>?_,λk a C=>?_,λk a=>⟨?_,?_,λe=>?_⟩,⟨?_,?_,?_,?_,λk a D=>?_⟩⟩,λk a=>?_⟩
 .exact p.kept _ _ _ p1 (λk a=>c.block k (p.lt _ _ p1 k a) (L k a)) z
 .have M:=q.kept _ _ _ v (λk a=>d.block k (r k a) (A k a)) J;have O:=q.kept _ _ _ M (λk a=>f.block k (by have:=r k a;omega) (B k a)) K;exact q.kept _ _ _ O (λk a=>c.block k (by have:=r k a;omega) (A k a)) z
 .obtain h|h:=R k a
  .exact .inl h
  exact .inr oe
 .obtain h|h:=u k a
  .exact .inl h
  exact .inr oe
 .obtain h|h:=R k a
  .exact B k C h
  have:=r k C;omega
 .have:=(o k a).1;omega
 .have:=(o k a).2;omega
 .have:=o k a;obtain h|h:=R k e
  .have:=l k h;omega
  omega
 .exact c.os.trans (f.os.trans (d.os.trans (i.os.trans g.os)))
 .exact c.tape.trans (f.tape.trans (d.tape.trans (i.tape.trans g.tape)))
 .exact c.output.trans (f.output.trans (d.output.trans (i.output.trans g.output)))
 .omega
 .have j:¬N k:=λe=>by have:=(m k e).1;omega
  exact(c.block k oe j).trans ((f.block k oe (λe=>D (.inl e))).trans ((d.block k oe j).trans ((i.block k oe (λe=>D (.inr e))).trans (g.block k a))))
 have y:=o k a;have j:¬N k:=λe=>by have:=(m k e).2;omega
 exact(c.block k oe j).trans ((f.block k oe (λe=>by have:=l k e;omega)).trans (d.block k oe j))
def qod {p q:qfr} {T:Np} (d:p.is w G) (e:q.is w T) (f:∀k,G k->¬T k) (c:Bw w w') (Y:Np) (g:∀k,¬Y k):qfx p q w G T Y w':=
 ⟨G,T,p.kept _ _ _ d (λk a=>c.block k (p.lt _ _ d k a)) c.size,q.kept _ _ _ e (λk a=>c.block k (q.lt _ _ e k a)) c.size,λ_ a=>.inl a,λ_ a=>.inl a,f,λk a=>absurd a (g k),qc.ofBelow c⟩
end
def qaz {F:Np} {W:Wl} (h:qc F w W) (a:F b) (i j k m c d e f:Int) (v:Vl):qc F w (js W b i j k m c d e f v):=
 ((((((((h.trans (qc.setCell _ _ _ a)).trans (qc.setCell _ _ _ a)).trans (qc.setCell _ _ _ a)).trans (qc.setCell _ _ _ a)).trans (qc.setCell _ _ _ a)).trans (qc.setCell _ _ _ a)).trans (qc.setCell _ _ _ a)).trans (qc.setCell _ _ _ a)).trans (qc.setCell _ _ _ a)
def qnk (n:Nat) (x:Int) (s:qy):qy:={s with p0:=if n=0 then x else s.p0,p1:=if n=1 then x else s.p1,p2:=if n=2 then x else s.p2,p3:=if n=3 then x else s.p3}
variable {V:Vl} {n:Int}
def q86 (c:0<=n) (d:n<=3):(jr s V)[n.toNat]?=some (U (qp n s.p0 s.p1 s.p2 s.p3)):=by
 have a:n=0\/n=1\/n=2\/n=3:=oe;obtain rfl|rfl|rfl|rfl:=a<;>rfl
def q5u {a:Vl} (d:0<=n) (e:n<=3):(yj s a)[n.toNat]?=some (U (qp n s.p0 s.p1 s.p2 s.p3)):=by
 have c:n=0\/n=1\/n=2\/n=3:=oe;obtain rfl|rfl|rfl|rfl:=c<;>rfl
def qlh {a c:Int} (e:0<=a) (f:a<=3):atLeast a c s=qnk a.toNat (jd (qp a s.p0 s.p1 s.p2 s.p3) c) s:=by
 have d:a=0\/a=1\/a=2\/a=3:=oe;obtain rfl|rfl|rfl|rfl:=d<;>rfl
variable {X w2:Wl}
def qc8.after (h:qc8 w b G s X) (a:Bw X w2):qc8 w b G s w2:=by
 obtain⟨c,d,e,f⟩:=h;exact⟨c,d.later a,e,f.trans (qc.ofBelow a)⟩
def qc8.past (a:G b) (h:qc8 w b G s X) {n:Nat} (c:n<4) (x:Int):qc8 w b G (qnk n x s) (X.setCell (AD b n) (U x)):=by
 obtain⟨g,d,e,f⟩:=h;exact q7c d e a f n c x
def qk4 (w:Wl):qr w tx0.wa tx0.wc tx0.t.ws:=⟨jcd _,oj,.inl rfl⟩
def qfb (k:Nat):¬tx0.blk k:=λh=>absurd rfl h.1
def qjx {now:Int} (e:s.opn=true) (a:(jh s.ws).length≠0):
 qeg S s now=qfl S now s.s0 s.s1 s.s2 s.s3 (jh s.ws)/\qce S s now=qha S now s.s0 s.s1 s.s2 s.s3 (jh s.ws)/\qcc S s now=qf3 S now s.s0 s.s1 s.s2 s.s3 (jh s.ws):=by
 have c:¬s.opn=false:=by rw[e];decide
 have d:¬(s.opn=false\/(jh s.ws).length=0):=by rintro (h|h);exact c h;exact a h
 exact⟨by unfold qeg;rw[if_neg c,if_neg a],by unfold qce;rw[if_neg d],by unfold qcc;rw[if_neg d]⟩
def qml {now:Int} (c:s.opn=true) (a:(jh s.ws).length=0):
 qeg S s now=0/\qce S s now=tx0.t/\qcc S s now=S/\j0 S s now=qc3 s:=by
 have d:¬s.opn=false:=by rw[c];decide
 have E:qeg S s now=0:=by unfold qeg;rw[if_neg d,if_pos a]
 exact⟨E,by unfold qce;rw[if_pos (.inr a)];rfl,by unfold qcc;rw[if_pos (.inr a)],by unfold j0;rw[if_neg (by rw[E];decide),if_pos a]⟩
def qmm {now:Int} (a:s.opn=false):
 qeg S s now=6/\qce S s now=tx0.t/\qcc S s now=S/\j0 S s now=s:=by
 have E:qeg S s now=6:=by unfold qeg;rw[if_pos a]
 exact⟨E,by unfold qce;rw[if_pos (.inl a)];rfl,by unfold qcc;rw[if_pos (.inl a)],by unfold j0;rw[if_pos (by rw[E];decide)]⟩
def qp7 {now:Int} (c:s.opn=true) (d:(jh s.ws).length≠0) (a:qfl S now s.s0 s.s1 s.s2 s.s3 (jh s.ws)≠0):j0 S s now=s/\qf3 S now s.s0 s.s1 s.s2 s.s3 (jh s.ws)=S/\qha S now s.s0 s.s1 s.s2 s.s3 (jh s.ws)=tx0.t:=by
 refine⟨by unfold j0;rw[if_pos (by rw[(qjx c d).1];exact a)],by unfold qf3;rw[if_neg a],by unfold qha;rw[if_neg a];rfl⟩
def qrv {now:Int} (d:s.opn=true) (a:(jh s.ws).length≠0) (c:qfl S now s.s0 s.s1 s.s2 s.s3 (jh s.ws)=0):j0 S s now=atLeast (qha S now s.s0 s.s1 s.s2 s.s3 (jh s.ws)).site (qha S now s.s0 s.s1 s.s2 s.s3 (jh s.ws)).seq (qc3 s)/\(qha S now s.s0 s.s1 s.s2 s.s3 (jh s.ws)).site=S.id:=by
 have y:=qjx (S:=S) (now:=now) d a;refine⟨by unfold j0;rw[if_neg (by rw[y.1,c];decide),if_neg a,y.2.1],by unfold qha;rw[if_pos c];rfl⟩
end
structure V4 where
 v0:Int
 v1:Int
 v2:Int
 v3:Int
def qj (S:qe):Nat->V4
 |0=>⟨S.a0,S.a1,S.a2,S.a3⟩
 |k+1=>if (k:Int)=S.id then qj S k else ⟨qm (qj S k).v0 (S.oth (k*4)),qm (qj S k).v1 (S.oth (k*4+1)),qm (qj S k).v2 (S.oth (k*4+2)),qm (qj S k).v3 (S.oth (k*4+3))⟩
def qj9 {w W:Wl} {b:Nat} (h:Bw w W) (a:w.heap.size<=b) (d e i j:Int):Bw w ((((W.setCell (AD b 0) (U d)).setCell (AD b 1) (U e)).setCell (AD b 2) (U i)).setCell (AD b 3) (U j)):=
 (((h.setCell a _).setCell a _).setCell a _).setCell a _
structure StM (w:Wl) (S:qe) (k:Nat) (wr:Wl):Prop where
 r:qo wr w.heap.size 0 0 0 0
 v:qo wr (w.heap.size+1) (qj S k).v0 (qj S k).v1 (qj S k).v2 (qj S k).v3
 b:Bw w wr
end Go.Proofs.YtbfkeoagmajcpaaGreatDoor
