import Derived.Test.YtoanjdndmlffdaaGreatDoorPgRead
set_option maxHeartbeats 8000000
set_option maxRecDepth 100000
namespace Go.Proofs.YtoanjdndmlffdaaGreatDoor
open Go.RowKit
theorem qq1 {b so:Nat} {F:Nat->Prop} {l:List Hd} (key a0 a1 a2 a3:Int) (w:World) (hS:qir w b so F l) (hl:l.length<=1000) (ha:qfk l) (ho:∀h∈l,qau h.v=true):
 Ca 259 #[.pointer (some (AD b so)),U key,.agg #[U a0,U a1,U a2,U a3]] w λe w'=>e=.returned (.tuple #[.agg (qh (zz key a0 a1 a2 a3 l).1).toArray,jc (zz key a0 a1 a2 a3 l).2])/\Bw w w':=by
 have RA:=(qd.new (w:=w) (T:=77) [U a0,U a1,U a2,U a3] rfl).boxed (.cells YA 130);have s:=qd.new (w:=w.alloc (.cells #[U a0,U a1,U a2,U a3] 77)) (T:=130) (n:=w.heap.size+1) (qh jq) (by simp);change qd ((w.alloc (.cells #[U a0,U a1,U a2,U a3] 77)).alloc (.cells YA 130)) (w.heap.size+1) (qh jq)at s;have t:=boxed (boxed (jcc _ w) (.cells #[U a0,U a1,U a2,U a3] 77)) (.cells YA 130);obtain⟨W,N⟩:∃W,(w.alloc (.cells #[U a0,U a1,U a2,U a3] 77)).alloc (.cells YA 130)=W:=⟨_,rfl⟩;obtain⟨r0,r1,r2,r3,r4,r5⟩:=s.c6;have f0:=s.free 0 (by simp[qh]);have f1:=s.free 1 (by simp[qh]);have f2:=s.free 2 (by simp[qh]);have f3:=s.free 3 (by simp[qh]);have f4:=s.free 4 (by simp[qh]);have f5:=s.free 5 (by simp[qh]);cases h:inB key 0 7
 ·have H:=hd1 h
  have G:Hid (zz key a0 a1 a2 a3 l=(jq,2)):=by show zz key a0 a1 a2 a3 l=_;unfold zz;rw[h];rfl
  clear h;rw[N]at r0 r1 r2 r3 r4 r5 f0 f1 f2 f3 f4 f5;go_enter Tryz.func259,Tryz.ntmps259
  go_wp2_with fail
  rw[N]at RA s t;clear N;refine(qj4 H.out _).mono ?_;rintro e d ⟨rfl,rfl⟩
  go_wp2_with fail
  rw[G.out];refine bodyPost_ret (qa2 (v:=jq) (s.verSet jq) rfl rfl) rfl ⟨rfl,jp t (by omega) jq⟩
 have hk:=jk.1 h;obtain⟨k,rfl⟩:∃k:Nat,key=(k:Int):=⟨key.toNat,by omega⟩
 have O:k<8:=by omega
 have hkz:(k:Int)<8:=by omega
 obtain⟨vs,B,R,PH,hF⟩:=id hS;obtain⟨a,cap,hvk,hV⟩:=qfo (R.own k O);have hlk:=jcn (PH.len O) hl;have H:=hd1 h;have LB:=PH.qlast R ha O a0 a1 a2 a3;obtain⟨K,hbest⟩:∃K,qdi a0 a1 a2 a3 (B k)=K:=⟨_,rfl⟩
 have G:Hid (zz k a0 a1 a2 a3 l=qjj K):=by show zz k a0 a1 a2 a3 l=_;unfold zz;rw[h,LB,hbest];rfl
 have LA:=qwf a0 a1 a2 a3 (L:=B k) (a:=a) (cap:=cap);rw[hbest]at LA;have st:=PH.sites ho O;have R1:=R.later t;have V1:=hV.later t
 have k0:((w.alloc (.cells #[U a0,U a1,U a2,U a3] 77)).alloc (.cells YA 130)).cell? (AD b (so+k))=some (.slice a (B k).length cap):=by rw[<-hvk];exact R1.cell O
 obtain⟨q0,q1,q2,q3⟩:=RA.c4;rw[N]at r0 r1 r2 r3 r4 r5 f0 f1 f2 f3 f4 f5 k0 q0 q1 q2 q3 RA s t R1 V1;have BE:=hd1 hbest;have M:Hid (∀x:qb W,Ca 260 #[.slice a (B k).length cap,.agg #[U a0,U a1,U a2,U a3]] x.val λe w'=>e=.returned (.tuple #[.agg (qa6 K).toArray,.bool (qga K)])/\Below x.val.heap.size x.val w'):=λx=>LA x.val (V1.later x.below) st hlk;clear h hk LB hbest LA st;go_enter Tryz.func259,Tryz.ntmps259
 go_wp2_with fail
 clear N;refine(qj4 H.out _).mono ?_;rintro e d ⟨rfl,rfl⟩;cases K with
 |none=>
  have I:Hid (∀x:qb d,Ca 260 #[.slice a (B k).length cap,.agg #[U a0,U a1,U a2,U a3]] x.val λe w'=>e=.returned (.tuple #[.agg YA,.bool false])/\Below x.val.heap.size x.val w'):=M.out;clear M;have q:=boxed (jcc _ d) (.cells YA 130);have p0:=cell_later q q0;have p1:=cell_later q q1;have p2:=cell_later q q2;have p3:=cell_later q q3;have p4:=cell_later q k0;clear q
  go_wp2_with fail
  go_region_law (first
   |(refine je rfl 260 #[.slice a (B k).length cap,.agg #[U a0,U a1,U a2,U a3]] (by go_simp) (I.out ⟨d.drew,(jcc _ d).drew⟩) ?_
     rintro e C ⟨rfl,J⟩;refine⟨_,rfl,?_⟩;have P:=hd1 (qa (jcc _ d).drew J)
     clear J)
   |(refine je rfl 260 #[.slice a (B k).length cap,.agg #[U a0,U a1,U a2,U a3]] (by go_simp) (I.out ⟨(d.alloc (.cells YA 130)).drew,(boxed (jcc _ d) _).drew⟩) ?_
     rintro e Q ⟨rfl,f⟩;refine⟨_,rfl,?_⟩;have S:=hd1 (qa (boxed (jcc _ d) _).drew f);have p:=((qd.new (w:=d) (T:=130) (qh jq) rfl).drew).later f;obtain⟨V,X,Y,Z,z4,z5⟩:=p.c6;have y0:=p.free 0 (by simp[qh]);have y1:=p.free 1 (by simp[qh]);have y2:=p.free 2 (by simp[qh]);have y3:=p.free 3 (by simp[qh]);have y4:=p.free 4 (by simp[qh]);have y5:=p.free 5 (by simp[qh])
     clear f))
  all_goals first
   |(have f:=boxed P.out (.cells YA 130)
     have r:=qd.new (w:=C) (T:=130) (qh jq) rfl;change qd (C.alloc (.cells YA 130)) C.heap.size (qh jq)at r;have c:=s.later f;obtain⟨s0,s1,s2,s3,s4,s5⟩:=c.c6;have g0:=c.free 0 (by simp[qh]);have g1:=c.free 1 (by simp[qh]);have g2:=c.free 2 (by simp[qh]);have g3:=c.free 3 (by simp[qh]);have g4:=c.free 4 (by simp[qh]);have g5:=c.free 5 (by simp[qh]);obtain⟨t0,t1,t2,t3,t4,t5⟩:=r.c6;have D:=jp (qa t f) (b:=w.heap.size+1) (by omega) jq;have E:=c.verSet jq;clear f c r
     go_wp2_with fail
     rw[G.out]
     refine bodyPost_ret (qa2 (v:=jq) E rfl rfl) rfl ⟨rfl,D⟩)
   |(obtain⟨y,z⟩:∃y,((((((Q.setCell (AD d.heap.size 0) (U 0)).setCell (AD d.heap.size 1) (U 0)).setCell (AD d.heap.size 2) (U 0)).setCell (AD d.heap.size 3) (U 0)).setCell (AD d.heap.size 4) (.string ⟨#[]⟩)).setCell (AD d.heap.size 5) (.bool false))=y:=⟨_,rfl⟩
     have f:Bw d y:=by rw[<-z];exact jp S.out (b:=d.heap.size) (jcd _) jq
     have r:qd y d.heap.size (qh jq):=by rw[<-z];exact p.verSet jq
     rw[z];clear z V X Y Z z4 z5 y0 y1 y2 y3 y4 y5;have c:=s.later f;obtain⟨s0,s1,s2,s3,s4,s5⟩:=c.c6;have g0:=c.free 0 (by simp[qh]);have g1:=c.free 1 (by simp[qh]);have g2:=c.free 2 (by simp[qh]);have g3:=c.free 3 (by simp[qh]);have g4:=c.free 4 (by simp[qh]);have g5:=c.free 5 (by simp[qh]);obtain⟨t0,t1,t2,t3,t4,t5⟩:=r.c6;have D:=jp (qa t f) (b:=w.heap.size+1) (by omega) jq;have E:=c.verSet jq;clear f c r
     go_wp2_with fail
     rw[G.out]
     refine bodyPost_ret (qa2 (v:=jq) E rfl rfl) rfl ⟨rfl,D⟩)
 |some u=>
  obtain⟨g,i,j,m,o,ug⟩:=u;cases ug
  ·have I:Hid (∀x:qb d,Ca 260 #[.slice a (B k).length cap,.agg #[U a0,U a1,U a2,U a3]] x.val λe w'=>e=.returned (.tuple #[.agg #[U g,U i,U j,U m,.string o,.bool false],.bool true])/\Below x.val.heap.size x.val w'):=M.out;clear M;have q:=boxed (jcc _ d) (.cells YA 130);have p0:=cell_later q q0;have p1:=cell_later q q1;have p2:=cell_later q q2;have p3:=cell_later q q3;have p4:=cell_later q k0;clear q
   go_wp2_with fail
   go_region_law (first
        |(refine je rfl 260 #[.slice a (B k).length cap,.agg #[U a0,U a1,U a2,U a3]] (by go_simp) (I.out ⟨d.drew,(jcc _ d).drew⟩) ?_
          rintro e C ⟨rfl,J⟩;refine⟨_,rfl,?_⟩;have P:=hd1 (qa (jcc _ d).drew J)
          clear J)
        |(refine je rfl 260 #[.slice a (B k).length cap,.agg #[U a0,U a1,U a2,U a3]] (by go_simp) (I.out ⟨(d.alloc (.cells YA 130)).drew,(boxed (jcc _ d) _).drew⟩) ?_
          rintro e Q ⟨rfl,f⟩;refine⟨_,rfl,?_⟩;have S:=hd1 (qa (boxed (jcc _ d) _).drew f);have p:=((qd.new (w:=d) (T:=130) (qh jq) rfl).drew).later f;obtain⟨V,X,Y,Z,z4,z5⟩:=p.c6;have y0:=p.free 0 (by simp[qh]);have y1:=p.free 1 (by simp[qh]);have y2:=p.free 2 (by simp[qh]);have y3:=p.free 3 (by simp[qh]);have y4:=p.free 4 (by simp[qh]);have y5:=p.free 5 (by simp[qh])
          clear f))
   all_goals first
        |(have f:=boxed P.out (.cells #[U g,U i,U j,U m,.string o,.bool false] 130)
          have r:=qd.new (w:=C) (T:=130) (qh ⟨g,i,j,m,o,false⟩) rfl;change qd (C.alloc (.cells #[U g,U i,U j,U m,.string o,.bool false] 130)) C.heap.size (qh ⟨g,i,j,m,o,false⟩)at r;have c:=s.later f;obtain⟨s0,s1,s2,s3,s4,s5⟩:=c.c6;have g0:=c.free 0 (by simp[qh]);have g1:=c.free 1 (by simp[qh]);have g2:=c.free 2 (by simp[qh]);have g3:=c.free 3 (by simp[qh]);have g4:=c.free 4 (by simp[qh]);have g5:=c.free 5 (by simp[qh]);obtain⟨t0,t1,t2,t3,t4,t5⟩:=r.c6;have D:=jp (qa t f) (b:=w.heap.size+1) (by omega) jq;have E:=c.verSet jq;have hbu:=jp (qa t f) (b:=w.heap.size+1) (by omega) ⟨g,i,j,m,o,false⟩;have RU2:=c.verSet ⟨g,i,j,m,o,false⟩;clear f c r
          go_wp2_with fail
          rw[G.out];have e:qjj (some ⟨g,i,j,m,o,false⟩)=(⟨g,i,j,m,o,false⟩,0):=rfl;rw[e]
          refine bodyPost_ret (qa2 (v:=⟨g,i,j,m,o,false⟩) RU2 rfl rfl) rfl ⟨rfl,hbu⟩)
        |(obtain⟨y,z⟩:∃y,((((((Q.setCell (AD d.heap.size 0) (U g)).setCell (AD d.heap.size 1) (U i)).setCell (AD d.heap.size 2) (U j)).setCell (AD d.heap.size 3) (U m)).setCell (AD d.heap.size 4) (.string o)).setCell (AD d.heap.size 5) (.bool false))=y:=⟨_,rfl⟩
          have f:Bw d y:=by rw[<-z];exact jp S.out (b:=d.heap.size) (jcd _) ⟨g,i,j,m,o,false⟩
          have r:qd y d.heap.size (qh ⟨g,i,j,m,o,false⟩):=by rw[<-z];exact p.verSet ⟨g,i,j,m,o,false⟩
          rw[z];clear z V X Y Z z4 z5 y0 y1 y2 y3 y4 y5;have c:=s.later f;obtain⟨s0,s1,s2,s3,s4,s5⟩:=c.c6;have g0:=c.free 0 (by simp[qh]);have g1:=c.free 1 (by simp[qh]);have g2:=c.free 2 (by simp[qh]);have g3:=c.free 3 (by simp[qh]);have g4:=c.free 4 (by simp[qh]);have g5:=c.free 5 (by simp[qh]);obtain⟨t0,t1,t2,t3,t4,t5⟩:=r.c6;have D:=jp (qa t f) (b:=w.heap.size+1) (by omega) jq;have E:=c.verSet jq;have hbu:=jp (qa t f) (b:=w.heap.size+1) (by omega) ⟨g,i,j,m,o,false⟩;have RU2:=c.verSet ⟨g,i,j,m,o,false⟩;clear f c r
          go_wp2_with fail
          rw[G.out];have e:qjj (some ⟨g,i,j,m,o,false⟩)=(⟨g,i,j,m,o,false⟩,0):=rfl;rw[e]
          refine bodyPost_ret (qa2 (v:=⟨g,i,j,m,o,false⟩) RU2 rfl rfl) rfl ⟨rfl,hbu⟩)
  have I:Hid (∀x:qb d,Ca 260 #[.slice a (B k).length cap,.agg #[U a0,U a1,U a2,U a3]] x.val λe w'=>e=.returned (.tuple #[.agg #[U g,U i,U j,U m,.string o,.bool true],.bool true])/\Below x.val.heap.size x.val w'):=M.out;clear M;have q:=boxed (jcc _ d) (.cells YA 130);have p0:=cell_later q q0;have p1:=cell_later q q1;have p2:=cell_later q q2;have p3:=cell_later q q3;have p4:=cell_later q k0;clear q
  go_wp2_with fail
  go_region_law (first
   |(refine je rfl 260 #[.slice a (B k).length cap,.agg #[U a0,U a1,U a2,U a3]] (by go_simp) (I.out ⟨d.drew,(jcc _ d).drew⟩) ?_
     rintro e C ⟨rfl,J⟩;refine⟨_,rfl,?_⟩;have P:=hd1 (qa (jcc _ d).drew J)
     clear J)
   |(refine je rfl 260 #[.slice a (B k).length cap,.agg #[U a0,U a1,U a2,U a3]] (by go_simp) (I.out ⟨(d.alloc (.cells YA 130)).drew,(boxed (jcc _ d) _).drew⟩) ?_
     rintro e Q ⟨rfl,f⟩;refine⟨_,rfl,?_⟩;have S:=hd1 (qa (boxed (jcc _ d) _).drew f);have p:=((qd.new (w:=d) (T:=130) (qh jq) rfl).drew).later f;obtain⟨V,X,Y,Z,z4,z5⟩:=p.c6;have y0:=p.free 0 (by simp[qh]);have y1:=p.free 1 (by simp[qh]);have y2:=p.free 2 (by simp[qh]);have y3:=p.free 3 (by simp[qh]);have y4:=p.free 4 (by simp[qh]);have y5:=p.free 5 (by simp[qh])
     clear f))
  all_goals first
   |(have f:=boxed P.out (.cells #[U g,U i,U j,U m,.string o,.bool true] 130)
     have r:=qd.new (w:=C) (T:=130) (qh ⟨g,i,j,m,o,true⟩) rfl;change qd (C.alloc (.cells #[U g,U i,U j,U m,.string o,.bool true] 130)) C.heap.size (qh ⟨g,i,j,m,o,true⟩)at r;have c:=s.later f;obtain⟨s0,s1,s2,s3,s4,s5⟩:=c.c6;have g0:=c.free 0 (by simp[qh]);have g1:=c.free 1 (by simp[qh]);have g2:=c.free 2 (by simp[qh]);have g3:=c.free 3 (by simp[qh]);have g4:=c.free 4 (by simp[qh]);have g5:=c.free 5 (by simp[qh]);obtain⟨t0,t1,t2,t3,t4,t5⟩:=r.c6;have D:=jp (qa t f) (b:=w.heap.size+1) (by omega) jq;have E:=c.verSet jq;have hbu:=jp (qa t f) (b:=w.heap.size+1) (by omega) ⟨g,i,j,m,o,true⟩;have RU2:=c.verSet ⟨g,i,j,m,o,true⟩;clear f c r
     go_wp2_with fail
     rw[G.out];have e:qjj (some ⟨g,i,j,m,o,true⟩)=(jq,8):=rfl;rw[e]
     refine bodyPost_ret (qa2 (v:=jq) E rfl rfl) rfl ⟨rfl,D⟩)
   |(obtain⟨y,z⟩:∃y,((((((Q.setCell (AD d.heap.size 0) (U g)).setCell (AD d.heap.size 1) (U i)).setCell (AD d.heap.size 2) (U j)).setCell (AD d.heap.size 3) (U m)).setCell (AD d.heap.size 4) (.string o)).setCell (AD d.heap.size 5) (.bool true))=y:=⟨_,rfl⟩
     have f:Bw d y:=by rw[<-z];exact jp S.out (b:=d.heap.size) (jcd _) ⟨g,i,j,m,o,true⟩
     have r:qd y d.heap.size (qh ⟨g,i,j,m,o,true⟩):=by rw[<-z];exact p.verSet ⟨g,i,j,m,o,true⟩
     rw[z];clear z V X Y Z z4 z5 y0 y1 y2 y3 y4 y5;have c:=s.later f;obtain⟨s0,s1,s2,s3,s4,s5⟩:=c.c6;have g0:=c.free 0 (by simp[qh]);have g1:=c.free 1 (by simp[qh]);have g2:=c.free 2 (by simp[qh]);have g3:=c.free 3 (by simp[qh]);have g4:=c.free 4 (by simp[qh]);have g5:=c.free 5 (by simp[qh]);obtain⟨t0,t1,t2,t3,t4,t5⟩:=r.c6;have D:=jp (qa t f) (b:=w.heap.size+1) (by omega) jq;have E:=c.verSet jq;have hbu:=jp (qa t f) (b:=w.heap.size+1) (by omega) ⟨g,i,j,m,o,true⟩;have RU2:=c.verSet ⟨g,i,j,m,o,true⟩;clear f c r
     go_wp2_with fail
     rw[G.out];have e:qjj (some ⟨g,i,j,m,o,true⟩)=(jq,8):=rfl;rw[e]
     refine bodyPost_ret (qa2 (v:=jq) E rfl rfl) rfl ⟨rfl,D⟩)
end Go.Proofs.YtoanjdndmlffdaaGreatDoor
