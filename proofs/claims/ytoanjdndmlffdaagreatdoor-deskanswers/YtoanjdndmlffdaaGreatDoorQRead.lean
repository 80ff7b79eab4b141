import Derived.Test.YtoanjdndmlffdaaGreatDoorPgRead
set_option maxHeartbeats 8000000
set_option maxRecDepth 100000
namespace Go.Proofs.YtoanjdndmlffdaaGreatDoor
open Go.Value Go.IntKind Go.RowKit
theorem qto {b so:Nat} {F:Nat->Prop} {l:List Hd} (key a0 a1 a2 a3:Int) (w:World) (hS:qp6 w b so F l) (hl:l.length<=1000) (ha:qiz l) (ho:∀h∈l,qd2 h.v=true):
 Calls Tryz.prog 259 #[.pointer (some ⟨b,so,none⟩),int i64 key,.agg #[int i64 a0,int i64 a1,int i64 a2,int i64 a3]] w λe w'=>e=.returned (.tuple #[.agg (qah (qdu key a0 a1 a2 a3 l).1).toArray,qbq (qdu key a0 a1 a2 a3 l).2])/\Below w.heap.size w w':=by
 have RA:=(qag.new (w:=w) (T:=77) [int i64 a0,int i64 a1,int i64 a2,int i64 a3] rfl).boxed (.cells #[int i64 0,int i64 0,int i64 0,int i64 0,.string ⟨#[]⟩,.bool false] 130);have y:=qag.new (w:=w.alloc (.cells #[int i64 a0,int i64 a1,int i64 a2,int i64 a3] 77)) (T:=130) (n:=w.heap.size+1) (qah qc6) (by simp);change qag ((w.alloc (.cells #[int i64 a0,int i64 a1,int i64 a2,int i64 a3] 77)).alloc (.cells #[int i64 0,int i64 0,int i64 0,int i64 0,.string ⟨#[]⟩,.bool false] 130)) (w.heap.size+1) (qah qc6)at y;have hb:=boxed (boxed (Below.refl _ w) (.cells #[int i64 a0,int i64 a1,int i64 a2,int i64 a3] 77)) (.cells #[int i64 0,int i64 0,int i64 0,int i64 0,.string ⟨#[]⟩,.bool false] 130);obtain⟨W,P⟩:∃W,(w.alloc (.cells #[int i64 a0,int i64 a1,int i64 a2,int i64 a3] 77)).alloc (.cells #[int i64 0,int i64 0,int i64 0,int i64 0,.string ⟨#[]⟩,.bool false] 130)=W:=⟨_,rfl⟩;obtain⟨r0,r1,r2,r3,r4,r5⟩:=y.c6;have f0:=y.free 0 (by simp[qah]);have f1:=y.free 1 (by simp[qah]);have f2:=y.free 2 (by simp[qah]);have f3:=y.free 3 (by simp[qah]);have f4:=y.free 4 (by simp[qah]);have f5:=y.free 5 (by simp[qah]);cases h:inB key 0 7
 ·have H:Hid (inB key 0 7=false):=h
  have I:Hid (qdu key a0 a1 a2 a3 l=(qc6,2)):=by show qdu key a0 a1 a2 a3 l=_;unfold qdu;rw[h];rfl
  clear h;rw[P]at r0 r1 r2 r3 r4 r5 f0 f1 f2 f3 f4 f5;go_enter Tryz.func259,Tryz.ntmps259
  go_wp2_with fail
  rw[P]at RA y hb;clear P;refine(qlq H.out _).mono ?_;rintro e c ⟨rfl,rfl⟩
  go_wp2_with fail
  rw[I.out];refine bodyPost_ret (qc1 (v:=qc6) (y.verSet qc6) rfl rfl) rfl ⟨rfl,qa2 hb (by omega) qc6⟩
 ·have hk:=qa5.1 h;obtain⟨k,rfl⟩:∃k:Nat,key=(k:Int):=⟨key.toNat,by omega⟩
  have Q:k<8:=by omega
  have hkz:(k:Int)<8:=by omega
  obtain⟨vs,z,R,PH,hF⟩:=id hS;obtain⟨a,cap,hvk,hV⟩:=qg9 (R.own k Q);have hlk:(z k).length<=1000:=Nat.le_trans (PH.len Q) hl;have H:Hid (inB (k:Int) 0 7=true):=h;have LB:=PH.qlast R ha Q a0 a1 a2 a3;obtain⟨N,hbest⟩:∃N,qgv a0 a1 a2 a3 (z k)=N:=⟨_,rfl⟩
  have I:Hid (qdu k a0 a1 a2 a3 l=qog N):=by show qdu k a0 a1 a2 a3 l=_;unfold qdu;rw[h,LB,hbest];rfl
  have LA:=qyc a0 a1 a2 a3 (L:=z k) (a:=a) (cap:=cap);rw[hbest]at LA;have st:=PH.sites ho Q;have R1:=R.later hb;have V1:=hV.later hb
  have k0:((w.alloc (.cells #[int i64 a0,int i64 a1,int i64 a2,int i64 a3] 77)).alloc (.cells #[int i64 0,int i64 0,int i64 0,int i64 0,.string ⟨#[]⟩,.bool false] 130)).cell? ⟨b,so+k,none⟩=some (.slice a (z k).length cap):=by rw[<-hvk];exact R1.cell Q
  obtain⟨q0,q1,q2,q3⟩:=RA.c4;rw[P]at r0 r1 r2 r3 r4 r5 f0 f1 f2 f3 f4 f5 k0 q0 q1 q2 q3 RA y hb R1 V1;have BE:Hid (qgv a0 a1 a2 a3 (z k)=N):=hbest;have O:Hid (∀x:Later W,Calls Tryz.prog 260 #[.slice a (z k).length cap,.agg #[int i64 a0,int i64 a1,int i64 a2,int i64 a3]] x.val λe w'=>e=.returned (.tuple #[.agg (qex N).toArray,.bool (qkm N)])/\Below x.val.heap.size x.val w'):=λx=>LA x.val (V1.later x.below) st hlk;clear h hk LB hbest LA st;go_enter Tryz.func259,Tryz.ntmps259
  go_wp2_with fail
  clear P;refine(qlq H.out _).mono ?_;rintro e c ⟨rfl,rfl⟩;cases N with
  |none=>
   have J:Hid (∀x:Later c,Calls Tryz.prog 260 #[.slice a (z k).length cap,.agg #[int i64 a0,int i64 a1,int i64 a2,int i64 a3]] x.val λe w'=>e=.returned (.tuple #[.agg #[int i64 0,int i64 0,int i64 0,int i64 0,.string ⟨#[]⟩,.bool false],.bool false])/\Below x.val.heap.size x.val w'):=O.out;clear O;have r:=boxed (Below.refl _ c) (.cells #[int i64 0,int i64 0,int i64 0,int i64 0,.string ⟨#[]⟩,.bool false] 130);have p0:=cell_later r q0;have p1:=cell_later r q1;have p2:=cell_later r q2;have p3:=cell_later r q3;have p4:=cell_later r k0;clear r
   go_wp2_with fail
   go_region_law (first
        |(refine qav rfl 260 #[.slice a (z k).length cap,.agg #[int i64 a0,int i64 a1,int i64 a2,int i64 a3]] (by go_simp) (J.out ⟨c.drew,(Below.refl _ c).drew⟩) ?_
          rintro e B ⟨rfl,K⟩;refine⟨_,rfl,?_⟩;have S:Hid (Below c.heap.size c B):=qab (Below.refl _ c).drew K
          clear K)
        |(refine qav rfl 260 #[.slice a (z k).length cap,.agg #[int i64 a0,int i64 a1,int i64 a2,int i64 a3]] (by go_simp) (J.out ⟨(c.alloc (.cells #[int i64 0,int i64 0,int i64 0,int i64 0,.string ⟨#[]⟩,.bool false] 130)).drew,(boxed (Below.refl _ c) _).drew⟩) ?_
          rintro e M ⟨rfl,g⟩;refine⟨_,rfl,?_⟩;have U:Hid (Below c.heap.size c M):=qab (boxed (Below.refl _ c) _).drew g;have q:=((qag.new (w:=c) (T:=130) (qah qc6) rfl).drew).later g;obtain⟨z0,V,z2,z3,z4,z5⟩:=q.c6;have X:=q.free 0 (by simp[qah]);have Y:=q.free 1 (by simp[qah]);have Z:=q.free 2 (by simp[qah]);have y3:=q.free 3 (by simp[qah]);have y4:=q.free 4 (by simp[qah]);have y5:=q.free 5 (by simp[qah])
          clear g))
   all_goals first
        |(have g:=boxed S.out (.cells #[int i64 0,int i64 0,int i64 0,int i64 0,.string ⟨#[]⟩,.bool false] 130)
          have s:=qag.new (w:=B) (T:=130) (qah qc6) rfl;change qag (B.alloc (.cells #[int i64 0,int i64 0,int i64 0,int i64 0,.string ⟨#[]⟩,.bool false] 130)) B.heap.size (qah qc6)at s;have d:=y.later g;obtain⟨s0,s1,s2,s3,s4,s5⟩:=d.c6;have g0:=d.free 0 (by simp[qah]);have g1:=d.free 1 (by simp[qah]);have g2:=d.free 2 (by simp[qah]);have g3:=d.free 3 (by simp[qah]);have g4:=d.free 4 (by simp[qah]);have g5:=d.free 5 (by simp[qah]);obtain⟨t0,t1,t2,t3,t4,t5⟩:=s.c6;have E:=qa2 (qab hb g) (b:=w.heap.size+1) (by omega) qc6;have G:=d.verSet qc6;clear g d s
          go_wp2_with fail
          rw[I.out]
          refine bodyPost_ret (qc1 (v:=qc6) G rfl rfl) rfl ⟨rfl,E⟩)
        |(obtain⟨C,D⟩:∃C,((((((M.setCell ⟨c.heap.size,0,none⟩ (int i64 0)).setCell ⟨c.heap.size,1,none⟩ (int i64 0)).setCell ⟨c.heap.size,2,none⟩ (int i64 0)).setCell ⟨c.heap.size,3,none⟩ (int i64 0)).setCell ⟨c.heap.size,4,none⟩ (.string ⟨#[]⟩)).setCell ⟨c.heap.size,5,none⟩ (.bool false))=C:=⟨_,rfl⟩
          have g:Below c.heap.size c C:=by rw[<-D];exact qa2 U.out (b:=c.heap.size) (Nat.le_refl _) qc6
          have s:qag C c.heap.size (qah qc6):=by rw[<-D];exact q.verSet qc6
          rw[D];clear D z0 V z2 z3 z4 z5 X Y Z y3 y4 y5;have d:=y.later g;obtain⟨s0,s1,s2,s3,s4,s5⟩:=d.c6;have g0:=d.free 0 (by simp[qah]);have g1:=d.free 1 (by simp[qah]);have g2:=d.free 2 (by simp[qah]);have g3:=d.free 3 (by simp[qah]);have g4:=d.free 4 (by simp[qah]);have g5:=d.free 5 (by simp[qah]);obtain⟨t0,t1,t2,t3,t4,t5⟩:=s.c6;have E:=qa2 (qab hb g) (b:=w.heap.size+1) (by omega) qc6;have G:=d.verSet qc6;clear g d s
          go_wp2_with fail
          rw[I.out]
          refine bodyPost_ret (qc1 (v:=qc6) G rfl rfl) rfl ⟨rfl,E⟩)
  |some u=>
   obtain⟨i,j,m,o,p,ug⟩:=u;cases ug
   ·have J:Hid (∀x:Later c,Calls Tryz.prog 260 #[.slice a (z k).length cap,.agg #[int i64 a0,int i64 a1,int i64 a2,int i64 a3]] x.val λe w'=>e=.returned (.tuple #[.agg #[int i64 i,int i64 j,int i64 m,int i64 o,.string p,.bool false],.bool true])/\Below x.val.heap.size x.val w'):=O.out;clear O;have r:=boxed (Below.refl _ c) (.cells #[int i64 0,int i64 0,int i64 0,int i64 0,.string ⟨#[]⟩,.bool false] 130);have p0:=cell_later r q0;have p1:=cell_later r q1;have p2:=cell_later r q2;have p3:=cell_later r q3;have p4:=cell_later r k0;clear r
    go_wp2_with fail
    go_region_law (first
     |(refine qav rfl 260 #[.slice a (z k).length cap,.agg #[int i64 a0,int i64 a1,int i64 a2,int i64 a3]] (by go_simp) (J.out ⟨c.drew,(Below.refl _ c).drew⟩) ?_
       rintro e B ⟨rfl,K⟩;refine⟨_,rfl,?_⟩;have S:Hid (Below c.heap.size c B):=qab (Below.refl _ c).drew K
       clear K)
     |(refine qav rfl 260 #[.slice a (z k).length cap,.agg #[int i64 a0,int i64 a1,int i64 a2,int i64 a3]] (by go_simp) (J.out ⟨(c.alloc (.cells #[int i64 0,int i64 0,int i64 0,int i64 0,.string ⟨#[]⟩,.bool false] 130)).drew,(boxed (Below.refl _ c) _).drew⟩) ?_
       rintro e M ⟨rfl,g⟩;refine⟨_,rfl,?_⟩;have U:Hid (Below c.heap.size c M):=qab (boxed (Below.refl _ c) _).drew g;have q:=((qag.new (w:=c) (T:=130) (qah qc6) rfl).drew).later g;obtain⟨z0,V,z2,z3,z4,z5⟩:=q.c6;have X:=q.free 0 (by simp[qah]);have Y:=q.free 1 (by simp[qah]);have Z:=q.free 2 (by simp[qah]);have y3:=q.free 3 (by simp[qah]);have y4:=q.free 4 (by simp[qah]);have y5:=q.free 5 (by simp[qah])
       clear g))
    all_goals first
     |(have g:=boxed S.out (.cells #[int i64 i,int i64 j,int i64 m,int i64 o,.string p,.bool false] 130)
       have s:=qag.new (w:=B) (T:=130) (qah ⟨i,j,m,o,p,false⟩) rfl;change qag (B.alloc (.cells #[int i64 i,int i64 j,int i64 m,int i64 o,.string p,.bool false] 130)) B.heap.size (qah ⟨i,j,m,o,p,false⟩)at s;have d:=y.later g;obtain⟨s0,s1,s2,s3,s4,s5⟩:=d.c6;have g0:=d.free 0 (by simp[qah]);have g1:=d.free 1 (by simp[qah]);have g2:=d.free 2 (by simp[qah]);have g3:=d.free 3 (by simp[qah]);have g4:=d.free 4 (by simp[qah]);have g5:=d.free 5 (by simp[qah]);obtain⟨t0,t1,t2,t3,t4,t5⟩:=s.c6;have E:=qa2 (qab hb g) (b:=w.heap.size+1) (by omega) qc6;have G:=d.verSet qc6;have hbu:=qa2 (qab hb g) (b:=w.heap.size+1) (by omega) ⟨i,j,m,o,p,false⟩;have RU2:=d.verSet ⟨i,j,m,o,p,false⟩;clear g d s
       go_wp2_with fail
       rw[I.out];have e:qog (some ⟨i,j,m,o,p,false⟩)=(⟨i,j,m,o,p,false⟩,0):=rfl;rw[e]
       refine bodyPost_ret (qc1 (v:=⟨i,j,m,o,p,false⟩) RU2 rfl rfl) rfl ⟨rfl,hbu⟩)
     |(obtain⟨C,D⟩:∃C,((((((M.setCell ⟨c.heap.size,0,none⟩ (int i64 i)).setCell ⟨c.heap.size,1,none⟩ (int i64 j)).setCell ⟨c.heap.size,2,none⟩ (int i64 m)).setCell ⟨c.heap.size,3,none⟩ (int i64 o)).setCell ⟨c.heap.size,4,none⟩ (.string p)).setCell ⟨c.heap.size,5,none⟩ (.bool false))=C:=⟨_,rfl⟩
       have g:Below c.heap.size c C:=by rw[<-D];exact qa2 U.out (b:=c.heap.size) (Nat.le_refl _) ⟨i,j,m,o,p,false⟩
       have s:qag C c.heap.size (qah ⟨i,j,m,o,p,false⟩):=by rw[<-D];exact q.verSet ⟨i,j,m,o,p,false⟩
       rw[D];clear D z0 V z2 z3 z4 z5 X Y Z y3 y4 y5;have d:=y.later g;obtain⟨s0,s1,s2,s3,s4,s5⟩:=d.c6;have g0:=d.free 0 (by simp[qah]);have g1:=d.free 1 (by simp[qah]);have g2:=d.free 2 (by simp[qah]);have g3:=d.free 3 (by simp[qah]);have g4:=d.free 4 (by simp[qah]);have g5:=d.free 5 (by simp[qah]);obtain⟨t0,t1,t2,t3,t4,t5⟩:=s.c6;have E:=qa2 (qab hb g) (b:=w.heap.size+1) (by omega) qc6;have G:=d.verSet qc6;have hbu:=qa2 (qab hb g) (b:=w.heap.size+1) (by omega) ⟨i,j,m,o,p,false⟩;have RU2:=d.verSet ⟨i,j,m,o,p,false⟩;clear g d s
       go_wp2_with fail
       rw[I.out];have e:qog (some ⟨i,j,m,o,p,false⟩)=(⟨i,j,m,o,p,false⟩,0):=rfl;rw[e]
       refine bodyPost_ret (qc1 (v:=⟨i,j,m,o,p,false⟩) RU2 rfl rfl) rfl ⟨rfl,hbu⟩)
   ·have J:Hid (∀x:Later c,Calls Tryz.prog 260 #[.slice a (z k).length cap,.agg #[int i64 a0,int i64 a1,int i64 a2,int i64 a3]] x.val λe w'=>e=.returned (.tuple #[.agg #[int i64 i,int i64 j,int i64 m,int i64 o,.string p,.bool true],.bool true])/\Below x.val.heap.size x.val w'):=O.out;clear O;have r:=boxed (Below.refl _ c) (.cells #[int i64 0,int i64 0,int i64 0,int i64 0,.string ⟨#[]⟩,.bool false] 130);have p0:=cell_later r q0;have p1:=cell_later r q1;have p2:=cell_later r q2;have p3:=cell_later r q3;have p4:=cell_later r k0;clear r
    go_wp2_with fail
    go_region_law (first
     |(refine qav rfl 260 #[.slice a (z k).length cap,.agg #[int i64 a0,int i64 a1,int i64 a2,int i64 a3]] (by go_simp) (J.out ⟨c.drew,(Below.refl _ c).drew⟩) ?_
       rintro e B ⟨rfl,K⟩;refine⟨_,rfl,?_⟩;have S:Hid (Below c.heap.size c B):=qab (Below.refl _ c).drew K
       clear K)
     |(refine qav rfl 260 #[.slice a (z k).length cap,.agg #[int i64 a0,int i64 a1,int i64 a2,int i64 a3]] (by go_simp) (J.out ⟨(c.alloc (.cells #[int i64 0,int i64 0,int i64 0,int i64 0,.string ⟨#[]⟩,.bool false] 130)).drew,(boxed (Below.refl _ c) _).drew⟩) ?_
       rintro e M ⟨rfl,g⟩;refine⟨_,rfl,?_⟩;have U:Hid (Below c.heap.size c M):=qab (boxed (Below.refl _ c) _).drew g;have q:=((qag.new (w:=c) (T:=130) (qah qc6) rfl).drew).later g;obtain⟨z0,V,z2,z3,z4,z5⟩:=q.c6;have X:=q.free 0 (by simp[qah]);have Y:=q.free 1 (by simp[qah]);have Z:=q.free 2 (by simp[qah]);have y3:=q.free 3 (by simp[qah]);have y4:=q.free 4 (by simp[qah]);have y5:=q.free 5 (by simp[qah])
       clear g))
    all_goals first
     |(have g:=boxed S.out (.cells #[int i64 i,int i64 j,int i64 m,int i64 o,.string p,.bool true] 130)
       have s:=qag.new (w:=B) (T:=130) (qah ⟨i,j,m,o,p,true⟩) rfl;change qag (B.alloc (.cells #[int i64 i,int i64 j,int i64 m,int i64 o,.string p,.bool true] 130)) B.heap.size (qah ⟨i,j,m,o,p,true⟩)at s;have d:=y.later g;obtain⟨s0,s1,s2,s3,s4,s5⟩:=d.c6;have g0:=d.free 0 (by simp[qah]);have g1:=d.free 1 (by simp[qah]);have g2:=d.free 2 (by simp[qah]);have g3:=d.free 3 (by simp[qah]);have g4:=d.free 4 (by simp[qah]);have g5:=d.free 5 (by simp[qah]);obtain⟨t0,t1,t2,t3,t4,t5⟩:=s.c6;have E:=qa2 (qab hb g) (b:=w.heap.size+1) (by omega) qc6;have G:=d.verSet qc6;have hbu:=qa2 (qab hb g) (b:=w.heap.size+1) (by omega) ⟨i,j,m,o,p,true⟩;have RU2:=d.verSet ⟨i,j,m,o,p,true⟩;clear g d s
       go_wp2_with fail
       rw[I.out];have e:qog (some ⟨i,j,m,o,p,true⟩)=(qc6,8):=rfl;rw[e]
       refine bodyPost_ret (qc1 (v:=qc6) G rfl rfl) rfl ⟨rfl,E⟩)
     |(obtain⟨C,D⟩:∃C,((((((M.setCell ⟨c.heap.size,0,none⟩ (int i64 i)).setCell ⟨c.heap.size,1,none⟩ (int i64 j)).setCell ⟨c.heap.size,2,none⟩ (int i64 m)).setCell ⟨c.heap.size,3,none⟩ (int i64 o)).setCell ⟨c.heap.size,4,none⟩ (.string p)).setCell ⟨c.heap.size,5,none⟩ (.bool true))=C:=⟨_,rfl⟩
       have g:Below c.heap.size c C:=by rw[<-D];exact qa2 U.out (b:=c.heap.size) (Nat.le_refl _) ⟨i,j,m,o,p,true⟩
       have s:qag C c.heap.size (qah ⟨i,j,m,o,p,true⟩):=by rw[<-D];exact q.verSet ⟨i,j,m,o,p,true⟩
       rw[D];clear D z0 V z2 z3 z4 z5 X Y Z y3 y4 y5;have d:=y.later g;obtain⟨s0,s1,s2,s3,s4,s5⟩:=d.c6;have g0:=d.free 0 (by simp[qah]);have g1:=d.free 1 (by simp[qah]);have g2:=d.free 2 (by simp[qah]);have g3:=d.free 3 (by simp[qah]);have g4:=d.free 4 (by simp[qah]);have g5:=d.free 5 (by simp[qah]);obtain⟨t0,t1,t2,t3,t4,t5⟩:=s.c6;have E:=qa2 (qab hb g) (b:=w.heap.size+1) (by omega) qc6;have G:=d.verSet qc6;have hbu:=qa2 (qab hb g) (b:=w.heap.size+1) (by omega) ⟨i,j,m,o,p,true⟩;have RU2:=d.verSet ⟨i,j,m,o,p,true⟩;clear g d s
       go_wp2_with fail
       rw[I.out];have e:qog (some ⟨i,j,m,o,p,true⟩)=(qc6,8):=rfl;rw[e]
       refine bodyPost_ret (qc1 (v:=qc6) G rfl rfl) rfl ⟨rfl,E⟩)
end Go.Proofs.YtoanjdndmlffdaaGreatDoor
