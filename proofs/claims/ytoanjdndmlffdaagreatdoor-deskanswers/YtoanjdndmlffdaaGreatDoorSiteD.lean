import Derived.Test.YtoanjdndmlffdaaGreatDoorSiteC
set_option maxHeartbeats 8000000
set_option maxRecDepth 100000
namespace Go.Proofs.YtoanjdndmlffdaaGreatDoor
open Go.RowKit
section
open Tryz Go.Value Go.IntKind
theorem qny (x y:Int) (w:World):
 Calls prog 220 #[int i64 x,int i64 y] w λe w'=>e=.returned (int i64 (qa6 x y))/\w'=w:=by
 by_cases h:y<x
 ·rw[ql8 h];go_enter func220,ntmps220
  go_wp2
  go_ret;exact⟨rfl,rfl⟩
 ·rw[qmg h];go_enter func220,ntmps220
  go_wp2
  go_ret;exact⟨rfl,rfl⟩
theorem q58 (a0 a1 a2 a3 a b c d:Int) (w:World):
 Calls prog 219 #[.agg #[int i64 a0,int i64 a1,int i64 a2,int i64 a3],.agg #[int i64 a,int i64 b,int i64 c,int i64 d],.func (.func 220) #[] #[]] w λe w'=>e=.returned (.agg #[int i64 (qa6 a0 a),int i64 (qa6 a1 b),int i64 (qa6 a2 c),int i64 (qa6 a3 d)])/\Below w.heap.size w w':=by
 go_enter func219,ntmps219
 go_wp2
 refine wp_loop_rounds 5 ?_;rw[rounds_succ]
 go_wp2
 go_region_held3 (λw'=>w'.cell? ⟨w.heap.size,0,none⟩=some (int i64 a0)/\w'.cell? ⟨w.heap.size,1,none⟩=some (int i64 a1)/\w'.cell? ⟨w.heap.size,2,none⟩=some (int i64 a2)/\w'.cell? ⟨w.heap.size,3,none⟩=some (int i64 a3)/\w'.cell? ⟨w.heap.size+1,0,none⟩=some (int i64 a)/\w'.cell? ⟨w.heap.size+1,1,none⟩=some (int i64 b)/\w'.cell? ⟨w.heap.size+1,2,none⟩=some (int i64 c)/\w'.cell? ⟨w.heap.size+1,3,none⟩=some (int i64 d)) (go_keep) ((go_at_call 220;refine(qny _ _ _).mono ?_;rintro e wc ⟨rfl,rfl⟩))
 go_wp2
 rw[rounds_succ]
 go_wp2
 go_region_held3 (λw'=>w'.cell? ⟨w.heap.size,0,none⟩=some (int i64 a0)/\w'.cell? ⟨w.heap.size,1,none⟩=some (int i64 a1)/\w'.cell? ⟨w.heap.size,2,none⟩=some (int i64 a2)/\w'.cell? ⟨w.heap.size,3,none⟩=some (int i64 a3)/\w'.cell? ⟨w.heap.size+1,0,none⟩=some (int i64 a)/\w'.cell? ⟨w.heap.size+1,1,none⟩=some (int i64 b)/\w'.cell? ⟨w.heap.size+1,2,none⟩=some (int i64 c)/\w'.cell? ⟨w.heap.size+1,3,none⟩=some (int i64 d)) (go_keep) ((go_at_call 220;refine(qny _ _ _).mono ?_;rintro e wc ⟨rfl,rfl⟩))
 go_wp2
 rw[rounds_succ]
 go_wp2
 go_region_held3 (λw'=>w'.cell? ⟨w.heap.size,0,none⟩=some (int i64 a0)/\w'.cell? ⟨w.heap.size,1,none⟩=some (int i64 a1)/\w'.cell? ⟨w.heap.size,2,none⟩=some (int i64 a2)/\w'.cell? ⟨w.heap.size,3,none⟩=some (int i64 a3)/\w'.cell? ⟨w.heap.size+1,0,none⟩=some (int i64 a)/\w'.cell? ⟨w.heap.size+1,1,none⟩=some (int i64 b)/\w'.cell? ⟨w.heap.size+1,2,none⟩=some (int i64 c)/\w'.cell? ⟨w.heap.size+1,3,none⟩=some (int i64 d)) (go_keep) ((go_at_call 220;refine(qny _ _ _).mono ?_;rintro e wc ⟨rfl,rfl⟩))
 go_wp2
 rw[rounds_succ]
 go_wp2
 go_region_held3 (λw'=>w'.cell? ⟨w.heap.size,0,none⟩=some (int i64 a0)/\w'.cell? ⟨w.heap.size,1,none⟩=some (int i64 a1)/\w'.cell? ⟨w.heap.size,2,none⟩=some (int i64 a2)/\w'.cell? ⟨w.heap.size,3,none⟩=some (int i64 a3)/\w'.cell? ⟨w.heap.size+1,0,none⟩=some (int i64 a)/\w'.cell? ⟨w.heap.size+1,1,none⟩=some (int i64 b)/\w'.cell? ⟨w.heap.size+1,2,none⟩=some (int i64 c)/\w'.cell? ⟨w.heap.size+1,3,none⟩=some (int i64 d)) (go_keep) ((go_at_call 220;refine(qny _ _ _).mono ?_;rintro e wc ⟨rfl,rfl⟩))
 go_wp2
 rw[rounds_succ]
 go_wp2
 exact bodyPost_ret (v:=.agg #[int i64 (qa6 a0 a),int i64 (qa6 a1 b),int i64 (qa6 a2 c),int i64 (qa6 a3 d)]) (by simp[results,results219,go_sem]) rfl ⟨rfl,by repeat (first|exact Below.refl _ _|apply Below.drew|apply boxed)⟩
theorem qr4 (a0 a1 a2 a3 a b c d:Int) (w:World):
 Calls prog 163 #[.agg #[int i64 a0,int i64 a1,int i64 a2,int i64 a3],.agg #[int i64 a,int i64 b,int i64 c,int i64 d]] w λe w'=>e=.returned (.agg #[int i64 (qa6 a0 a),int i64 (qa6 a1 b),int i64 (qa6 a2 c),int i64 (qa6 a3 d)])/\Below w.heap.size w w':=by
 go_enter func163,ntmps163
 go_wp2_with fail
 refine(q58 _ _ _ _ _ _ _ _ _).mono ?_;rintro e g ⟨rfl,hb⟩;obtain⟨h,i⟩:=qhg hb
 have j:w.heap.size+2<g.heap.size:=by have:=hb.size;simp at this;omega
 go_wp2
 exact bodyPost_ret (v:=.agg #[int i64 (qa6 a0 a),int i64 (qa6 a1 b),int i64 (qa6 a2 c),int i64 (qa6 a3 d)]) (by simp[results,results163,go_sem,h]) rfl ⟨rfl,((((qyo hb).setCell (by simp;omega) _).setCell (by simp;omega) _).setCell (by simp;omega) _).setCell (by simp;omega) _⟩
end
section
open Go.Value Go.IntKind
variable {S:qaf} {lv:Value} {bm:Nat}
theorem qmr {k:Nat} (a:k<4):(qck S lv bm)[9+k*4]?=some (int i64 (S.oth (k*4)))/\(qck S lv bm)[9+k*4+1]?=some (int i64 (S.oth (k*4+1)))/\(qck S lv bm)[9+k*4+2]?=some (int i64 (S.oth (k*4+2)))/\(qck S lv bm)[9+k*4+3]?=some (int i64 (S.oth (k*4+3))):=by
 match k,a with
 |0,_=>exact⟨rfl,rfl,rfl,rfl⟩
 |1,_=>exact⟨rfl,rfl,rfl,rfl⟩
 |2,_=>exact⟨rfl,rfl,rfl,rfl⟩
 |3,_=>exact⟨rfl,rfl,rfl,rfl⟩
variable {b:Nat} {F:Nat->Prop}
theorem q3a {log waits:List TxM} (a:Int) (w:World) (h:qd0 w b lv bm F S log waits) (h4:4<a):
 Calls Tryz.prog 162 #[.pointer (some ⟨b,0,none⟩),int i64 a] w λe w'=>
  e=.returned (.agg #[int i64 (qap S (qdo a)).v0,int i64 (qap S (qdo a)).v1,int i64 (qap S (qdo a)).v2,int i64 (qap S (qdo a)).v3])/\Below w.heap.size w w':=by
 have D:=(qa9.new w 77 0 0 0 0).boxed (.cells #[int i64 S.a0,int i64 S.a1,int i64 S.a2,int i64 S.a3] 77);have E:=qa9.newest (w:=w.alloc (.cells #[int i64 0,int i64 0,int i64 0,int i64 0] 77)) (T:=77) (n:=w.heap.size+1) (a0:=S.a0) (a1:=S.a1) (a2:=S.a2) (a3:=S.a3) (by simp);have hb:=boxed (boxed (Below.refl _ w) (.cells #[int i64 0,int i64 0,int i64 0,int i64 0] 77)) (.cells #[int i64 S.a0,int i64 S.a1,int i64 S.a2,int i64 S.a3] 77);have N:Hid _:=h;have G:=h.box.lt;have O:=h.box.cell 1 _ rfl;have P:=h.box.cell 2 _ rfl;have Q:=h.box.cell 3 _ rfl;have R:=h.box.cell 4 _ rfl;clear h;go_enter Tryz.func162,Tryz.ntmps162
 go_wp2_with fail
 have o:Hid (StM w S 0 ((w.alloc (.cells #[int i64 0,int i64 0,int i64 0,int i64 0] 77)).alloc (.cells #[int i64 S.a0,int i64 S.a1,int i64 S.a2,int i64 S.a3] 77))):=⟨D,E,hb⟩;obtain⟨W,H⟩:∃W,(w.alloc (.cells #[int i64 0,int i64 0,int i64 0,int i64 0] 77)).alloc (.cells #[int i64 S.a0,int i64 S.a1,int i64 S.a2,int i64 S.a3] 77)=W:=⟨_,rfl⟩;rw[H]at o ⊢;clear H D E hb O P Q R G
 go_loopw [13] (λiv wr=>∃(k:Nat) (z:Int),k<=(qdo a)/\z=k/\iv=int i64 z/\Hid (StM w S k wr)) (λi _=>4-(intOf i).toNat)
 case atStart=>exact⟨0,0,by omega,rfl,rfl,o⟩
 case round=>
  clear o;obtain⟨k,z,hk,l,rfl,c⟩:=hrel;have I:Hid _:=l;have hcut:(qdo a)=min 4 a.toNat:=rfl;by_cases G:k<(qdo a)
  ·have h1:z<a:=by omega
   have U:z<4:=by omega
   have h5:0<=z:=by omega
   have h6:z.toNat=k:=by omega
   have V:k<4:=by omega
   clear hcut;have g:=N.out.later c.out.b;have i0:=g.box.cell 0 _ rfl;by_cases p:z=S.id
   ·have e:Hid (qap S (k+1)=qap S k):=by
     show qap S (k+1)=qap S k
     have:(k:Int)=S.id:=by omega
     simp[qap,this]
    have X:Hid (StM w S (k+1) wr):=⟨c.out.r,by rw[e.out];exact c.out.v,c.out.b⟩
    have Y:(z==S.id)=true:=by simp[p]
    clear l g
    go_wp2_with fail
    go_roundw
    case rel=>exact⟨k+1,z+1,by omega,by have:=I.out;omega,by go_num,X⟩
    case measure=>simp[intOf];omega
   ·have Y:(z==S.id)=false:=by simp[p]
    obtain⟨J,K,L,M⟩:=qmr (S:=S) (lv:=lv) (bm:=bm) V;have Z:=g.box.cell _ _ J;have q1:=g.box.cell _ _ K;have q2:=g.box.cell _ _ L;have q3:=g.box.cell _ _ M;obtain⟨⟨v0,v1,v2,v3⟩,q⟩:∃v,qap S k=v:=⟨_,rfl⟩;obtain⟨p0,s⟩:∃x,S.oth (k*4)=x:=⟨_,rfl⟩;obtain⟨p1,u⟩:∃x,S.oth (k*4+1)=x:=⟨_,rfl⟩;obtain⟨p2,y⟩:∃x,S.oth (k*4+2)=x:=⟨_,rfl⟩;obtain⟨p3,B⟩:∃x,S.oth (k*4+3)=x:=⟨_,rfl⟩
    have EQ:Hid (qap S (k+1)=⟨qa6 v0 p0,qa6 v1 p1,qa6 v2 p2,qa6 v3 p3⟩):=by
     show qap S (k+1)=_
     have:¬(k:Int)=S.id:=by omega
     simp[qap,this,q,s,u,y,B]
    rw[s]at Z;rw[u]at q1;rw[y]at q2;rw[B]at q3
    have j:qa9 wr (w.heap.size+1) v0 v1 v2 v3:=by have:=c.out.v;rw[q]at this;exact this
    have x0:=j.c0;have x1:=j.c1;have x2:=j.c2;have x3:=j.c3
    have PU:Hid (Calls Tryz.prog 163 #[.agg #[int i64 v0,int i64 v1,int i64 v2,int i64 v3],.agg #[int i64 p0,int i64 p1,int i64 p2,int i64 p3]] wr.drew λe w'=>e=.returned (.agg #[int i64 (qa6 v0 p0),int i64 (qa6 v1 p1),int i64 (qa6 v2 p2),int i64 (qa6 v3 p3)])/\qa9 w' w.heap.size 0 0 0 0/\qa9 w' (w.heap.size+1) v0 v1 v2 v3/\Below w.heap.size w w'):=
     (qr4 v0 v1 v2 v3 p0 p1 p2 p3 wr.drew).mono λe w' ⟨he,C⟩=>⟨he,qa9.later C c.out.r.drew,qa9.later C j.drew,qab c.out.b.drew C⟩
    have hB:w.heap.size<=w.heap.size+1:=by omega
    have hBB:=c.out.b.drew;clear l g J K L M q s u y B j c p
    go_wp2_with fail
    go_region_with
     (first|(go_at_call 163;with_reducible refine PU.out.mono ?_;rintro e w5 ⟨rfl,RR5,d,hb5⟩;have y0:=d.c0;have y1:=d.c1;have y2:=d.c2;have y3:=d.c3;have z0:=d.f0;have z1:=d.f1;have z2:=d.f2;have z3:=d.f3))
    all_goals
     have SM:Hid (StM w S (k+1) ((((w5.setCell ⟨w.heap.size+1,0,none⟩ (int i64 (qa6 v0 p0))).setCell ⟨w.heap.size+1,1,none⟩ (int i64 (qa6 v1 p1))).setCell ⟨w.heap.size+1,2,none⟩ (int i64 (qa6 v2 p2))).setCell ⟨w.heap.size+1,3,none⟩ (int i64 (qa6 v3 p3)))):=
      ⟨RR5.far4 (by omega),by rw[EQ.out];exact d.set,qm6 hb5 hB _ _ _ _⟩
     go_wp2_with fail
     go_roundw
     case rel=>exact⟨k+1,z+1,by omega,by have:=I.out;omega,by go_num,SM⟩
     case measure=>simp[intOf];omega
  ·have hke:k=(qdo a):=by omega
   have U:¬z<4:=by omega
   clear hcut;subst hke;have r0:=c.out.r.c0;have r1:=c.out.r.c1;have r2:=c.out.r.c2;have r3:=c.out.r.c3;have f0:=c.out.r.f0;have f1:=c.out.r.f1;have f2:=c.out.r.f2;have f3:=c.out.r.f3;have x0:=c.out.v.c0;have x1:=c.out.v.c1;have x2:=c.out.v.c2;have x3:=c.out.v.c3;have m:=c.out.r.set (x0:=(qap S (qdo a)).v0) (x1:=(qap S (qdo a)).v1) (x2:=(qap S (qdo a)).v2) (x3:=(qap S (qdo a)).v3);have hbZ:=qm6 c.out.b (Nat.le_refl _) (qap S (qdo a)).v0 (qap S (qdo a)).v1 (qap S (qdo a)).v2 (qap S (qdo a)).v3;have g0:=m.c0;have g1:=m.c1;have g2:=m.c2;have g3:=m.c3;clear l
   go_wp2_with fail
   exact bodyPost_ret (v:=.agg #[int i64 (qap S (qdo a)).v0,int i64 (qap S (qdo a)).v1,int i64 (qap S (qdo a)).v2,int i64 (qap S (qdo a)).v3]) (by simp[results,Tryz.results162,go_sem,g0,g1,g2,g3]) rfl ⟨rfl,hbZ⟩
theorem q45 {log waits:List TxM} (a:Int) (w:World) (h:qd0 w b lv bm F S log waits) (h4:¬4<a):
 Calls Tryz.prog 162 #[.pointer (some ⟨b,0,none⟩),int i64 a] w λe w'=>
  e=.returned (.agg #[int i64 (qap S (qdo a)).v0,int i64 (qap S (qdo a)).v1,int i64 (qap S (qdo a)).v2,int i64 (qap S (qdo a)).v3])/\Below w.heap.size w w':=by
 have D:=(qa9.new w 77 0 0 0 0).boxed (.cells #[int i64 S.a0,int i64 S.a1,int i64 S.a2,int i64 S.a3] 77);have E:=qa9.newest (w:=w.alloc (.cells #[int i64 0,int i64 0,int i64 0,int i64 0] 77)) (T:=77) (n:=w.heap.size+1) (a0:=S.a0) (a1:=S.a1) (a2:=S.a2) (a3:=S.a3) (by simp);have hb:=boxed (boxed (Below.refl _ w) (.cells #[int i64 0,int i64 0,int i64 0,int i64 0] 77)) (.cells #[int i64 S.a0,int i64 S.a1,int i64 S.a2,int i64 S.a3] 77);have N:Hid _:=h;have G:=h.box.lt;have O:=h.box.cell 1 _ rfl;have P:=h.box.cell 2 _ rfl;have Q:=h.box.cell 3 _ rfl;have R:=h.box.cell 4 _ rfl;clear h;go_enter Tryz.func162,Tryz.ntmps162
 go_wp2_with fail
 have o:Hid (StM w S 0 ((w.alloc (.cells #[int i64 0,int i64 0,int i64 0,int i64 0] 77)).alloc (.cells #[int i64 S.a0,int i64 S.a1,int i64 S.a2,int i64 S.a3] 77))):=⟨D,E,hb⟩;obtain⟨W,H⟩:∃W,(w.alloc (.cells #[int i64 0,int i64 0,int i64 0,int i64 0] 77)).alloc (.cells #[int i64 S.a0,int i64 S.a1,int i64 S.a2,int i64 S.a3] 77)=W:=⟨_,rfl⟩;rw[H]at o ⊢;clear H D E hb O P Q R G
 go_loopw [13] (λiv wr=>∃(k:Nat) (z:Int),k<=(qdo a)/\z=k/\iv=int i64 z/\Hid (StM w S k wr)) (λi _=>4-(intOf i).toNat)
 case atStart=>exact⟨0,0,by omega,rfl,rfl,o⟩
 case round=>
  clear o;obtain⟨k,z,hk,l,rfl,c⟩:=hrel;have I:Hid _:=l;have hcut:(qdo a)=min 4 a.toNat:=rfl;by_cases G:k<(qdo a)
  ·have U:z<a:=by omega
   have h2:z<4:=by omega
   have h5:0<=z:=by omega
   have h6:z.toNat=k:=by omega
   have V:k<4:=by omega
   clear hcut;have g:=N.out.later c.out.b;have i0:=g.box.cell 0 _ rfl;by_cases p:z=S.id
   ·have e:Hid (qap S (k+1)=qap S k):=by
     show qap S (k+1)=qap S k
     have:(k:Int)=S.id:=by omega
     simp[qap,this]
    have X:Hid (StM w S (k+1) wr):=⟨c.out.r,by rw[e.out];exact c.out.v,c.out.b⟩
    have Y:(z==S.id)=true:=by simp[p]
    clear l g
    go_wp2_with fail
    go_roundw
    case rel=>exact⟨k+1,z+1,by omega,by have:=I.out;omega,by go_num,X⟩
    case measure=>simp[intOf];omega
   ·have Y:(z==S.id)=false:=by simp[p]
    obtain⟨J,K,L,M⟩:=qmr (S:=S) (lv:=lv) (bm:=bm) V;have Z:=g.box.cell _ _ J;have q1:=g.box.cell _ _ K;have q2:=g.box.cell _ _ L;have q3:=g.box.cell _ _ M;obtain⟨⟨v0,v1,v2,v3⟩,q⟩:∃v,qap S k=v:=⟨_,rfl⟩;obtain⟨p0,s⟩:∃x,S.oth (k*4)=x:=⟨_,rfl⟩;obtain⟨p1,u⟩:∃x,S.oth (k*4+1)=x:=⟨_,rfl⟩;obtain⟨p2,y⟩:∃x,S.oth (k*4+2)=x:=⟨_,rfl⟩;obtain⟨p3,B⟩:∃x,S.oth (k*4+3)=x:=⟨_,rfl⟩
    have EQ:Hid (qap S (k+1)=⟨qa6 v0 p0,qa6 v1 p1,qa6 v2 p2,qa6 v3 p3⟩):=by
     show qap S (k+1)=_
     have:¬(k:Int)=S.id:=by omega
     simp[qap,this,q,s,u,y,B]
    rw[s]at Z;rw[u]at q1;rw[y]at q2;rw[B]at q3
    have j:qa9 wr (w.heap.size+1) v0 v1 v2 v3:=by have:=c.out.v;rw[q]at this;exact this
    have x0:=j.c0;have x1:=j.c1;have x2:=j.c2;have x3:=j.c3
    have PU:Hid (Calls Tryz.prog 163 #[.agg #[int i64 v0,int i64 v1,int i64 v2,int i64 v3],.agg #[int i64 p0,int i64 p1,int i64 p2,int i64 p3]] wr.drew λe w'=>e=.returned (.agg #[int i64 (qa6 v0 p0),int i64 (qa6 v1 p1),int i64 (qa6 v2 p2),int i64 (qa6 v3 p3)])/\qa9 w' w.heap.size 0 0 0 0/\qa9 w' (w.heap.size+1) v0 v1 v2 v3/\Below w.heap.size w w'):=
     (qr4 v0 v1 v2 v3 p0 p1 p2 p3 wr.drew).mono λe w' ⟨he,C⟩=>⟨he,qa9.later C c.out.r.drew,qa9.later C j.drew,qab c.out.b.drew C⟩
    have hB:w.heap.size<=w.heap.size+1:=by omega
    have hBB:=c.out.b.drew;clear l g J K L M q s u y B j c p
    go_wp2_with fail
    go_region_with
     (first|(go_at_call 163;with_reducible refine PU.out.mono ?_;rintro e w5 ⟨rfl,RR5,d,hb5⟩;have y0:=d.c0;have y1:=d.c1;have y2:=d.c2;have y3:=d.c3;have z0:=d.f0;have z1:=d.f1;have z2:=d.f2;have z3:=d.f3))
    all_goals
     have SM:Hid (StM w S (k+1) ((((w5.setCell ⟨w.heap.size+1,0,none⟩ (int i64 (qa6 v0 p0))).setCell ⟨w.heap.size+1,1,none⟩ (int i64 (qa6 v1 p1))).setCell ⟨w.heap.size+1,2,none⟩ (int i64 (qa6 v2 p2))).setCell ⟨w.heap.size+1,3,none⟩ (int i64 (qa6 v3 p3)))):=
      ⟨RR5.far4 (by omega),by rw[EQ.out];exact d.set,qm6 hb5 hB _ _ _ _⟩
     go_wp2_with fail
     go_roundw
     case rel=>exact⟨k+1,z+1,by omega,by have:=I.out;omega,by go_num,SM⟩
     case measure=>simp[intOf];omega
  ·have hke:k=(qdo a):=by omega
   have U:¬z<a:=by omega
   clear hcut;subst hke;have r0:=c.out.r.c0;have r1:=c.out.r.c1;have r2:=c.out.r.c2;have r3:=c.out.r.c3;have f0:=c.out.r.f0;have f1:=c.out.r.f1;have f2:=c.out.r.f2;have f3:=c.out.r.f3;have x0:=c.out.v.c0;have x1:=c.out.v.c1;have x2:=c.out.v.c2;have x3:=c.out.v.c3;have m:=c.out.r.set (x0:=(qap S (qdo a)).v0) (x1:=(qap S (qdo a)).v1) (x2:=(qap S (qdo a)).v2) (x3:=(qap S (qdo a)).v3);have hbZ:=qm6 c.out.b (Nat.le_refl _) (qap S (qdo a)).v0 (qap S (qdo a)).v1 (qap S (qdo a)).v2 (qap S (qdo a)).v3;have g0:=m.c0;have g1:=m.c1;have g2:=m.c2;have g3:=m.c3;clear l
   go_wp2_with fail
   exact bodyPost_ret (v:=.agg #[int i64 (qap S (qdo a)).v0,int i64 (qap S (qdo a)).v1,int i64 (qap S (qdo a)).v2,int i64 (qap S (qdo a)).v3]) (by simp[results,Tryz.results162,go_sem,g0,g1,g2,g3]) rfl ⟨rfl,hbZ⟩
theorem qz6 {log waits:List TxM} (a:Int) (w:World) (h:qd0 w b lv bm F S log waits):
 Calls Tryz.prog 162 #[.pointer (some ⟨b,0,none⟩),int i64 a] w λe w'=>
  e=.returned (.agg #[int i64 (qap S (qdo a)).v0,int i64 (qap S (qdo a)).v1,int i64 (qap S (qdo a)).v2,int i64 (qap S (qdo a)).v3])/\Below w.heap.size w w':=by
 by_cases c:4<a
 ·exact q3a a w h c
 ·exact q45 a w h c
end
section
open Go.Value Go.IntKind
variable {b:Nat} {S:qaf}
theorem qd0.know {w:World} {lv:Value} {bm:Nat} {F:Nat->Prop} {log waits:List TxM} (h:qd0 w b lv bm F S log waits) {k:Nat} (a:k<4) (x0 x1 x2 x3:Int):
 qd0 ((((w.setCell ⟨b,9+k*4,none⟩ (int i64 (qb9 (S.oth (k*4)) x0))).setCell ⟨b,9+k*4+1,none⟩ (int i64 (qb9 (S.oth (k*4+1)) x1))).setCell ⟨b,9+k*4+2,none⟩ (int i64 (qb9 (S.oth (k*4+2)) x2))).setCell ⟨b,9+k*4+3,none⟩ (int i64 (qb9 (S.oth (k*4+3)) x3))) b lv bm F (qbs S k x0 x1 x2 x3) log waits:=by
 have a1:=h.cell (S':={S with oth:=λj=>if j=k*4 then qb9 (S.oth j) x0 else S.oth j}) (9+k*4) (int i64 (qb9 (S.oth (k*4)) x0)) (by omega) (by match k,a with|0,_=>rfl|1,_=>rfl|2,_=>rfl|3,_=>rfl) rfl;have a2:=a1.cell (S':={S with oth:=λj=>if j=k*4 then qb9 (S.oth j) x0 else if j=k*4+1 then qb9 (S.oth j) x1 else S.oth j}) (9+k*4+1) (int i64 (qb9 (S.oth (k*4+1)) x1)) (by omega) (by match k,a with|0,_=>rfl|1,_=>rfl|2,_=>rfl|3,_=>rfl) rfl;have a3:=a2.cell (S':={S with oth:=λj=>if j=k*4 then qb9 (S.oth j) x0 else if j=k*4+1 then qb9 (S.oth j) x1 else if j=k*4+2 then qb9 (S.oth j) x2 else S.oth j}) (9+k*4+2) (int i64 (qb9 (S.oth (k*4+2)) x2)) (by omega) (by match k,a with|0,_=>rfl|1,_=>rfl|2,_=>rfl|3,_=>rfl) rfl;exact a3.cell (S':=qbs S k x0 x1 x2 x3) (9+k*4+3) (int i64 (qb9 (S.oth (k*4+3)) x3)) (by omega) (by match k,a with|0,_=>rfl|1,_=>rfl|2,_=>rfl|3,_=>rfl) rfl
theorem q3r {G:Nat->Prop} {n:Int} (N:0<=n) (O:n<4) (x0 x1 x2 x3:Int) (w:World) (h:PS w b G S):
 Calls Tryz.prog 257 #[.pointer (some ⟨b,0,none⟩),int i64 n,.agg #[int i64 x0,int i64 x1,int i64 x2,int i64 x3]] w λe w'=>e=.returned (qbq 0)/\PPo w b G (qbs S n.toNat x0 x1 x2 x3) w':=by
 have P:=qra (n:=n) (v:=true) (by simp[N,O]) (w.alloc (.cells #[int i64 x0,int i64 x1,int i64 x2,int i64 x3] 77));have hb:=boxed (Below.refl _ w) (.cells #[int i64 x0,int i64 x1,int i64 x2,int i64 x3] 77);have E:=qag.new (w:=w) (T:=77) [int i64 x0,int i64 x1,int i64 x2,int i64 x3] rfl;obtain⟨k,Q⟩:∃k,n.toNat=k:=⟨_,rfl⟩
 have d:k<4:=by omega
 obtain⟨lv,bm,F,log,waits,s,H,I,u⟩:=h
 have J:Hid (∀W,Below w.heap.size w W->∀W',W'=((((W.setCell ⟨b,9+k*4,none⟩ (int i64 (qb9 (S.oth (k*4)) x0))).setCell ⟨b,9+k*4+1,none⟩ (int i64 (qb9 (S.oth (k*4+1)) x1))).setCell ⟨b,9+k*4+2,none⟩ (int i64 (qb9 (S.oth (k*4+2)) x2))).setCell ⟨b,9+k*4+3,none⟩ (int i64 (qb9 (S.oth (k*4+3)) x3)))->PPo w b G (qbs S n.toNat x0 x1 x2 x3) W'):=λW g W' e=>by
  rw[Q];have K:=(s.later g).know d x0 x1 x2 x3;have i:G b:=(u b).2 (.inl (.inl rfl))
  have R:qae G W W':=by
   rw[e];exact(((qae.setCell W ⟨b,9+k*4,none⟩ _ i).trans (qae.setCell _ ⟨b,9+k*4+1,none⟩ _ i)).trans (qae.setCell _ ⟨b,9+k*4+2,none⟩ _ i)).trans (qae.setCell _ ⟨b,9+k*4+3,none⟩ _ i)
  rw[<-e]at K;exact⟨G,⟨lv,bm,F,log,waits,K,H,I,u⟩,λj y=>.inl y,(qae.ofBelow g).more R (λj y=>.inl y)⟩
 obtain⟨l,m,o,p⟩:=qmr (S:=S) (lv:=lv) (bm:=bm) d;have L:Hid (∀W,Below w.heap.size w W->qd0 W b lv bm F S log waits):=λW g=>s.later g;obtain⟨p0,z⟩:∃x,S.oth (k*4)=x:=⟨_,rfl⟩;obtain⟨p1,B⟩:∃x,S.oth (k*4+1)=x:=⟨_,rfl⟩;obtain⟨p2,C⟩:∃x,S.oth (k*4+2)=x:=⟨_,rfl⟩;obtain⟨p3,D⟩:∃x,S.oth (k*4+3)=x:=⟨_,rfl⟩;rw[z]at l;rw[B]at m;rw[C]at o;rw[D]at p;rw[z,B,C,D]at J;have U:=hb.drew;have V:Hid (Calls Tryz.prog 240 #[.agg #[int i64 p0,int i64 p1,int i64 p2,int i64 p3],.agg #[int i64 x0,int i64 x1,int i64 x2,int i64 x3]] (w.alloc (.cells #[int i64 x0,int i64 x1,int i64 x2,int i64 x3] 77)).drew λe w'=>e=.returned (.agg #[int i64 (qb9 p0 x0),int i64 (qb9 p1 x1),int i64 (qb9 p2 x2),int i64 (qb9 p3 x3)])/\Below w.heap.size w w'):=(q4p p0 p1 p2 p3 x0 x1 x2 x3 _).mono λe w' ⟨X,Y⟩=>⟨X,qab U Y⟩;have c:=(L.out _ hb).box;have q0:=c.cell _ _ l;have q1:=c.cell _ _ m;have q2:=c.cell _ _ o;have q3:=c.cell _ _ p;obtain⟨r0,r1,r2,r3⟩:=E.c4;have q:Hid ((qck S lv bm)[9+k*4]?=some (int i64 p0)/\(qck S lv bm)[9+k*4+1]?=some (int i64 p1)/\(qck S lv bm)[9+k*4+2]?=some (int i64 p2)/\(qck S lv bm)[9+k*4+3]?=some (int i64 p3)):=⟨l,m,o,p⟩;have r:Hid _:=d;clear s H I u z B C D c E l m o p d;go_enter Tryz.func257,Tryz.ntmps257
 go_wp2_with fail
 refine P.mono ?_;rintro e w2 ⟨rfl,rfl⟩
 go_wp2_with fail
 go_region_law (first
  |(refine qav rfl 240 #[.agg #[int i64 p0,int i64 p1,int i64 p2,int i64 p3],.agg #[int i64 x0,int i64 x1,int i64 x2,int i64 x3]] (by go_simp) V.out ?_
    rintro e Z ⟨rfl,M⟩;refine⟨_,rfl,?_⟩;have a:=(L.out _ M).box;have s0:=a.cell _ _ q.out.1;have s1:=a.cell _ _ q.out.2.1;have s2:=a.cell _ _ q.out.2.2.1;have s3:=a.cell _ _ q.out.2.2.2;have f0:=a.free (9+k*4) (by have:=r.out;simp[qck];omega);have f1:=a.free (9+k*4+1) (by have:=r.out;simp[qck];omega);have f2:=a.free (9+k*4+2) (by have:=r.out;simp[qck];omega);have f3:=a.free (9+k*4+3) (by have:=r.out;simp[qck];omega)
    clear a))
 all_goals
  have aa:=J.out Z M _ rfl
  go_wp2_with fail
  go_ret;exact⟨rfl,aa⟩
end
section
open Go.Value Go.IntKind
theorem qlc (a:Nat) (t:TxP):∀(l:List TxP) (W:WoS),qch a (l++[t]) W=if t.site=(a:Int)then qch a l W else qdd (qch a l W) ⟨a,.tx t⟩
 |[],W=>rfl
 |x::l,W=>by
  show qch a (l++[t]) _=_;rw[qlc a t l];rfl
variable {b i:Nat} {W:WoS}
theorem PWo.stepSm {w w':World} {M:WoM} {a:Nat->Nat->Prop} (h:PWo w b M W a) (hi:i<W.n) {S':qaf} (d:PPo w (M.bp i) (a i) S' w'):∃c,PWo w' b M (setSite W i S') c/\(∀j k,c j k->a j k\/w.heap.size<=k)/\qae (a i) w w':=by
 obtain⟨c,f,g,kp,e⟩:=h.fam.stepG (ps':=qe0 M (setSite W i S')) (i:=i) (by omega) (p:=qi8 (M.bp i) S') d (by show (if i<W.n then _ else _)=_;rw[if_pos hi];show qi8 (M.bp i) (qcg W.S i S' i)=_;rw[qam]) (λj m l=>by
  show (if j<W.n then qi8 (M.bp j) (qcg W.S i S' j)else _)=(if j<W.n then _ else _);rw[qby _ _ l]
  rfl)
 exact⟨c,h.keep kp f rfl rfl rfl rfl rfl rfl,g,e⟩
theorem q3l {G:Nat->Prop} (v0 v1 v2 v3:Int) (w:World) (h:PW w b G W) (hw:WfW W) {o:Nat} (hi:i<W.n) (ho:o<W.n):
 Calls Tryz.prog 212 #[.pointer (some ⟨b,0,none⟩),int i64 i,int i64 o,.agg #[int i64 v0,int i64 v1,int i64 v2,int i64 v3]] w λe w'=>e=.returned (.tuple #[])/\qd8 w b G (qdy W i o v0 v1 v2 v3) w':=by
 obtain⟨M,P,h,hG⟩:=h;have hb1:=boxed (Below.refl _ w) (.cells #[int i64 v0,int i64 v1,int i64 v2,int i64 v3] 77);have RV:=qag.new (w:=w) (T:=77) [int i64 v0,int i64 v1,int i64 v2,int i64 v3] rfl;change qag (w.alloc (.cells #[int i64 v0,int i64 v1,int i64 v2,int i64 v3] 77)) w.heap.size [int i64 v0,int i64 v1,int i64 v2,int i64 v3]at RV;have H1:=h.later hb1;obtain⟨pb,pc,c0,hpc,hpb,y0,y1⟩:=H1.place hi;have hlt:=h.box.lt;have n4:=hw.n4;have KN:=q3r (n:=o) (by omega) (by omega) v0 v1 v2 v3 _ (H1.site hi);have d:Hid (PWo w b M W P/\(∀k,G k↔ql7 b M (W.n+W.c) P k)/\WfW W/\i<W.n):=⟨h,hG,hw,hi⟩
 have L:(i:Int)<(W.n:Int):=by omega
 obtain⟨z0,z1,z2,z3⟩:=RV.c4;rw[show ((o:Int)).toNat=o by omega]at KN;have HR:Hid (qag (w.alloc (.cells #[int i64 v0,int i64 v1,int i64 v2,int i64 v3] 77)) w.heap.size [int i64 v0,int i64 v1,int i64 v2,int i64 v3]/\Below w.heap.size w (w.alloc (.cells #[int i64 v0,int i64 v1,int i64 v2,int i64 v3] 77))/\PWo (w.alloc (.cells #[int i64 v0,int i64 v1,int i64 v2,int i64 v3] 77)) b M W P):=⟨RV,hb1,H1⟩;clear h hG hw H1 RV;go_enter Tryz.func212,Tryz.ntmps212
 go_wp2_with fail
 refine KN.mono ?_;rintro e w2 ⟨rfl,hp⟩;rw[show qbq 0=.nilIface from rfl];obtain⟨J,K2,hsub,tt2⟩:=HR.out.2.2.stepSm d.out.2.2.2 hp;have RV2:qag w2 w.heap.size [int i64 v0,int i64 v1,int i64 v2,int i64 v3]:=HR.out.1.kept (tt2.block _ HR.out.1.lt (λe=>by have:=d.out.1.ltG (by have:=d.out.2.2.2;omega) e;omega)) tt2.size;have MS:=qu0 v0 v1 v2 v3 w2 (K2.site (i:=i) d.out.2.2.2) (by show qcx (qcg W.S i (qbs (W.S i) o v0 v1 v2 v3) i);rw[qam];exact(d.out.2.2.1.inv i d.out.2.2.2).knows _);rw[show qhm ((setSite W i (qbs (W.S i) o v0 v1 v2 v3)).S i) v0 v1 v2 v3=qhm (W.S i) v0 v1 v2 v3 by show qhm (qcg W.S i (qbs (W.S i) o v0 v1 v2 v3) i) v0 v1 v2 v3=_;rw[qam];rfl]at MS;have H:Hid (PWo w2 b M (setSite W i (qbs (W.S i) o v0 v1 v2 v3)) J/\(∀j k,J j k->P j k\/w.heap.size<=k)/\qae (P i) (w.alloc (.cells #[int i64 v0,int i64 v1,int i64 v2,int i64 v3] 77)) w2):=⟨K2,λj k e=>(hsub j k e).elim .inl (λq=>.inr (by simp at q;omega)),tt2⟩;clear z0 z1 z2 z3 c0 y0 y1 KN hp K2 hsub tt2;obtain⟨z0,z1,z2,z3⟩:=RV2.c4
 go_wp2_with fail
 refine MS.mono ?_;rintro e p ⟨v,rfl,kept,Q,⟨B9,hB9,R⟩,k3,k4⟩;obtain⟨ma,mc,hv,hMx⟩:=qbl R;subst hv;have K3:=H.out.1.later k4
 have hkl:kept.length<=200:=by
  have e1:=congrArg List.length Q;have e2:(qhm (W.S i) v0 v1 v2 v3).length<=(W.S i).log.length:=List.length_filter_le _ _;have e3:=(d.out.2.2.1.inv i d.out.2.2.2).log;simp at e1;omega
 have hml:=hMx.len;have hmc:=hMx.cap
 have E:Hid (qew p ma mc kept/\kept.map (·.t)=qhm (W.S i) v0 v1 v2 v3/\(∀m∈kept,qaz p m.wa m.wc m.t.ws/\∀j,m.blk j->w2.heap.size<=j)/\(∀k U,ma=some ⟨k,U,none⟩->kept≠[]->w2.heap.size<=k)/\PWo p b M (setSite W i (qbs (W.S i) o v0 v1 v2 v3)) J/\Below w2.heap.size w2 p):=⟨hMx,Q,k3,λk U e I=>by
  rcases R.2 with ⟨q,V⟩|⟨g,cap,cur,q,hb9,_⟩
  ·exact absurd (List.eq_nil_of_length_eq_zero V) I
  ·injection q with L q2 q3;rw[e]at L;injection L with L;injection L with L
   omega,K3,k4⟩
 clear MS z0 z1 z2 z3 RV2 Q R k3 k4 K3 hMx
 go_wp2_with fail
 go_loopw [27] (λiv wr=>∃(k:Nat) (z:Int),k<=kept.length/\z=k/\iv=int i64 z/\Hid (qh2 p b M J (λq=>p.heap.size<=q) (qch o ((kept.map (·.t)).take k) (setSite W i (qbs (W.S i) o v0 v1 v2 v3))) wr)) (λiv _=>kept.length-(intOf iv).toNat)
 case atStart=>exact⟨0,0,by omega,rfl,rfl,qh2.none E.out.2.2.2.2.1 (Below.refl _ _) _⟩
 case round=>
  obtain⟨k,z,hk,hz,rfl,HS⟩:=hrel;have HZ:Hid _:=hz;by_cases X:k<kept.length
  ·have g1:z<(kept.length:Int):=by omega
   have g2:z.toNat=k:=by omega
   have g3:0<=z:=by omega
   have g4:z<200:=by omega
   clear hz
   obtain⟨C,D,haa,hcc⟩:∃b U,ma=some ⟨b,U,none⟩/\∀i m r u,kept[i]?=some m->(txC m)[r]?=some u->p.cell? ⟨b,U+(i*9+r),none⟩=some u:=by
        rcases E.out.1.held with V|V
        ·rw[V]at X;simp at X
        ·exact V
   have hne:kept≠[]:=λe=>by rw[e]at X;simp at X
   have hab:=E.out.2.2.2.1 C D haa hne;subst haa;have ltb:∀q,qiu b M q->q<w2.heap.size:=λq e=>H.out.1.ltF q e;have kp:∀q,w2.heap.size<=q->q<p.heap.size->wr.heap[q]?=p.heap[q]?:=λq N hq3=>HS.out.block hq3 (λe=>by have:=ltb b (.inl rfl);omega) (λe=>by have:=ltb q (.inr (.inr (.inr (.inl e))));omega);obtain⟨⟨⟨site,seq,wall,count,d0,d1,d2,d3,a⟩,y,B⟩,Y⟩:∃m,kept[k]?=some m:=⟨_,List.getElem?_eq_getElem X⟩;have hab3:C<p.heap.size:=World.block_lt_of_cell? _ _ (hcc k _ 0 _ Y rfl)
   have F:∀r u,(txC ⟨⟨site,seq,wall,count,d0,d1,d2,d3,a⟩,y,B⟩)[r]?=some u->wr.cell? ⟨C,D+(k*9+r),none⟩=some u:=λr u hu=>by rw[World.cell?_of_block (w:=p) (kp C hab hab3)];exact hcc k _ r u Y hu
   have x0:wr.cell? ⟨C,D+k*9,none⟩=some (int i64 site):=F 0 _ rfl;have x1:wr.cell? ⟨C,D+k*9+1,none⟩=some (int i64 seq):=F 1 _ rfl;have x2:wr.cell? ⟨C,D+k*9+2,none⟩=some (int i64 wall):=F 2 _ rfl;have x3:wr.cell? ⟨C,D+k*9+3,none⟩=some (int i64 count):=F 3 _ rfl;have x4:wr.cell? ⟨C,D+k*9+4,none⟩=some (int i64 d0):=F 4 _ rfl;have x5:wr.cell? ⟨C,D+k*9+5,none⟩=some (int i64 d1):=F 5 _ rfl;have x6:wr.cell? ⟨C,D+k*9+6,none⟩=some (int i64 d2):=F 6 _ rfl;have x7:wr.cell? ⟨C,D+k*9+7,none⟩=some (int i64 d3):=F 7 _ rfl;have x8:wr.cell? ⟨C,D+k*9+8,none⟩=some (.slice y a.length B):=F 8 _ rfl;have Z:=List.mem_of_getElem? Y;have hWr:Hid _:=qaz.kept (m:=⟨⟨site,seq,wall,count,d0,d1,d2,d3,a⟩,y,B⟩) (E.out.2.2.1 _ Z).1 (λq e=>kp q ((E.out.2.2.1 _ Z).2 q e) ((E.out.2.2.1 _ Z).1.blk_lt q e))
   have hok:Hid (qdf site seq wall count d0 d1 d2 d3 a=true):=d.out.2.2.1.lok i d.out.2.2.2 ⟨site,seq,wall,count,d0,d1,d2,d3,a⟩ (by
        have:(⟨site,seq,wall,count,d0,d1,d2,d3,a⟩:TxP)∈qhm (W.S i) v0 v1 v2 v3:=by rw[<-E.out.2.1];exact List.mem_map.2 ⟨_,Z,rfl⟩
        exact(List.mem_filter.1 this).1)
   have HT:Hid (qch o ((kept.map (·.t)).take (k+1)) (setSite W i (qbs (W.S i) o v0 v1 v2 v3))=if site=(o:Int)then qch o ((kept.map (·.t)).take k) (setSite W i (qbs (W.S i) o v0 v1 v2 v3))else qdd (qch o ((kept.map (·.t)).take k) (setSite W i (qbs (W.S i) o v0 v1 v2 v3))) ⟨o,.tx ⟨site,seq,wall,count,d0,d1,d2,d3,a⟩⟩):=by
        show _=_;rw[List.take_add_one,List.getElem?_map,Y];exact qlc o ⟨site,seq,wall,count,d0,d1,d2,d3,a⟩ _ _
   have bx:=boxed (Below.refl _ wr) (.cells #[int i64 site,int i64 seq,int i64 wall,int i64 count,int i64 d0,int i64 d1,int i64 d2,int i64 d3,.slice y a.length B] 102);have RX:=qag.new (w:=wr) (T:=102) [int i64 site,int i64 seq,int i64 wall,int i64 count,int i64 d0,int i64 d1,int i64 d2,int i64 d3,.slice y a.length B] rfl;change qag (wr.alloc (.cells #[int i64 site,int i64 seq,int i64 wall,int i64 count,int i64 d0,int i64 d1,int i64 d2,int i64 d3,.slice y a.length B] 102)) wr.heap.size [int i64 site,int i64 seq,int i64 wall,int i64 count,int i64 d0,int i64 d1,int i64 d2,int i64 d3,.slice y a.length B]at RX;obtain⟨t0,t1,t2,t3,t4,t5,t6,t7,t8⟩:=RX.c9;clear hcc F kp ltb Y Z hab hab3 hne;by_cases hs:site=(o:Int)
   ·have HT2:Hid _:=HT.out.trans (if_pos hs)
    go_wp2_with fail
    go_roundw
    case rel=>exact⟨k+1,z+1,by omega,by have:=HZ.out;omega,by go_num,by show qh2 _ _ _ _ _ _ _;rw[HT2.out];exact HS.out.next (λnv l hP=>qh2.none hP (boxed (Below.refl _ wr) _) _)⟩
    case measure=>simp[intOf];have:=HZ.out;omega
   ·have HT2:Hid _:=HT.out.trans (if_neg hs);have S2:Hid _:=HS.out.next (λnv l hP=>qh2.none hP bx _);obtain⟨nv',l',h1,h2,h3,K⟩:=S2.out;have SX:Hid (Calls Tryz.prog 208 #[.pointer (some ⟨b,0,none⟩),int i64 o,.agg #[int i64 site,int i64 seq,int i64 wall,int i64 count,int i64 d0,int i64 d1,int i64 d2,int i64 d3,.slice y a.length B]] (wr.alloc (.cells #[int i64 site,int i64 seq,int i64 wall,int i64 count,int i64 d0,int i64 d1,int i64 d2,int i64 d3,.slice y a.length B] 102)) λe w'=>e=.returned (.tuple #[])/\qh2 (wr.alloc (.cells #[int i64 site,int i64 seq,int i64 wall,int i64 count,int i64 d0,int i64 d1,int i64 d2,int i64 d3,.slice y a.length B] 102)) b {M with nv:=nv',l:=l'} J (λk=>(wr.alloc (.cells #[int i64 site,int i64 seq,int i64 wall,int i64 count,int i64 d0,int i64 d1,int i64 d2,int i64 d3,.slice y a.length B] 102)).heap.size<=k) (qdd (qch o ((kept.map (·.t)).take k) (setSite W i (qbs (W.S i) o v0 v1 v2 v3))) ⟨o,.tx ⟨site,seq,wall,count,d0,d1,d2,d3,a⟩⟩) w'):=qqj o site seq wall count d0 d1 d2 d3 a y B _ h1 (hWr.out.later bx) hok.out;have HP:Hid (PWo (wr.alloc (.cells #[int i64 site,int i64 seq,int i64 wall,int i64 count,int i64 d0,int i64 d1,int i64 d2,int i64 d3,.slice y a.length B] 102)) b {M with nv:=nv',l:=l'} (qch o ((kept.map (·.t)).take k) (setSite W i (qbs (W.S i) o v0 v1 v2 v3))) J/\(∀k,nv'.ownBlock=some k->M.nv.ownBlock=some k\/p.heap.size<=k)/\(∀x∈l',x∈M.l\/p.heap.size<=x.blk)/\qae (λk=>k=b\/M.nv.ownBlock=some k) p (wr.alloc (.cells #[int i64 site,int i64 seq,int i64 wall,int i64 count,int i64 d0,int i64 d1,int i64 d2,int i64 d3,.slice y a.length B] 102))):=⟨h1,h2,h3,K⟩;clear h1 h2 h3 K
    go_wp2_with fail
    refine SX.out.mono ?_;rintro e w5 ⟨rfl,hS⟩
    have SN:Hid (qh2 p b M J (λq=>p.heap.size<=q) (qdd (qch o ((kept.map (·.t)).take k) (setSite W i (qbs (W.S i) o v0 v1 v2 v3))) ⟨o,.tx ⟨site,seq,wall,count,d0,d1,d2,d3,a⟩⟩) w5):=by
     obtain⟨h1,h2,h3,K⟩:=HP.out;obtain⟨nv2,l2,g1',g2',g3',gt⟩:=hS;have s:=K.size;refine⟨nv2,l2,g1',λq e=>?_,λx hx=>?_,?_⟩
     ·rcases g2' q e with r|r
      ·exact h2 q r
      ·exact .inr (by omega)
     ·rcases g3' x hx with r|r
      ·exact h3 x r
      ·exact .inr (by omega)
     ·refine⟨gt.os.trans K.os,gt.tape.trans K.tape,gt.output.trans K.output,Nat.le_trans s gt.size,λq N I=>?_⟩;refine(gt.block q (by omega) (λe=>?_)).trans (K.block q N I);rcases e with e|e
      ·exact I (.inl e)
      ·rcases h2 q e with r|r
       ·exact I (.inr r)
       ·omega
    clear SX HP S2 x0 x1 x2 x3 x4 x5 x6 x7 x8 t0 t1 t2 t3 t4 t5 t6 t7 t8 RX
    go_wp2_with fail
    go_roundw
    case rel=>exact⟨k+1,z+1,by omega,by have:=HZ.out;omega,by go_num,by show qh2 _ _ _ _ _ _ _;rw[HT2.out];exact SN.out⟩
    case measure=>simp[intOf];have:=HZ.out;omega
  ·have g1:¬z<(kept.length:Int):=by omega
   have e:k=kept.length:=by omega
   go_wp2_with fail
   go_end0;have S9:=HS.out;rw[e,show ((kept.map (·.t)).take kept.length)=qhm (W.S i) v0 v1 v2 v3 by rw[<-E.out.2.1];exact List.take_of_length_le (by simp)]at S9;have sm:=qfd o (qhm (W.S i) v0 v1 v2 v3) (setSite W i (qbs (W.S i) o v0 v1 v2 v3));have P1:qd8 w2 b (ql7 b M (W.n+W.c) J) (qdy W i o v0 v1 v2 v3) wr:=(S9.from E.out.2.2.2.2.2).post (W:=W) (λ_=>Iff.rfl) sm.n sm.c (λk hk=>.inr (Nat.le_trans E.out.2.2.2.2.2.size hk));obtain⟨G5,Q,R,kt⟩:=P1;have s1:=H.out.2.2.size
   have s0:(w.alloc (.cells #[int i64 v0,int i64 v1,int i64 v2,int i64 v3] 77)).heap.size=w.heap.size+1:=by simp
   refine⟨rfl,G5,Q,λq N=>?_,?_⟩
   ·rcases R q N with (r|⟨j,hj,r⟩)|r
    ·exact .inl ((d.out.2.1 q).2 (.inl r))
    ·rcases H.out.2.1 j q r with O|O
     ·exact .inl ((d.out.2.1 q).2 (.inr ⟨j,hj,O⟩))
     ·exact .inr O
    ·exact .inr (by omega)
   ·refine⟨kt.os.trans H.out.2.2.os,kt.tape.trans H.out.2.2.tape,kt.output.trans H.out.2.2.output,by have:=kt.size;omega,λq N I=>?_⟩;refine(kt.block q (by omega) (λr=>?_)).trans ((H.out.2.2.block q (by omega) (λr=>I ((d.out.2.1 q).2 (.inr ⟨i,by have:=d.out.2.2.2;omega,r⟩)))).trans (HR.out.2.1.block q N));rcases r with r|⟨j,hj,r⟩
    ·exact I ((d.out.2.1 q).2 (.inl r))
    ·rcases H.out.2.1 j q r with O|O
     ·exact I ((d.out.2.1 q).2 (.inr ⟨j,hj,O⟩))
     ·omega
end
section
open Go.Value Go.IntKind
def jbx (w:World) (b:Nat) (G:Nat->Prop) (W:WoS) (g:GrS) (e:Ending) (w':World):Prop:=e=.returned (.tuple #[])/\∃W',Hid (qhb W g W')/\qd8 w b G W' w'
variable {b:Nat} {G:Nat->Prop} {W:WoS}
theorem jas (site seq wall count d0 d1 d2 d3:Int) (ws:List Wr) (to g cap:Nat) (S:ByteArray) (w:World) (h:PW w b G W) (u:WfW W) (j:Own w 0 g cap S) (hs:S.size<=1000000) (x:qv3 (toL S) ⟨site,seq,wall,count,d0,d1,d2,d3,ws⟩) (F:to<W.n):
 Calls Tryz.prog 154 #[.pointer (some ⟨b,0,none⟩),.agg #[int i64 to,.slice (some ⟨g,0,none⟩) S.size cap]] w (jbx w b G W ⟨to,.tx ⟨site,seq,wall,count,d0,d1,d2,d3,ws⟩⟩):=by
 obtain⟨M,l,h,y⟩:=h;have z:=boxed (Below.refl _ w) (.cells #[int i64 to,.slice (some ⟨g,0,none⟩) S.size cap] 205);have d:=qag.new (w:=w) (T:=205) [int i64 to,.slice (some ⟨g,0,none⟩) S.size cap] rfl;change qag (w.alloc (.cells #[int i64 to,.slice (some ⟨g,0,none⟩) S.size cap] 205)) w.heap.size [int i64 to,.slice (some ⟨g,0,none⟩) S.size cap]at d;have B:=q0x x (some ⟨g,0,none⟩) S.size cap (qbg S) _ (j.later z).all j.room hs;have a:Hid (PWo w b M W l/\(∀k,G k↔ql7 b M (W.n+W.c) l k)/\WfW W/\to<W.n/\qag (w.alloc (.cells #[int i64 to,.slice (some ⟨g,0,none⟩) S.size cap] 205)) w.heap.size [int i64 to,.slice (some ⟨g,0,none⟩) S.size cap]):=⟨h,y,u,F,d⟩;have H:=d.cell 1 _ rfl;clear h y u d j x;go_enter Tryz.func154,Tryz.ntmps154
 go_wp2_with fail
 refine B.mono ?_;rintro e w2 ⟨a2,c2,rfl,C,D⟩;simp only at C ⊢;have m:=boxed (Below.refl _ w2) (.cells #[int i64 site,int i64 seq,int i64 wall,int i64 count,int i64 d0,int i64 d1,int i64 d2,int i64 d3,.slice a2 ws.length c2] 102);have E:=(qab (qab z D) m);have o:=E.drew;have p:=a.out.1.later E;obtain⟨K,L,c0,N,O,P,Q⟩:=p.place a.out.2.2.2.1;have i:=qag.new (w:=w2) (T:=102) [int i64 site,int i64 seq,int i64 wall,int i64 count,int i64 d0,int i64 d1,int i64 d2,int i64 d3,.slice a2 ws.length c2] rfl;change qag (w2.alloc (.cells #[int i64 site,int i64 seq,int i64 wall,int i64 count,int i64 d0,int i64 d1,int i64 d2,int i64 d3,.slice a2 ws.length c2] 102)) w2.heap.size [int i64 site,int i64 seq,int i64 wall,int i64 count,int i64 d0,int i64 d1,int i64 d2,int i64 d3,.slice a2 ws.length c2]at i;have q:=(a.out.2.2.2.2.later D).later m
 have I:Hid (Calls Tryz.prog 210 #[.pointer (some ⟨M.bp to,0,none⟩),.agg #[int i64 site,int i64 seq,int i64 wall,int i64 count,int i64 d0,int i64 d1,int i64 d2,int i64 d3,.slice a2 ws.length c2]] (w2.alloc (.cells #[int i64 site,int i64 seq,int i64 wall,int i64 count,int i64 d0,int i64 d1,int i64 d2,int i64 d3,.slice a2 ws.length c2] 102)).drew λe w'=>∃v,e=.returned v/\∃S',qb8 (W.S to) ⟨site,seq,wall,count,d0,d1,d2,d3,ws⟩ S'/\PPo (w2.alloc (.cells #[int i64 site,int i64 seq,int i64 wall,int i64 count,int i64 d0,int i64 d1,int i64 d2,int i64 d3,.slice a2 ws.length c2] 102)).drew (M.bp to) (l to) S' w'):=
  (q35 ⟨⟨site,seq,wall,count,d0,d1,d2,d3,ws⟩,a2,c2⟩ _ ((a.out.1.later o).site a.out.2.2.2.1) (a.out.2.2.1.inv to a.out.2.2.2.1) (Nat.le_trans (a.out.2.2.1.wt to a.out.2.2.2.1) (by omega)) (C.later m.drew)).mono λe w' ⟨J,S',r,s⟩=>⟨_,J,S',r,s⟩
 have R:(to:Int)<(W.n:Int):=by have:=a.out.2.2.2.1;omega
 have U:=p.box.lt;have V:=q.cell 0 _ rfl;obtain⟨t0,X,t2,t3,t4,t5,Y,Z,t8⟩:=i.c9;have l1:=q.lt;have l2:=i.lt;clear B p i q H
 go_wp2_with fail
 go_region_law (refine qav rfl 210 #[.pointer (some ⟨M.bp to,0,none⟩),.agg #[int i64 site,int i64 seq,int i64 wall,int i64 count,int i64 d0,int i64 d1,int i64 d2,int i64 d3,.slice a2 ws.length c2]] (by go_simp) I.out ?_
                rintro e w4 ⟨v4,rfl,S',r,s⟩
                refine⟨_,rfl,?_⟩)
 all_goals
  go_wp2_with fail
  refine bodyPost_ret (v:=.tuple #[]) (results_none rfl _ _ _) rfl ?_;exact⟨rfl,_,⟨S',r,rfl⟩,qd8.from o ((a.out.1.later o).stepS a.out.2.1 a.out.2.2.2.1 s)⟩
theorem q63 (site v0 v1 v2 v3:Int) (to g cap:Nat) (S:ByteArray) (w:World) (h:PW w b G W) (H:WfW W) (l:Own w 0 g cap S) (hs:S.size<=1000000) (C:qeb (toL S) ⟨site,v0,v1,v2,v3⟩) (U:to<W.n):
 Calls Tryz.prog 154 #[.pointer (some ⟨b,0,none⟩),.agg #[int i64 to,.slice (some ⟨g,0,none⟩) S.size cap]] w (jbx w b G W ⟨to,.ask site v0 v1 v2 v3⟩):=by
 obtain⟨M,m,h,I⟩:=h;have J:=boxed (Below.refl _ w) (.cells #[int i64 to,.slice (some ⟨g,0,none⟩) S.size cap] 205);have p:=qag.new (w:=w) (T:=205) [int i64 to,.slice (some ⟨g,0,none⟩) S.size cap] rfl;change qag (w.alloc (.cells #[int i64 to,.slice (some ⟨g,0,none⟩) S.size cap] 205)) w.heap.size [int i64 to,.slice (some ⟨g,0,none⟩) S.size cap]at p;have K:=q5b (λx V=>q0j V C) (some ⟨g,0,none⟩) S.size cap (qbg S) _ (l.later J).all l.room hs;have a:Hid (PWo w b M W m/\(∀k,G k↔ql7 b M (W.n+W.c) m k)/\WfW W/\to<W.n/\qag (w.alloc (.cells #[int i64 to,.slice (some ⟨g,0,none⟩) S.size cap] 205)) w.heap.size [int i64 to,.slice (some ⟨g,0,none⟩) S.size cap]/\Own w 0 g cap S/\S.size<=1000000/\qeb (toL S) ⟨site,v0,v1,v2,v3⟩):=⟨h,I,H,U,p,l,hs,C⟩;have X:=p.cell 1 _ rfl;clear h I H p l C hs;go_enter Tryz.func154,Tryz.ntmps154
 go_wp2_with fail
 refine K.mono ?_;rintro e w2 ⟨rfl,L⟩;have N:=boxed (Below.refl _ w2) (.cells #[int i64 0,int i64 0,int i64 0,int i64 0,int i64 0,int i64 0,int i64 0,int i64 0,.slice none 0 0] 102);have O:=(qab (qab J L) N);have r:=(a.out.2.2.2.2.1.later L).later N;have D:=qvc a.out.2.2.2.2.2.2.2 (some ⟨g,0,none⟩) S.size cap (qbg S) _ (a.out.2.2.2.2.2.1.later O).all a.out.2.2.2.2.2.1.room a.out.2.2.2.2.2.2.1;have e1:=r.cell 1 _ rfl;have l1:=r.lt;have P:Hid (qag (w2.alloc (.cells #[int i64 0,int i64 0,int i64 0,int i64 0,int i64 0,int i64 0,int i64 0,int i64 0,.slice none 0 0] 102)) w.heap.size [int i64 to,.slice (some ⟨g,0,none⟩) S.size cap]/\Below w.heap.size w (w2.alloc (.cells #[int i64 0,int i64 0,int i64 0,int i64 0,int i64 0,int i64 0,int i64 0,int i64 0,.slice none 0 0] 102))):=⟨r,O⟩;clear K X r
 go_wp2_with fail
 refine D.mono ?_;rintro e d ⟨rfl,Q⟩;simp only;have R:=boxed (Below.refl _ d) (.cells #[int i64 v0,int i64 v1,int i64 v2,int i64 v3] 77);have s:=qab (qab P.out.2 Q) R;have u:=(P.out.1.later Q).later R;have y:=qag.new (w:=d) (T:=77) [int i64 v0,int i64 v1,int i64 v2,int i64 v3] rfl;change qag (d.alloc (.cells #[int i64 v0,int i64 v1,int i64 v2,int i64 v3] 77)) d.heap.size [int i64 v0,int i64 v1,int i64 v2,int i64 v3]at y;have z:=a.out.1.later s;obtain⟨pb,pc,c0,hpc,hpb,y0,y1⟩:=z.place a.out.2.2.2.1;have hlt:=z.box.lt;by_cases B:0<=site/\site<(W.n:Int)
 ·obtain⟨o,Y⟩:∃o:Nat,(o:Int)=site:=⟨site.toNat,by omega⟩;subst Y
  have Z:o<W.n:=by omega
  have i:=qbh (k:=o) (v:=true) _ c0 (by simp;omega);have AN:=q3l v0 v1 v2 v3 _ (PW.later (w':=d.alloc (.cells #[int i64 v0,int i64 v1,int i64 v2,int i64 v3] 77)) ⟨M,m,a.out.1,a.out.2.1⟩ s) a.out.2.2.1 a.out.2.2.2.1 Z;have s0:=u.cell 0 _ rfl;obtain⟨t0,t1,t2,t3⟩:=y.c4
  have E:Hid (∀W',W'=qdy W to o v0 v1 v2 v3->qhb W ⟨to,.ask o v0 v1 v2 v3⟩ W'):=λW' e=>by
   show (if 0<=(o:Int)/\(o:Int)<(W.n:Int)then W'=qdy W to (o:Int).toNat v0 v1 v2 v3 else W'=W);rw[if_pos B,show ((o:Int)).toNat=o by omega];exact e
  clear D z y u B
  go_wp2_with fail
  refine i.mono ?_;rintro e w6 ⟨rfl,j⟩;have F:=j.symm;clear j i;subst F
  go_wp2_with fail
  refine AN.mono ?_;rintro e w7 ⟨rfl,hp⟩
  go_wp2_with fail
  go_end0;exact⟨rfl,_,E.out _ rfl,qd8.from s hp⟩
 ·have i:=qbh (k:=site) (v:=false) _ c0 (by
   have:¬(0<=site)\/¬(site<(W.n:Int)):=by omega
   rcases this with q|q<;>simp[q])
  have E:Hid (qhb W ⟨to,.ask site v0 v1 v2 v3⟩ W):=by
   show (if 0<=site/\site<(W.n:Int)then W=qdy W to site.toNat v0 v1 v2 v3 else W=W);rw[if_neg B]
  have s0:=u.cell 0 _ rfl;clear D z y u B
  go_wp2_with fail
  refine i.mono ?_;rintro e w6 ⟨rfl,j⟩;have F:=j.symm;clear j i;subst F
  go_wp2_with fail
  go_end0;exact⟨rfl,W,E,qd8.same ⟨M,m,a.out.1,a.out.2.1⟩ s⟩
theorem jat (m:GrM) (w:World) (h:PW w b G W) (c:WfW W) (a:m.Ok w) (d:m.g.to<W.n):
 Calls Tryz.prog 154 #[.pointer (some ⟨b,0,none⟩),.agg #[int i64 m.g.to,.slice (some ⟨m.blk,0,none⟩) m.S.size m.cap]] w (jbx w b G W m.g):=by
 obtain⟨⟨to,body⟩,g,cap,S⟩:=m;cases body with
 |tx t=>exact jas t.site t.seq t.wall t.count t.d0 t.d1 t.d2 t.d3 t.ws to g cap S w h c a.own a.size a.is d
 |ask site v0 v1 v2 v3=>exact q63 site v0 v1 v2 v3 to g cap S w h c a.own a.size a.is d
end
section
section
variable {w w1 w2:World} {b g cap i:Nat} {M:WoM} {W:WoS} {Gs:Nat->Nat->Prop}
theorem PWo.dropped (h:PWo w b M W Gs) (hb:Below w.heap.size w w1) (y:M.nv=.slice (some ⟨g,0,none⟩) M.l.length cap) (hi:i<M.l.length)
 (own:w2.ownsRow 0 205 2 (.slice (some ⟨g,0,none⟩) (M.l.length-1) cap) (M.l.length-1) (qgu (M.l.eraseIdx i))) (n:qdw g w1 w2):
 PWo (w2.setCell ⟨b,2,none⟩ (.slice (some ⟨g,0,none⟩) (M.l.length-1) cap)) b {M with nv:=.slice (some ⟨g,0,none⟩) (M.l.length-1) cap,l:=M.l.eraseIdx i} (qdh W i) Gs/\qae (λk=>k=b\/M.nv.ownBlock=some k) w (w2.setCell ⟨b,2,none⟩ (.slice (some ⟨g,0,none⟩) (M.l.length-1) cap)):=by
 have s1:=hb.size;have s2:=n.size
 have gn:M.nv.ownBlock=some g:=by rw[y];rfl
 have c:(Value.slice (some ⟨g,0,none⟩) (M.l.length-1) cap).ownBlock=some g:=rfl;have p:g≠b:=λq=>h.sb.2.2 (by rw[gn,q]);have C:=h.box.lt;have z:∀k,k<w.heap.size->k≠g->w2.heap[k]?=w.heap[k]?:=λk a r=>(n.block k (by omega) (λe=>by injection e with e;exact r e)).trans (hb.block k a)
 have u:(w2.setCell ⟨b,2,none⟩ (.slice (some ⟨g,0,none⟩) (M.l.length-1) cap)).heap.size=w2.heap.size:=by simp[World.setCell]
 have o:∀k,k<w.heap.size->k≠g->k≠b->(w2.setCell ⟨b,2,none⟩ (.slice (some ⟨g,0,none⟩) (M.l.length-1) cap)).heap[k]?=w.heap[k]?:=λk a r A=>(Below.heap_setCell _ _ _ _ (λe=>A e)).trans (z k a r);have ne:∀k,M.nv.ownBlock≠some k->k≠g:=λk a e=>a (by rw[gn,e]);refine⟨⟨?_,?_,?_,?_,?_,λx d=>?_,?_,⟨h.sb.1,h.sb.2.1,λe=>p (by rw[c]at e;injection e)⟩,λk=>⟨λe=>⟨((h.sr k).1 e).1,λm=>((h.sr k).1 e).2 (by rw[gn];rw[c]at m;exact m)⟩,λe m=>(h.sr k).2 e (by rw[gn];rw[c]at m;exact m)⟩,λx d=>?_⟩,?_⟩
 ·have B:qag w2 b _:=(h.box.later hb).kept (n.block b (by omega) (λe=>by injection e with e;exact p e.symm)) s2;exact B.set 2 _ (by simp)
 ·exact qad h.pr (λk e=>o k (h.pr.lt k e).2 (ne k ((h.sr k).1 e).2) (λq=>h.sb.1 (by rw[e,q])))
 ·exact qad h.cr (λk e=>o k (h.cr.lt k e).2 (ne k ((h.sr k).2 e)) (λq=>h.sb.2.1 (by rw[e,q])))
 ·show World.ownsRow _ 0 _ 2 _ (M.l.eraseIdx i).length (qgu (M.l.eraseIdx i));rw[List.length_eraseIdx,if_pos hi];exact qad own (λk e=>Below.heap_setCell _ _ _ _ (λq=>p (by rw[c]at e;injection e with e;exact e.trans q)))
 ·show (M.l.eraseIdx i).map (·.g)=W.net.eraseIdx i;rw[<-h.nl,List.eraseIdx_eq_take_drop_succ,List.eraseIdx_eq_take_drop_succ];simp
 ·have q:=List.mem_of_mem_eraseIdx d;have s:=h.sg x q;exact(h.gr x q).kept (o _ (h.gr x q).own.lt (ne _ s.2.2.2) s.1) (by rw[u];omega)
 ·have f:=h.fam.to (X':=qiu b M) (w':=w2.setCell ⟨b,2,none⟩ (.slice (some ⟨g,0,none⟩) (M.l.length-1) cap)) (λj k v e=>o k (h.ltG v e) (λq=>(h.fam.free k (.inr (.inr (.inr (.inl (by rw[gn,q])))))).2 j v e) (λq=>(h.fam.free k (.inl q)).2 j v e)) (by rw[u];omega) (λk a=>⟨.inl a,by rw[u];have:=h.ltF k a;omega⟩);refine⟨f.is,f.apart,λk a=>?_,f.half⟩;rcases a with e|e|e|e|⟨x,d,e⟩
  ·exact f.free k (.inl e)
  ·exact f.free k (.inr (.inl e))
  ·exact f.free k (.inr (.inr (.inl e)))
  ·exact f.free k (.inr (.inr (.inr (.inl (by rw[gn];rw[c]at e;exact e)))))
  ·exact f.free k (.inr (.inr (.inr (.inr ⟨x,List.mem_of_mem_eraseIdx d,e⟩))))
 ·have s:=h.sg x (List.mem_of_mem_eraseIdx d);exact⟨s.1,s.2.1,s.2.2.1,λe=>s.2.2.2 (by rw[gn];rw[c]at e;exact e)⟩
 ·refine((qae.ofBelow hb).trans (qae.grown n (λk e=>.inr (by rw[gn];exact e)))).trans (qae.setCell _ _ _ (.inl rfl))
theorem PWo.under (h:PWo w b M W Gs) {gr:GrS} (hi:W.net[i]?=some gr):∃m nb a,M.l[i]?=some m/\m.g=gr/\M.nv=.slice (some ⟨nb,0,none⟩) M.l.length a/\M.l.length=W.net.length/\w.cell? ⟨b,2,none⟩=some (.slice (some ⟨nb,0,none⟩) M.l.length a)/\M.l.length<=a/\nb<w.heap.size/\w.cell? ⟨nb,i*2,none⟩=some (.int .i64 m.g.to)/\w.cell? ⟨nb,i*2+1,none⟩=some (.slice (some ⟨m.blk,0,none⟩) m.S.size m.cap):=by
 have f:M.l.length=W.net.length:=by rw[<-h.nl];simp
 have j:i<M.l.length:=by have:=(List.getElem?_eq_some_iff.1 hi).1;omega
 obtain⟨m,c⟩:∃m,M.l[i]?=some m:=⟨_,List.getElem?_eq_getElem j⟩
 have k:m.g=gr:=by
  have:=hi;rw[<-h.nl,List.getElem?_map,c]at this;exact Option.some.inj this
 obtain⟨o,a,d,r⟩:=qai h.nr;rcases r.held with p|⟨nb,rfl,n,e⟩
 ·omega
 ·have c2:=h.box.cell 2 _ rfl;rw[d]at c2;exact⟨m,nb,a,c,k,d,f,c2,r.len,n,e _ _ (qyt c).1,e _ _ (qyt c).2⟩
end
theorem jce {b:Nat} {G:Nat->Prop} {W:WoS} (w:World) (h:PW w b G W) (p:W.net.length<=300) {i:Nat} {g:GrS} (hi:W.net[i]?=some g):
 Calls Tryz.prog 109 #[.pointer (some ⟨b,0,none⟩),.int .i64 i] w λe w'=>e=.returned (qbq 0)/\qd8 w b G (qdh W i) w':=by
 obtain⟨M,Gs,h,z⟩:=h;obtain⟨m,nb,j,B,J,r,K,c2,P,Q,x0,x1⟩:=h.under hi;have s:i<M.l.length:=(List.getElem?_eq_some_iff.1 B).1;have C:=qgc (k:=i) (v:=true) w c2 (by simp;omega);have D:=q5i w (by have:=h.nr;rw[r]at this;exact this) s (by omega);have a:Hid (PWo w b M W Gs/\(∀k,G k↔ql7 b M (W.n+W.c) Gs k)/\M.nv=.slice (some ⟨nb,0,none⟩) M.l.length j/\i<M.l.length):=⟨h,z,r,s⟩
 have R:(i:Int)<(M.l.length:Int):=by omega
 have S:(i:Int)<300:=by omega
 have L:=h.box.lt;clear h z r B J hi p K s;go_enter Tryz.func109,Tryz.ntmps109
 go_wp2_with fail
 refine C.mono ?_;rintro e w2 ⟨rfl,E⟩;have N:=E.symm;clear E C;subst N
 go_wp2_with fail
 refine D.mono ?_;rintro e t ⟨rfl,F,o⟩;obtain⟨H,I⟩:=a.out.1.dropped (Below.refl _ w) a.out.2.2.1 a.out.2.2.2 F o;have d:Hid (PWo (t.setCell ⟨b,2,none⟩ (.slice (some ⟨nb,0,none⟩) (M.l.length-1) j)) b {M with nv:=.slice (some ⟨nb,0,none⟩) (M.l.length-1) j,l:=M.l.eraseIdx i} (qdh W i) Gs/\qae (λk=>k=b\/M.nv.ownBlock=some k) w (t.setCell ⟨b,2,none⟩ (.slice (some ⟨nb,0,none⟩) (M.l.length-1) j))):=⟨H,I⟩;have u:qag t b _:=a.out.1.box.kept (o.block b L (λe=>by injection e with e;exact a.out.1.sb.2.2 (by rw[a.out.2.2.1,e];rfl))) o.size;have T:=u.cell 2 _ rfl;have f2:=u.free 2 (by simp);clear D F o H I u
 go_wp2_with fail
 go_ret;refine⟨rfl,_,⟨_,Gs,d.out.1,λ_=>Iff.rfl⟩,λk y=>.inl ((a.out.2.1 k).2 ?_),?_⟩
 ·rcases y with (q|q|q|q|⟨x,O,q⟩)|q
  ·exact .inl (.inl q)
  ·exact .inl (.inr (.inl q))
  ·exact .inl (.inr (.inr (.inl q)))
  ·exact .inl (.inr (.inr (.inr (.inl (by rw[a.out.2.2.1];exact q)))))
  ·exact .inl (.inr (.inr (.inr (.inr ⟨x,List.mem_of_mem_eraseIdx O,q⟩))))
  ·exact .inr q
 ·exact⟨d.out.2.os,d.out.2.tape,d.out.2.output,d.out.2.size,λk y p=>d.out.2.block k y (λe=>p ((a.out.2.1 k).2 (.inl (e.elim .inl (λq=>.inr (.inr (.inr (.inl q))))))))⟩
end
section
variable {b:Nat} {G:Nat->Prop} {W:WoS}
theorem qqu (w:World) (h:PW w b G W) (C:WfW W) {i:Nat} {g:GrS} (hi:W.net[i]?=some g):
 Calls Tryz.prog 104 #[.pointer (some ⟨b,0,none⟩),.int .i64 i] w λe w'=>e=.returned (qbq 0)/\∃W',Hid (qcj W i W')/\qd8 w b G W' w':=by
 obtain⟨M,s,h,N⟩:=h;obtain⟨m,nb,u,D,aa,E,ab,c2,hnc,ac,x0,x1⟩:=h.under hi;subst aa;have y:=C.net;have F:i<M.l.length:=(List.getElem?_eq_some_iff.1 D).1;have O:=List.mem_of_getElem? D;have P:=qgc (k:=i) (v:=true) w c2 (by simp;omega);have H:=boxed (Below.refl _ w) (.cells #[.int .i64 m.g.to,.slice (some ⟨m.blk,0,none⟩) m.S.size m.cap] 205);have Q:=q5i (w.alloc (.cells #[.int .i64 m.g.to,.slice (some ⟨m.blk,0,none⟩) m.S.size m.cap] 205)) (by have:=qad h.nr (λk e=>H.block k (h.nr.lt k e).2);rw[E]at this;exact this) F (by omega);have I:=qag.new (w:=w) (T:=205) [.int .i64 m.g.to,.slice (some ⟨m.blk,0,none⟩) m.S.size m.cap] rfl;change qag (w.alloc (.cells #[.int .i64 m.g.to,.slice (some ⟨m.blk,0,none⟩) m.S.size m.cap] 205)) w.heap.size [.int .i64 m.g.to,.slice (some ⟨m.blk,0,none⟩) m.S.size m.cap]at I;have a:Hid (PWo w b M W s/\(∀k,G k↔ql7 b M (W.n+W.c) s k)/\M.nv=.slice (some ⟨nb,0,none⟩) M.l.length u/\i<M.l.length/\WfW W/\m∈M.l/\W.net[i]?=some m.g/\qag (w.alloc (.cells #[.int .i64 m.g.to,.slice (some ⟨m.blk,0,none⟩) m.S.size m.cap] 205)) w.heap.size [.int .i64 m.g.to,.slice (some ⟨m.blk,0,none⟩) m.S.size m.cap]):=⟨h,N,E,F,C,O,hi,I⟩
 have q1:(i:Int)<(M.l.length:Int):=by omega
 have q2:(i:Int)<300:=by omega
 have hlt:=h.box.lt;clear h N E D hi y ab F C O I;go_enter Tryz.func104,Tryz.ntmps104
 go_wp2_with fail
 refine P.mono ?_;rintro e w2 ⟨rfl,R⟩;have ad:=R.symm;clear R P;subst ad
 go_wp2_with fail
 refine Q.mono ?_;rintro e z ⟨rfl,U,d⟩;obtain⟨V,B⟩:=a.out.1.dropped H a.out.2.2.1 a.out.2.2.2.1 U d;have ae:nb≠b:=λe=>a.out.1.sb.2.2 (by rw[a.out.2.2.1,<-e];rfl);have nlt:nb<w.heap.size:=ac
 have s3:w.heap.size+1<=z.heap.size:=by have:=d.size;simpa using this
 have J:qag z b _:=(a.out.1.box.later H).kept (d.block b (by simp;omega) (λe=>by injection e with e;exact ae e.symm)) d.size;have X:qag z w.heap.size _:=a.out.2.2.2.2.2.2.2.kept (d.block w.heap.size (by simp) (λe=>by injection e with e;omega)) d.size;have e2:=J.cell 2 _ rfl;have f2:=J.free 2 (by simp);have K:=X.far ⟨b,2,none⟩ (.slice (some ⟨nb,0,none⟩) (M.l.length-1) u) (by show b≠w.heap.size;omega);have r0:=K.cell 0 _ rfl;have r1:=K.cell 1 _ rfl;have sg:=a.out.1.sg m a.out.2.2.2.2.2.1;have L:=a.out.1.gr m a.out.2.2.2.2.2.1;have Y:m.Ok (z.setCell ⟨b,2,none⟩ (.slice (some ⟨nb,0,none⟩) (M.l.length-1) u)):=L.kept (B.block m.blk L.own.lt (λe=>e.elim sg.1 sg.2.2.2)) B.size;have CM:=jat m _ ⟨_,s,V,λ_=>Iff.rfl⟩ (a.out.2.2.2.2.1.drop i) Y (a.out.2.2.2.2.1.to m.g (List.mem_of_getElem? a.out.2.2.2.2.2.2.1));have j:Hid _:=B;clear Q U d V B J X K sg L Y
 go_wp2_with fail
 refine CM.mono ?_;rintro e w5 ⟨rfl,W',hC,G5,k1,k2,o⟩
 go_wp2_with fail
 go_ret
 have Z:∀q,ql7 b {M with nv:=.slice (some ⟨nb,0,none⟩) (M.l.length-1) u,l:=M.l.eraseIdx i} ((qdh W i).n+(qdh W i).c) s q->G q:=λq p=>(a.out.2.1 q).2 (by
  rcases p with (q|q|q|q|⟨x,hx,q⟩)|q
  ·exact .inl (.inl q)
  ·exact .inl (.inr (.inl q))
  ·exact .inl (.inr (.inr (.inl q)))
  ·exact .inl (.inr (.inr (.inr (.inl (by rw[a.out.2.2.1];exact q)))))
  ·exact .inl (.inr (.inr (.inr (.inr ⟨x,List.mem_of_mem_eraseIdx hx,q⟩))))
  ·exact .inr q)
 have ts:=j.out.size;refine⟨rfl,W',⟨m.g,a.out.2.2.2.2.2.2.1,hC.out⟩,G5,k1,λq p=>?_,⟨o.os.trans j.out.os,o.tape.trans j.out.tape,o.output.trans j.out.output,Nat.le_trans ts o.size,λq p y=>?_⟩⟩
 ·rcases k2 q p with r|r
  ·exact .inl (Z q r)
  ·exact .inr (by omega)
 ·exact(o.block q (by omega) (λr=>y (Z q r))).trans (j.out.block q p (λe=>y ((a.out.2.1 q).2 (.inl (e.elim .inl (λr=>.inr (.inr (.inr (.inl r)))))))))
theorem qys (w:World) (h:PW w b G W) (n:WfW W):
 Calls Tryz.prog 146 #[.pointer (some ⟨b,0,none⟩)] w λe w'=>e=.returned (.tuple #[])/\∃W',Hid (qcy W W'/\WfW W')/\qd8 w b G W' w':=by
 have o:Hid (PW w b G W/\WfW W):=⟨h,n⟩;clear h n;go_enter Tryz.func146,Tryz.ntmps146
 go_wp2_with fail
 go_loopg [2] (qtd W.net) (λk _ wr=>∃W1:WoS,qtd W1.net<=k/\Hid (WfW W1/\qd8 w b G W1 wr/\∀W',qcy W1 W'->qcy W W'))
 case atStart=>exact⟨W,Nat.le_refl _,o.out.2,qd8.same o.out.1 (Below.refl _ _),λ_ h=>h⟩
 case round=>
  obtain⟨W1,J,a⟩:=hrel;obtain⟨z,c⟩:=a.out.2.1.get;obtain⟨M,K,c,B⟩:=c
  have p:M.l.length=W1.net.length:=by rw[<-c.nl];simp
  obtain⟨L,N,t,r⟩:=qai c.nr;have c2:=c.box.cell 2 _ rfl;rw[t]at c2;have O:=r.cap;have P:=r.len;clear r t c B;by_cases d:W1.net=[]
  ·have q:¬0<(M.l.length:Int):=by rw[p,d];simp
   go_wp2_with fail
   go_end0;exact⟨rfl,W1,⟨a.out.2.2 W1 (.none d),a.out.1⟩,a.out.2.1⟩
  ·obtain⟨g,u⟩:∃g,W1.net[0]?=some g:=by
        cases hn:W1.net with
        |nil=>exact absurd hn d
        |cons x r=>exact⟨x,rfl⟩
   have q:0<(M.l.length:Int):=by
        have:W1.net.length≠0:=λe=>d (List.eq_nil_of_length_eq_zero e);omega
   have C:Hid (Calls Tryz.prog 104 #[.pointer (some ⟨b,0,none⟩),.int .i64 0] wr λe w'=>e=.returned (qbq 0)/\∃W',Hid (qcj W1 0 W')/\qd8 w b G W' w'):=by
        obtain⟨z,c,s1,v⟩:=a.out.2.1;refine(qqu (i:=0) wr c a.out.1 u).mono λe w' ⟨D,W',j,m⟩=>⟨D,W',j,?_⟩;obtain⟨E,p1,p2,p3⟩:=m;have s:=v.size;refine⟨E,p1,λq F=>?_,v.more p3 s1⟩;rcases p2 q F with e|e
        ·exact s1 q e
        ·exact .inr (by omega)
   have H:Hid _:=d;clear p d u
   go_wp2_with fail
   refine C.out.mono ?_;rintro e Q ⟨rfl,y,j,m⟩;rw[show qbq 0=.nilIface from rfl];have wt:=qkw a.out.1 j.out
   go_wp2_with fail
   go_roundg (qtd y.net)
   case measure=>omega
   case rel=>exact⟨y,Nat.le_refl _,a.out.1.deliver j.out,m,λW' I=>a.out.2.2 W' (.step H.out j.out I)⟩
end
section
structure qix (W W':WoS):Prop where
 n:W'.n=W.n
 c:W'.c=W.c
 wall:W'.wall=W.wall
 ses:W'.ses=W.ses
 at_:W'.at_=W.at_
theorem qix.refl (W:WoS):qix W W:=⟨rfl,rfl,rfl,rfl,rfl⟩
theorem qix.trans {A B C:WoS} (h:qix A B) (k:qix B C):qix A C:=⟨k.n.trans h.n,k.c.trans h.c,k.wall.trans h.wall,k.ses.trans h.ses,k.at_.trans h.at_⟩
variable {W W':WoS}
theorem qk1.keep (h:qk1 W W'):qix W W':=⟨h.n,h.c,h.wall,h.ses,h.at_⟩
theorem qhb.keep {g:GrS} (h:qhb W g W'):qix W W':=by
 obtain⟨to,body⟩:=g;cases body with
 |tx t=>
  obtain⟨S',_,rfl⟩:=h;exact⟨rfl,rfl,rfl,rfl,rfl⟩
 |ask site v0 v1 v2 v3=>
  have a:if 0<=site/\site<(W.n:Int)then W'=qdy W to site.toNat v0 v1 v2 v3 else W'=W:=h
  split at a
  ·rw[a];have s:=qfd site.toNat (qhm (W.S to) v0 v1 v2 v3) (setSite W to (qbs (W.S to) site.toNat v0 v1 v2 v3));exact⟨s.n,s.c,s.wall,s.ses,s.at_⟩
  ·rw[a];exact qix.refl W
theorem qcj.keep {i:Nat} (h:qcj W i W'):qix W W':=by
 obtain⟨g,_,h⟩:=h;have k:=h.keep;exact⟨k.n,k.c,k.wall,k.ses,k.at_⟩
theorem qcy.keep (h:qcy W W'):qix W W':=by
 induction h with
 |none _=>exact qix.refl _
 |step _ h _ ih=>exact h.keep.trans ih
variable {m:Nat}
theorem qgj.keep {k:Nat} (h:qgj k m W W'):qix W W':=by
 induction h with
 |zero=>exact qix.refl _
 |self _ _ ih=>exact ih
 |ask _ _ h ih=>exact(ih.trans (qbk _ _).keep).trans h.keep
theorem qfg.keep (h:qfg m W W'):qix W W':=by
 induction h with
 |zero=>exact qix.refl _
 |next _ h ih=>exact ih.trans h.keep
theorem qkx.keep (h:qkx W W'):qix W W':=by
 obtain⟨W1,a,c⟩:=h;exact a.keep.trans c.keep
variable {b:Nat} {G:Nat->Prop}
theorem PW.len0 {w:World} (h:PW w b G W):∃a cap,w.cell? ⟨b,0,none⟩=some (.slice a W.n cap):=by
 obtain⟨M,g,h,_⟩:=h;obtain⟨d,e,f,r⟩:=qai h.pr;have c:=h.box.cell 0 _ rfl;rw[f]at c;exact⟨d,e,c⟩
theorem jaj (w:World) (h:PW w b G W) (u:WfW W):
 Calls Tryz.prog 100 #[.pointer (some ⟨b,0,none⟩)] w λe w'=>e=.returned (.tuple #[])/\∃W',Hid (qkx W W'/\WfW W')/\qd8 w b G W' w':=by
 have K:=qys w h u;have L:Hid (W.n<=4):=u.n4;clear h u;go_enter Tryz.func100,Tryz.ntmps100
 go_wp2_with fail
 refine K.mono ?_;rintro e X ⟨rfl,W1,v,j⟩;have x:Hid (qd8 w b G W1 X):=j;obtain⟨G1,M⟩:=x.out.get;obtain⟨pa,pc,c0⟩:=M.len0;have B:W1.n=W.n:=v.out.1.keep.n;rw[B]at c0;have N:Hid (W1.n=W.n):=B;clear K j B M
 go_wp2_with fail
 clear c0
 go_loopw [11] (λiv wr=>∃(k:Nat) (z:Int) (g:WoS),k<=W.n/\z=k/\iv=.int .i64 z/\Hid (WfW g/\g.n=W.n/\qfg k W1 g/\qd8 w b G g wr)) (λiv _=>W.n-(intOf iv).toNat)
 case atStart=>exact⟨0,0,W1,by omega,rfl,rfl,v.out.2,N.out,.zero,x.out⟩
 case round=>
  clear x;obtain⟨k,z,g,hk,C,rfl,d⟩:=hrel;have l:Hid (z=k):=C;by_cases O:k<W.n
  ·have g1:z<(W.n:Int):=by omega
   have g3:0<=z:=by omega
   have g4:z<4:=by have:=L.out;omega
   obtain⟨G2,P⟩:=d.out.2.2.2.get;obtain⟨pa2,pc2,c0⟩:=P.len0;rw[d.out.2.1]at c0;clear C P
   go_wp2_with fail
   clear c0
   go_loopw [19] (λD wr=>∃(m:Nat) (y:Int) (c:WoS),m<=W.n/\y=m/\D=.int .i64 y/\Hid (WfW c/\c.n=W.n/\qgj k m g c/\qd8 w b G c wr)) (λD _=>W.n-(intOf D).toNat)
   case atStart=>exact⟨0,0,g,by omega,rfl,rfl,d.out.1,d.out.2.1,.zero,d.out.2.2.2⟩
   case round=>
        obtain⟨m,y,c,hm,r,rfl,a⟩:=hrel;have p:Hid (y=m):=r;by_cases Q:m<W.n
        ·have f1:y<(W.n:Int):=by omega
         have f3:0<=y:=by omega
         have f4:y<4:=by have:=L.out;omega
         by_cases t:m=k
         ·have Y:y=z:=by have:=l.out;omega
          clear r
          go_wp2_with fail
          go_roundw
          case rel=>exact⟨m+1,y+1,c,by omega,by have:=p.out;omega,by go_num,a.out.1,a.out.2.1,.self a.out.2.2.1 t,a.out.2.2.2⟩
          case measure=>simp[intOf];have:=p.out;omega
         ·have Y:¬y=z:=by have:=l.out;omega
          have R:Hid (Calls Tryz.prog 96 #[.pointer (some ⟨b,0,none⟩),.int .i64 z,.int .i64 y] wr λe w'=>e=.returned (qbq 0)/\qd8 w b G (qvm c k m) w'):=by
           obtain⟨G3,Z,s3,t3⟩:=a.out.2.2.2;have:=q9n wr Z a.out.1 (i:=k) (o:=m) (by rw[a.out.2.1];exact O) (by rw[a.out.2.1];exact Q) (λe=>t e.symm);rw[<-l.out,<-p.out]at this;refine this.mono λe w' ⟨E,j⟩=>⟨E,?_⟩;obtain⟨F,p1,p2,p3⟩:=j;have s:=t3.size;refine⟨F,p1,λq H=>?_,t3.more p3 s3⟩;rcases p2 q H with e|e
           ·exact s3 q e
           ·exact .inr (by omega)
          have S:Hid (m≠k/\k<W.n/\m<W.n):=⟨t,O,Q⟩;clear r t
          go_wp2_with fail
          refine R.out.mono ?_;rintro e T ⟨rfl,aa⟩;rw[show qbq 0=.nilIface from rfl];have U:WfW (qvm c k m):=a.out.1.send (by show m<c.n;rw[a.out.2.1];exact S.out.2.2);obtain⟨G4,V,I,t4⟩:=aa
          have ab:Hid (Calls Tryz.prog 146 #[.pointer (some ⟨b,0,none⟩)] T λe w'=>e=.returned (.tuple #[])/\∃W',Hid (qcy (qvm c k m) W'/\WfW W')/\qd8 w b G W' w'):=(qys T V U).mono λe w' ⟨E,W',hB,j⟩=>⟨E,W',hB,by
           obtain⟨F,p1,p2,p3⟩:=j;have s:=t4.size;refine⟨F,p1,λq H=>?_,t4.more p3 I⟩;rcases p2 q H with e|e
           ·exact I q e
           ·exact .inr (by omega)⟩
          clear R V I t4 U
          go_wp2_with fail
          refine ab.out.mono ?_;rintro e w5 ⟨rfl,W5,J,hP5⟩
          go_wp2_with fail
          go_roundw
          case rel=>exact⟨m+1,y+1,W5,by omega,by have:=p.out;omega,by go_num,J.out.2,(J.out.1.keep.n.trans (qbk _ _).n).trans a.out.2.1,.ask a.out.2.2.1 S.out.1 J.out.1,hP5⟩
          case measure=>simp[intOf];have:=p.out;omega
        ·have f1:¬y<(W.n:Int):=by omega
         have e:m=W.n:=by omega
         clear r
         go_wp2_with fail
         go_roundw
         case rel=>exact⟨k+1,z+1,c,by omega,by have:=l.out;omega,by go_num,a.out.1,a.out.2.1,.next d.out.2.2.1 (by rw[d.out.2.1,<-e];exact a.out.2.2.1),a.out.2.2.2⟩
         case measure=>simp[intOf];have:=l.out;omega
  ·have g1:¬z<(W.n:Int):=by omega
   have e:k=W.n:=by omega
   clear C
   go_wp2_with fail
   go_end0;exact⟨rfl,g,⟨⟨W1,v.out.1,by rw[N.out,<-e];exact d.out.2.2.1⟩,d.out.1⟩,d.out.2.2.2⟩
end
section
theorem qob (bp:Nat->Nat) (x:Nat->Int) (n:Nat):qc2 bp x (n+1)=qc2 bp x n++q42 (bp n) (x n):=by
 unfold qc2;rw[List.range_succ,List.flatMap_append];simp
theorem qms (bp:Nat->Nat) (x:Nat->Int) (y:Int) {i:Nat}:∀n,i<n->(qc2 bp x n).set (i*2+1) (.int .i64 y)=qc2 bp (qcg x i y) n
 |0,h=>by omega
 |n+1,h=>by
  rw[qob,qob];have a:=qll bp x n;by_cases q:i=n
  ·subst q;rw[List.set_append,if_neg (by rw[a];omega),a,qam]
   have e:qc2 bp (qcg x i y) i=qc2 bp x i:=by
    unfold qc2;rw[List.flatMap_def,List.flatMap_def]
    congr 1
    refine List.map_congr_left (λj c=>?_);have:=List.mem_range.1 c;rw[qby _ _ (by omega)]
   rw[e,show i*2+1-i*2=1 by omega];rfl
  ·rw[List.set_append,if_pos (by rw[a];omega),qms bp x y n (by omega),qby _ _ (λe=>q e.symm)]
section
variable {w:World} {b cb cc i:Nat} {M:WoM} {W:WoS} {Gs:Nat->Nat->Prop}
theorem PWo.setAt (h:PWo w b M W Gs) (g:M.cv=.slice (some ⟨cb,0,none⟩) W.c cc) (hi:i<W.c) (to:Nat):PWo (w.setCell ⟨cb,i*2+1,none⟩ (.int .i64 to)) b M {W with at_:=qcg W.at_ i to} Gs/\qae (λk=>k=cb) w (w.setCell ⟨cb,i*2+1,none⟩ (.int .i64 to)):=by
 have gn:M.cv.ownBlock=some cb:=by rw[g];rfl
 have a:∀k,k≠cb->(w.setCell ⟨cb,i*2+1,none⟩ (.int .i64 to)).heap[k]?=w.heap[k]?:=λk d=>Below.heap_setCell _ _ _ _ (λe=>d e)
 have f:(w.setCell ⟨cb,i*2+1,none⟩ (.int .i64 to)).heap.size=w.heap.size:=by simp[World.setCell]
 refine⟨⟨h.box.kept (a b (λe=>h.sb.2.1 (by rw[gn,e]))) (by rw[f];exact Nat.le_refl _),qad h.pr (λk e=>a k (λq=>((h.sr k).1 e).1 (by rw[gn,q]))),?_,qad h.nr (λk e=>a k (λq=>(h.sr k).2 (by rw[gn,q]) e)),h.nl,λx l=>(h.gr x l).kept (a _ (λq=>(h.sg x l).2.2.1 (by rw[gn,q]))) (by rw[f];exact Nat.le_refl _),h.fam.to (λj k m e=>a k (λq=>(h.fam.free k (.inr (.inr (.inl (by rw[gn,q]))))).2 j m e)) (by rw[f];exact Nat.le_refl _) (λk d=>⟨.inl d,by rw[f];exact h.ltF k d⟩),h.sb,h.sr,h.sg⟩,qae.setCell _ _ _ rfl⟩;have o:=h.cr;rw[g]at o ⊢;have s:=(o.stored (i*2+1) (.int .i64 to)).1;rw[qms _ _ _ _ hi]at s
 have e:(λk=>((qcg W.at_ i to k:Nat):Int))=qcg (λk=>(W.at_ k:Int)) i (to:Int):=by
  funext k
  unfold qcg
  split<;>rfl
 show World.ownsRow _ 0 _ 2 _ W.c (qc2 M.bs (λk=>((qcg W.at_ i to k:Nat):Int)) W.c);rw[e];exact s
theorem PWo.setWall (h:PWo w b M W Gs) (f:M.pv=.slice (some ⟨cb,0,none⟩) W.n cc) (hi:i<W.n) (x:Int):PWo (w.setCell ⟨cb,i*2+1,none⟩ (.int .i64 x)) b M {W with wall:=qcg W.wall i x} Gs/\qae (λk=>k=cb) w (w.setCell ⟨cb,i*2+1,none⟩ (.int .i64 x)):=by
 have gn:M.pv.ownBlock=some cb:=by rw[f];rfl
 have a:∀k,k≠cb->(w.setCell ⟨cb,i*2+1,none⟩ (.int .i64 x)).heap[k]?=w.heap[k]?:=λk c=>Below.heap_setCell _ _ _ _ (λe=>c e)
 have d:(w.setCell ⟨cb,i*2+1,none⟩ (.int .i64 x)).heap.size=w.heap.size:=by simp[World.setCell]
 refine⟨⟨h.box.kept (a b (λe=>h.sb.1 (by rw[gn,e]))) (by rw[d];exact Nat.le_refl _),?_,qad h.cr (λk e=>a k (λq=>((h.sr cb).1 gn).1 (by rw[<-q];exact e))),qad h.nr (λk e=>a k (λq=>((h.sr cb).1 gn).2 (by rw[<-q];exact e))),h.nl,λx g=>(h.gr x g).kept (a _ (λq=>(h.sg x g).2.1 (by rw[gn,q]))) (by rw[d];exact Nat.le_refl _),h.fam.to (λj k l e=>a k (λq=>(h.fam.free k (.inr (.inl (by rw[gn,q])))).2 j l e)) (by rw[d];exact Nat.le_refl _) (λk c=>⟨.inl c,by rw[d];exact h.ltF k c⟩),h.sb,h.sr,h.sg⟩,qae.setCell _ _ _ rfl⟩;have o:=h.pr;rw[f]at o ⊢;have s:=(o.stored (i*2+1) (.int .i64 x)).1;rw[qms _ _ _ _ hi]at s;exact s
end
def qrt (W:WoS) (i:Nat):Int:=if (W.ses i).opn=true then 6 else 0
def qm1 (W:WoS) (i to:Nat):WoS:=if (W.ses i).opn=true then W else {W with at_:=qcg W.at_ i to}
variable {i:Nat}
theorem jbq {b:Nat} {G:Nat->Prop} {W:WoS} (w:World) (h:PW w b G W) {to:Nat} (hi:i<W.c) (N:to<W.n):
 Calls Tryz.prog 112 #[.pointer (some ⟨b,0,none⟩),.int .i64 i,.int .i64 to] w λe w'=>e=.returned (qbq (qrt W i))/\qd8 w b G (qm1 W i to) w':=by
 obtain⟨M,Gs,h,E⟩:=h;obtain⟨O,cc,z,r⟩:=qai h.cr
 obtain⟨cb,rfl,R,B⟩:∃g,O=some ⟨g,0,none⟩/\g<w.heap.size/\∀j u,(qc2 M.bs (λk=>(W.at_ k:Int)) W.c)[j]?=some u->w.cell? ⟨g,j,none⟩=some u:=by
  rcases r.held with J|J
  ·omega
  ·exact J
 have c1:=h.box.cell 1 _ rfl;rw[z]at c1;obtain⟨S,T,c0,U,V,X,Y⟩:=h.place N;have x0:=B _ _ (qf5 hi).1;have x1:=B _ _ (qf5 hi).2;have C:=qbd (k:=i) (v:=true) w c1 (by simp;omega);have D:=qbh (k:=to) (v:=true) w c0 (by simp;omega);have x:=qou w (h.sess hi);have Z:=h.box.lt;have l:Hid (PWo w b M W Gs/\(∀k,G k↔ql7 b M (W.n+W.c) Gs k)/\M.cv=.slice (some ⟨cb,0,none⟩) W.c cc/\i<W.c):=⟨h,E,z,hi⟩
 have o:(i:Int)<(W.c:Int):=by omega
 have aa:=r.len;cases ho:(W.ses i).opn
 ·have y:Hid (qbq (qrt W i)=.nilIface/\qm1 W i to={W with at_:=qcg W.at_ i to}):=⟨by unfold qrt;rw[ho];rfl,by unfold qm1;rw[ho];rfl⟩;rw[ho]at x;clear h E B r z ho;go_enter Tryz.func112,Tryz.ntmps112
  go_wp2_with fail
  refine C.mono ?_;rintro e w2 ⟨rfl,a⟩;have m:=a.symm;clear a C;subst m
  go_wp2_with fail
  refine D.mono ?_;rintro e w2 ⟨rfl,a⟩;have m:=a.symm;clear a D;subst m
  go_wp2_with fail
  refine x.mono ?_;rintro e p ⟨rfl,s⟩;have F:=l.out.1.later s;have H:=F.cr;rw[l.out.2.2.1]at H;have z1:=cell_later s c1;have z2:=cell_later s x1
  have fz:p.frozen? ⟨cb,i*2+1,none⟩=false:=by
   rcases H.2 with ⟨q,_⟩|⟨g2,cap2,cur,q,_,P,_⟩
   ·cases q
   ·injection q with o q2 q3;injection o with o;injection o with o;subst o;unfold World.frozen?;rw[P];simp
  obtain⟨K,L⟩:=F.setAt l.out.2.2.1 l.out.2.2.2 to;have d:Hid (PWo (p.setCell ⟨cb,i*2+1,none⟩ (.int .i64 to)) b M {W with at_:=qcg W.at_ i to} Gs/\qae (λk=>k=cb) p (p.setCell ⟨cb,i*2+1,none⟩ (.int .i64 to))/\Below w.heap.size w p):=⟨K,L,s⟩;clear x F K L H
  go_wp2_with fail
  go_ret;refine⟨by rw[y.out.1];rfl,?_⟩;rw[y.out.2]
  have gn:M.cv.ownBlock=some cb:=by rw[l.out.2.2.1];rfl
  have s3:=d.out.2.2.size;refine⟨_,⟨M,Gs,d.out.1,λ_=>Iff.rfl⟩,λk I=>.inl ((l.out.2.1 k).2 I),?_⟩;exact⟨d.out.2.1.os.trans d.out.2.2.os,d.out.2.1.tape.trans d.out.2.2.tape,d.out.2.1.output.trans d.out.2.2.output,Nat.le_trans s3 d.out.2.1.size,λk I Q=>(d.out.2.1.block k (by omega) (λe=>Q ((l.out.2.1 k).2 (.inl (.inr (.inr (.inl (by rw[gn,e])))))))).trans (d.out.2.2.block k I)⟩
 ·have y:Hid (qbq (qrt W i)=.iface 26 (.int .i64 6)/\qm1 W i to=W):=⟨by unfold qrt;rw[ho];rfl,by unfold qm1;rw[ho];rfl⟩;rw[ho]at x;clear h E B r z ho;go_enter Tryz.func112,Tryz.ntmps112
  go_wp2_with fail
  refine C.mono ?_;rintro e w2 ⟨rfl,a⟩;have m:=a.symm;clear a C;subst m
  go_wp2_with fail
  refine D.mono ?_;rintro e w2 ⟨rfl,a⟩;have m:=a.symm;clear a D;subst m
  go_wp2_with fail
  refine x.mono ?_;rintro e p ⟨rfl,s⟩
  go_wp2_with fail
  go_ret;refine⟨by rw[y.out.1];rfl,?_⟩;rw[y.out.2];exact qd8.same ⟨M,Gs,l.out.1,l.out.2.1⟩ s
end
def qwi (x:Int):Int:=if x<=1099511627776 then x else 1099511627776
def qtz (W:WoS) (i:Nat) (by_:Int):WoS:={W with wall:=qcg W.wall i (qwi (W.wall i+by_))}
theorem q98 {b:Nat} {G:Nat->Prop} {W:WoS} (w:World) (h:PW w b G W) {i:Nat} (hi:i<W.n) {y:Int} (V:0<=y) (X:y<=1099511627776) (N:0<=W.wall i) (O:W.wall i<=1099511627776):
 Calls Tryz.prog 106 #[.pointer (some ⟨b,0,none⟩),.int .i64 i,.int .i64 y] w λe w'=>e=.returned (qbq 0)/\qd8 w b G (qtz W i y) w':=by
 obtain⟨M,s,h,D⟩:=h;obtain⟨P,Q,o,r⟩:=qai h.pr
 obtain⟨l,rfl,Y,E⟩:∃g,P=some ⟨g,0,none⟩/\g<w.heap.size/\∀j u,(qc2 M.bp W.wall W.n)[j]?=some u->w.cell? ⟨g,j,none⟩=some u:=by
  rcases r.held with H|H
  ·omega
  ·exact H
 have c0:=h.box.cell 0 _ rfl;rw[o]at c0;have x1:=E _ _ (qf5 hi).2;have p:=qbh (k:=i) (v:=true) w c0 (by simp;omega);have Z:=h.box.lt;have a:Hid (PWo w b M W s/\(∀k,G k↔ql7 b M (W.n+W.c) s k)/\M.pv=.slice (some ⟨l,0,none⟩) W.n Q/\i<W.n):=⟨h,D,o,hi⟩
 have d:(i:Int)<(W.n:Int):=by omega
 have aa:=r.len
 have fz:w.frozen? ⟨l,i*2+1,none⟩=false:=by
  have I:=h.pr;rw[o]at I;rcases I.2 with ⟨q,_⟩|⟨g2,cap2,cur,q,_,R,_⟩
  ·cases q
  ·injection q with d q2 q3;injection d with d;injection d with d;subst d;unfold World.frozen?;rw[R];simp
 obtain⟨wl,x⟩:∃wl,W.wall i=wl:=⟨_,rfl⟩;rw[x]at x1 N O
 have hwz:wrap64 (wl+y)=wl+y:=by unfold wrap64;omega
 have J:Hid (qtz W i y={W with wall:=qcg W.wall i (qwi (wl+y))}):=by show _=_;unfold qtz;rw[x]
 have K:Hid (∀w',w'=w.drew.setCell ⟨l,i*2+1,none⟩ (.int .i64 (qwi (wl+y)))->qd8 w b G {W with wall:=qcg W.wall i (qwi (wl+y))} w'):=λw' e=>by
  subst e;obtain⟨S,T⟩:=(a.out.1.later (Below.refl _ w).drew).setWall a.out.2.2.1 a.out.2.2.2 (qwi (wl+y))
  have gn:M.pv.ownBlock=some l:=by rw[a.out.2.2.1];rfl
  refine⟨_,⟨M,s,S,λ_=>Iff.rfl⟩,λk z=>.inl ((a.out.2.1 k).2 z),?_⟩;have t:=(qae.ofBelow (F:=λk=>k=l) (Below.refl _ w).drew).trans T;exact⟨t.os,t.tape,t.output,t.size,λk z U=>t.block k z (λe=>U ((a.out.2.1 k).2 (.inl (.inr (.inl (by rw[gn,e]))))))⟩
 clear h D E r o x;by_cases L:wl+y<=1099511627776
 ·have B:Hid (qwi (wl+y)=wl+y):=if_pos L;go_enter Tryz.func106,Tryz.ntmps106
  go_wp2_with fail
  refine p.mono ?_;rintro e w2 ⟨rfl,m⟩;have C:=m.symm;clear m p;subst C
  go_wp2_with fail
  go_region
  all_goals
   go_wp2_with fail
   go_ret;refine⟨rfl,?_⟩;rw[J.out];exact K.out _ (by rw[B.out];rfl)
 ·have B:Hid (qwi (wl+y)=1099511627776):=if_neg L;go_enter Tryz.func106,Tryz.ntmps106
  go_wp2_with fail
  refine p.mono ?_;rintro e w2 ⟨rfl,m⟩;have C:=m.symm;clear m p;subst C
  go_wp2_with fail
  go_region
  all_goals
   go_wp2_with fail
   go_ret;refine⟨rfl,?_⟩;rw[J.out];exact K.out _ (by rw[B.out];rfl)
section
open Go.Value Go.IntKind Go.Maps
variable {b:Nat} {G:Nat->Prop} {S:qaf}
theorem q4t (w:World) (h:PS w b G S) (a:qcx S):
 Calls Tryz.prog 161 #[.pointer (some ⟨b,0,none⟩)] w λe w'=>e=.returned (int i64 S.l.length)/\Below w.heap.size w w':=by
 obtain⟨lv,bm,F,log,waits,c,_,_⟩:=h.mem;have d:=q2j w c.st a.many;clear c h a;go_enter Tryz.func161,Tryz.ntmps161
 go_wp2_with fail
 refine d.mono ?_;rintro e w2 ⟨rfl,g⟩
 go_wp2_with fail
 go_ret;exact⟨rfl,g⟩
theorem qy1 (x0 x1 x2 x3:Int) (w:World) (h:PS w b G S) (j:qcx S):
 Calls Tryz.prog 164 #[.pointer (some ⟨b,0,none⟩),.agg #[int i64 x0,int i64 x1,int i64 x2,int i64 x3]] w λe w'=>e=.returned (.tuple #[])/\PPo w b G {S with l:=qfr (qa6 x0 S.a0) (qa6 x1 S.a1) (qa6 x2 S.a2) (qa6 x3 S.a3) S.l} w':=by
 have hb:=boxed (Below.refl _ w) (.cells #[int i64 x0,int i64 x1,int i64 x2,int i64 x3] 77);have v:=qag.new (w:=w) (T:=77) [int i64 x0,int i64 x1,int i64 x2,int i64 x3] rfl;obtain⟨lv,bm,F,log,waits,c,r,s,n⟩:=h;have d:=c.later hb;have J:=d.box.cell 1 _ rfl;have K:=d.box.cell 2 _ rfl;have L:=d.box.cell 3 _ rfl;have M:=d.box.cell 4 _ rfl;obtain⟨N,O,P,Q⟩:=v.c4;have x:Hid (∀W,Below w.heap.size w W->Calls Tryz.prog 163 #[.agg #[int i64 x0,int i64 x1,int i64 x2,int i64 x3],.agg #[int i64 S.a0,int i64 S.a1,int i64 S.a2,int i64 S.a3]] W λe w'=>e=.returned (.agg #[int i64 (qa6 x0 S.a0),int i64 (qa6 x1 S.a1),int i64 (qa6 x2 S.a2),int i64 (qa6 x3 S.a3)])/\Below w.heap.size w w'):=λW a=>(qr4 x0 x1 x2 x3 S.a0 S.a1 S.a2 S.a3 W).mono λe w' ⟨o,p⟩=>⟨o,qab a p⟩
 have y:Hid (∀W,Below w.heap.size w W->Calls Tryz.prog 221 #[.pointer (some ⟨b,25,none⟩),.agg #[int i64 (qa6 x0 S.a0),int i64 (qa6 x1 S.a1),int i64 (qa6 x2 S.a2),int i64 (qa6 x3 S.a3)]] W λe w'=>e=.returned (.tuple #[])/\Hid (PPo w b G {S with l:=qfr (qa6 x0 S.a0) (qa6 x1 S.a1) (qa6 x2 S.a2) (qa6 x3 S.a3) S.l} w')):=λW a=>
  (q0h (qa6 x0 S.a0) (qa6 x1 S.a1) (qa6 x2 S.a2) (qa6 x3 S.a3) W (c.later a).st j.many j.apart j.ok).mono λe w' ⟨o,p⟩=>by
   obtain⟨F',z,B,g⟩:=(c.later a).store p;have R:∀k,(∃m∈log++waits,m.blk k)->k<w.heap.size:=λk ⟨m,C,e⟩=>(c.hold m C).1.blk_lt k e;refine⟨o,λk=>qbb b lv bm F' k\/∃m∈log++waits,m.blk k,⟨lv,bm,F',log,waits,z,r,s,λk=>Iff.rfl⟩,λk i=>?_,(qae.ofBelow a).more ⟨g.os,g.tape,g.output,g.size,λk i D=>g.block k i (λe=>D ((n k).2 (.inl e)))⟩ (λk i=>.inl i)⟩;rcases i with q|q
   ·rcases B k q with u|u
    ·exact .inl ((n k).2 (.inl u))
    ·exact .inr (by have:=a.size;omega)
   ·exact .inl ((n k).2 (.inr q))
 have E:=hb.drew;clear c d j r s n;go_enter Tryz.func164,Tryz.ntmps164
 go_wp2_with fail
 go_region_law (first
  |(refine qav rfl 163 #[.agg #[int i64 x0,int i64 x1,int i64 x2,int i64 x3],.agg #[int i64 S.a0,int i64 S.a1,int i64 S.a2,int i64 S.a3]] (by go_simp) (x.out _ E) ?_
    rintro e w2 ⟨rfl,H⟩
    refine⟨_,rfl,?_⟩)
  |(refine qav rfl 221 #[.pointer (some ⟨b,25,none⟩),.agg #[int i64 (qa6 x0 S.a0),int i64 (qa6 x1 S.a1),int i64 (qa6 x2 S.a2),int i64 (qa6 x3 S.a3)]] (by go_simp) (y.out _ H) ?_
    rintro e U ⟨rfl,I⟩
    refine⟨_,rfl,?_⟩))
 all_goals
  go_wp2_with fail
  go_end0;exact⟨rfl,I.out⟩
end
section
open Go.Value Go.IntKind
variable {w:World}
theorem qnf {tmps:Array Value} {a:Nat} {p0 p1 p2 p3:Int} {v5 c d e:Value} (g:qag w a [int i64 p0,int i64 p1,int i64 p2,int i64 p3]) (t4:tmps[4]?=some (.pointer (some ⟨a,0,none⟩))) (t5:tmps[5]?=some v5) (h:tmps[6]?=some c) (i:tmps[7]?=some d) (j:tmps[8]?=some e):
 (results Tryz.f114 tmps).run Tryz.prog w=.ok (.tuple #[.agg #[int i64 p0,int i64 p1,int i64 p2,int i64 p3],v5,c,d,e]) w:=by
 obtain⟨z0,l,z2,z3⟩:=g.c4;simp[results,Tryz.results114,go_sem,t4,t5,h,i,j,z0,l,z2,z3]
variable {W:World} {b:Nat}
theorem q7g (h:qag W b [int i64 0,int i64 0,int i64 0,int i64 0]) (x0 x1 x2 x3:Int):qag ((((W.setCell ⟨b,0,none⟩ (int i64 x0)).setCell ⟨b,1,none⟩ (int i64 x1)).setCell ⟨b,2,none⟩ (int i64 x2)).setCell ⟨b,3,none⟩ (int i64 x3)) b [int i64 x0,int i64 x1,int i64 x2,int i64 x3]:=
 (((h.set 0 _ (by simp)).set 1 _ (by simp)).set 2 _ (by simp)).set 3 _ (by simp)
variable {k:Nat}
theorem q1h (a:k≠b) (x0 x1 x2 x3:Int):((((W.setCell ⟨b,0,none⟩ (int i64 x0)).setCell ⟨b,1,none⟩ (int i64 x1)).setCell ⟨b,2,none⟩ (int i64 x2)).setCell ⟨b,3,none⟩ (int i64 x3)).heap[k]?=W.heap[k]?:=by
 have e:∀(V:World) (p:Addr) (u:Value),p.block=b->(V.setCell p u).heap[k]?=V.heap[k]?:=λV p u c=>Below.heap_setCell _ _ _ _ (λq=>a (q.trans c));rw[e _ _ _ rfl,e _ _ _ rfl,e _ _ _ rfl,e _ _ _ rfl]
variable {n:Nat}
theorem qge (h:Below n w W) (hb:n<=b) (x0 x1 x2 x3:Int):Below n w ((((W.setCell ⟨b,0,none⟩ (int i64 x0)).setCell ⟨b,1,none⟩ (int i64 x1)).setCell ⟨b,2,none⟩ (int i64 x2)).setCell ⟨b,3,none⟩ (int i64 x3)):=
 (((h.setCell (p:=⟨b,0,none⟩) hb _).setCell (p:=⟨b,1,none⟩) hb _).setCell (p:=⟨b,2,none⟩) hb _).setCell (p:=⟨b,3,none⟩) hb _
theorem q83 {B a:Nat} {T:TypeId} {v:Value} {xs:List Value} (h:w.ownsRow B T k v n xs) (c:a<=B):w.ownsRow a T k v n xs:=
 ⟨h.1,h.2.imp (λq=>q) (λ⟨g,cap,cur,e,hb,r⟩=>⟨g,cap,cur,e,Nat.le_trans c hb,r⟩)⟩
theorem jax {G:Nat->Prop} {W:WoS} (w:World) (h:PW w b G W) (u:WfW W) {i:Nat} (hi:i<W.n):
 Calls Tryz.prog 114 #[.pointer (some ⟨b,0,none⟩),int i64 i] w λe w'=>∃v,e=.returned (.tuple #[.agg #[int i64 (W.S i).a0,int i64 (W.S i).a1,int i64 (W.S i).a2,int i64 (W.S i).a3],int i64 (W.S i).waits.length,v,int i64 (W.S i).l.length,.nilIface])/\w'.ownsRow w.heap.size 9 1 v 8 (qhj (W.S i).a0 (W.S i).a1 (W.S i).a2 (W.S i).a3 (W.S i).l 8)/\Below w.heap.size w w':=by
 obtain⟨M,K,h,L⟩:=h;have c:=boxed (Below.refl _ w) (.cells #[int i64 0,int i64 0,int i64 0,int i64 0] 77);have j:=qag.new (w:=w) (T:=77) [int i64 0,int i64 0,int i64 0,int i64 0] rfl;change qag (w.alloc (.cells #[int i64 0,int i64 0,int i64 0,int i64 0] 77)) w.heap.size [int i64 0,int i64 0,int i64 0,int i64 0]at j;have m:=(h.site hi).later c;obtain⟨Y,Z,c0,aa,ab,y0,y1⟩:=(h.later c).place hi;have hlt:=(h.later c).box.lt;have x:=qbh (k:=i) (v:=true) _ c0 (by simp;omega);have y:=qgq _ m;have a:Hid (PS (w.alloc (.cells #[int i64 0,int i64 0,int i64 0,int i64 0] 77)) (M.bp i) (K i) (W.S i)/\qcx (W.S i)/\qag (w.alloc (.cells #[int i64 0,int i64 0,int i64 0,int i64 0] 77)) w.heap.size [int i64 0,int i64 0,int i64 0,int i64 0]):=⟨m,u.inv i hi,j⟩
 have q1:(i:Int)<(W.n:Int):=by omega
 clear h L u m j;go_enter Tryz.func114,Tryz.ntmps114
 go_wp2_with fail
 refine x.mono ?_;rintro e w2 ⟨rfl,z⟩;have N:=z.symm;clear z x;subst N
 go_wp2_with fail
 refine y.mono ?_;rintro e O ⟨rfl,B⟩;have C:=q4e O (a.out.1.later B);clear y
 go_wp2_with fail
 refine C.mono ?_;rintro e o ⟨rfl,P⟩;have p:=qab B P;have D:=q78 o (a.out.1.later p) a.out.2.1;clear C
 go_wp2_with fail
 refine D.mono ?_;rintro e Q ⟨v,rfl,r,R⟩;have E:=qab p R;have F:=q4t Q (a.out.1.later E) a.out.2.1;clear D
 go_wp2_with fail
 refine F.mono ?_;rintro e s ⟨rfl,H⟩;have I:=qab E H;have d:=a.out.2.2.later I
 have s4:w.heap.size<o.heap.size:=by have:=p.size;simp at this;omega
 have J:=qad r (λk e=>H.block k (r.lt k e).2);have g:Hid (s.ownsRow o.heap.size 9 1 v 8 (qhj (W.S i).a0 (W.S i).a1 (W.S i).a2 (W.S i).a3 (W.S i).l 8)/\qag s w.heap.size [int i64 0,int i64 0,int i64 0,int i64 0]/\Below w.heap.size w s):=⟨J,d,qab c I⟩;obtain⟨a0,a1,a2,a3⟩:=d.c4;obtain⟨f0,f1,f2,f3⟩:=d.f4;clear F r J d
 go_wp2_with fail
 have U:=q7g g.out.2.1 (W.S i).a0 (W.S i).a1 (W.S i).a2 (W.S i).a3;have V:=qge g.out.2.2 (Nat.le_refl _) (W.S i).a0 (W.S i).a1 (W.S i).a2 (W.S i).a3;have X:=qad g.out.1 (λk e=>q1h (b:=w.heap.size) (λq=>by have:=(g.out.1.lt k e).1;omega) (W.S i).a0 (W.S i).a1 (W.S i).a2 (W.S i).a3);refine bodyPost_ret (qnf U rfl rfl rfl rfl rfl) rfl ⟨v,rfl,?_,V⟩;exact q83 X (by omega)
end
theorem qv9 {b:Nat} {G:Nat->Prop} {S:qaf} (a:Int) (w:World) (h:PS w b G S):
 Calls Tryz.prog 162 #[.pointer (some ⟨b,0,none⟩),.int .i64 a] w λe w'=>
  e=.returned (.agg #[.int .i64 (qap S (qdo a)).v0,.int .i64 (qap S (qdo a)).v1,.int .i64 (qap S (qdo a)).v2,.int .i64 (qap S (qdo a)).v3])/\Below w.heap.size w w':=by
 obtain⟨lv,bm,F,log,waits,h,_,_,_⟩:=h;exact qz6 a w h
section
open Go.Value Go.IntKind
def swV (W:WoS) (k:Nat):Nat->V4
 |0=>qap (W.S k) (qdo W.n)
 |j+1=>if W.at_ j=k/\(W.ses j).opn=true then ⟨qa6 (swV W k j).v0 (W.ses j).s0,qa6 (swV W k j).v1 (W.ses j).s1,qa6 (swV W k j).v2 (W.ses j).s2,qa6 (swV W k j).v3 (W.ses j).s3⟩else swV W k j
def v4C (v:V4):List Value:=[int i64 v.v0,int i64 v.v1,int i64 v.v2,int i64 v.v3]
def qsy (W:WoS) (k:Nat):WoS:=setSite W k {W.S k with l:=qfr (qa6 (swV W k W.c).v0 (W.S k).a0) (qa6 (swV W k W.c).v1 (W.S k).a1) (qa6 (swV W k W.c).v2 (W.S k).a2) (qa6 (swV W k W.c).v3 (W.S k).a3) (W.S k).l}
variable {b:Nat}
theorem qo8 {W:World} {a c d e:Int} (h:qag W b [int i64 a,int i64 c,int i64 d,int i64 e]) (x0 x1 x2 x3:Int):qag ((((W.setCell ⟨b,0,none⟩ (int i64 x0)).setCell ⟨b,1,none⟩ (int i64 x1)).setCell ⟨b,2,none⟩ (int i64 x2)).setCell ⟨b,3,none⟩ (int i64 x3)) b (v4C ⟨x0,x1,x2,x3⟩):=
 (((h.set 0 _ (by simp)).set 1 _ (by simp)).set 2 _ (by simp)).set 3 _ (by simp)
theorem q7x {G:Nat->Prop} {W:WoS} (w:World) (h:PW w b G W) (O:WfW W) {i:Nat} (hi:i<W.n):
 Calls Tryz.prog 115 #[.pointer (some ⟨b,0,none⟩),int i64 i] w λe w'=>e=.returned (qbq 0)/\qd8 w b G (qsy W i) w':=by
 obtain⟨M,Gs,h,hG⟩:=h;have d:Hid (PWo w b M W Gs/\(∀k,G k↔ql7 b M (W.n+W.c) Gs k)/\WfW W/\i<W.n):=⟨h,hG,O,hi⟩;obtain⟨pb,pc,c0,hpc,hpb,y0,y1⟩:=h.place hi;have hlt:=h.box.lt;have IS:=qbh (k:=i) (v:=true) w c0 (by simp;omega);have ST:=qv9 (W.n:Int) w (h.site hi)
 have q1:(i:Int)<(W.n:Int):=by omega
 have HC6:Hid _:=O.c6;clear h hG O;go_enter Tryz.func115,Tryz.ntmps115
 go_wp2_with fail
 refine IS.mono ?_;rintro e w2 ⟨rfl,hw2⟩;have hw3:=hw2.symm;clear hw2 IS;subst hw3
 go_wp2_with fail
 refine ST.mono ?_;rintro e o ⟨rfl,P⟩;obtain⟨V,Q⟩:∃V,qap (W.S i) (qdo W.n)=V:=⟨_,rfl⟩;rw[Q];have bz:=boxed (Below.refl _ o) (.cells #[int i64 V.v0,int i64 V.v1,int i64 V.v2,int i64 V.v3] 77);have E:=qag.new (w:=o) (T:=77) [int i64 V.v0,int i64 V.v1,int i64 V.v2,int i64 V.v3] rfl;change qag (o.alloc (.cells #[int i64 V.v0,int i64 V.v1,int i64 V.v2,int i64 V.v3] 77)) o.heap.size [int i64 V.v0,int i64 V.v1,int i64 V.v2,int i64 V.v3]at E;have F:=qab P bz;obtain⟨ca,cc,hcv,r⟩:=qai d.out.1.cr;have c1:=cell_later F (d.out.1.box.cell 1 _ rfl);rw[hcv]at c1;have hlt4:b<(o.alloc (.cells #[int i64 V.v0,int i64 V.v1,int i64 V.v2,int i64 V.v3] 77)).heap.size:=Nat.lt_of_lt_of_le hlt F.size;have hrl:=r.len;have HR:Hid _:=r;have HV:Hid _:=Q;clear ST c0 y0 y1 r hcv Q
 go_wp2_with fail
 obtain⟨H,hw4⟩:∃H,o.alloc (.cells #[int i64 V.v0,int i64 V.v1,int i64 V.v2,int i64 V.v3] 77)=H:=⟨_,rfl⟩;rw[hw4]at E F ⊢;obtain⟨l,R⟩:∃l,o.heap.size=l:=⟨_,rfl⟩
 have hvw:w.heap.size<=l:=by rw[<-R];exact P.size
 rw[R]at E ⊢;have U:Hid (qag H l (v4C (swV W i 0))/\Below w.heap.size w H/\w.heap.size<=l):=⟨by show qag H l (v4C (qap (W.S i) (qdo W.n)));rw[HV.out];exact E,F,hvw⟩;clear hw4 R bz E P c1 hlt4 F
 go_loopw [34] (λiv wr=>∃(j:Nat) (z:Int),j<=W.c/\z=j/\iv=int i64 z/\Hid (qag wr l (v4C (swV W i j))/\Below w.heap.size w wr)) (λiv _=>W.c-(intOf iv).toNat)
 case atStart=>exact⟨0,0,by omega,rfl,rfl,U.out.1,U.out.2.1⟩
 case round=>
  obtain⟨j,z,hj,X,rfl,p⟩:=hrel;have x:Hid _:=X;by_cases I:j<W.c
  ·have g1:z<(W.c:Int):=by omega
   have g2:z.toNat=j:=by omega
   have g3:0<=z:=by omega
   have g4:z<6:=by have:=HC6.out;omega
   clear X
   obtain⟨cb,hca,hcb,Y⟩:∃g,ca=some ⟨g,0,none⟩/\g<w.heap.size/\∀j u,(qc2 M.bs (λk=>(W.at_ k:Int)) W.c)[j]?=some u->w.cell? ⟨g,j,none⟩=some u:=by
        rcases HR.out.held with h0|h0
        ·omega
        ·exact h0
   subst hca;have x0:=cell_later p.out.2 (Y _ _ (qf5 I).1);have x1o:=cell_later p.out.2 (Y _ _ (qf5 I).2);obtain⟨a,Z⟩:∃a:Int,(W.at_ j:Int)=a:=⟨_,rfl⟩
   have x1:wr.cell? ⟨cb,j*2+1,none⟩=some (int i64 a):=by rw[<-Z];exact x1o
   have HAJ:Hid _:=Z;clear Z x1o;have bx:=boxed (Below.refl _ wr) (.cells #[.pointer (some ⟨M.bs j,0,none⟩),int i64 a] 171);have hbx:=qab p.out.2 bx;have y:=qou _ ((d.out.1.sess I).later hbx);have RB:=p.out.1.later bx;have s:Hid (qag (wr.alloc (.cells #[.pointer (some ⟨M.bs j,0,none⟩),int i64 a] 171)) l (v4C (swV W i j))/\Below w.heap.size w (wr.alloc (.cells #[.pointer (some ⟨M.bs j,0,none⟩),int i64 a] 171))/\qag (wr.alloc (.cells #[.pointer (some ⟨M.bs j,0,none⟩),int i64 a] 171)) wr.heap.size [.pointer (some ⟨M.bs j,0,none⟩),int i64 a]):=⟨RB,hbx,qag.new (w:=wr) (T:=171) [.pointer (some ⟨M.bs j,0,none⟩),int i64 a] rfl⟩;clear Y RB;by_cases J:a=(i:Int)
   ·subst J
    have HAI:Hid (W.at_ j=i):=by have:=HAJ.out;show _=_;omega
    cases ho:(W.ses j).opn
    ·have B:Hid (swV W i (j+1)=swV W i j):=if_neg (λq=>by rw[ho]at q;cases q.2);rw[ho]at y;clear ho
     go_wp2_with fail
     refine y.mono ?_;rintro e m ⟨rfl,C⟩
     go_wp2_with fail
     go_roundw
     case rel=>exact⟨j+1,z+1,by omega,by have:=x.out;omega,by go_num,by rw[B.out];exact s.out.1.later C,qab s.out.2.1 C⟩
     case measure=>simp[intOf];have:=x.out;omega
    ·have B:Hid (swV W i (j+1)=⟨qa6 (swV W i j).v0 (W.ses j).s0,qa6 (swV W i j).v1 (W.ses j).s1,qa6 (swV W i j).v2 (W.ses j).s2,qa6 (swV W i j).v3 (W.ses j).s3⟩):=if_pos ⟨HAI.out,ho⟩;rw[ho]at y;clear ho
     go_wp2_with fail
     refine y.mono ?_;rintro e m ⟨rfl,C⟩;obtain⟨v,hv⟩:∃v,swV W i j=v:=⟨_,rfl⟩
     have K:qag m l [int i64 v.v0,int i64 v.v1,int i64 v.v2,int i64 v.v3]:=by have:=s.out.1.later C;rw[hv]at this;exact this
     have L:=s.out.2.2.later C;have hbw5:=qab s.out.2.1 C;have SN:Hid (Calls Tryz.prog 148 #[.pointer (some ⟨M.bs j,0,none⟩)] m.drew λe w''=>e=.returned (.agg #[int i64 (W.ses j).s0,int i64 (W.ses j).s1,int i64 (W.ses j).s2,int i64 (W.ses j).s3])/\Below m.drew.heap.size m.drew w''):=qtg _ ((d.out.1.sess I).later hbw5.drew);have MI:Hid (∀w',Calls Tryz.prog 163 #[.agg #[int i64 v.v0,int i64 v.v1,int i64 v.v2,int i64 v.v3],.agg #[int i64 (W.ses j).s0,int i64 (W.ses j).s1,int i64 (W.ses j).s2,int i64 (W.ses j).s3]] w' λe w''=>e=.returned (.agg #[int i64 (qa6 v.v0 (W.ses j).s0),int i64 (qa6 v.v1 (W.ses j).s1),int i64 (qa6 v.v2 (W.ses j).s2),int i64 (qa6 v.v3 (W.ses j).s3)])/\Below w'.heap.size w' w''):=λw'=>qr4 _ _ _ _ _ _ _ _ w';rw[hv]at B;have HF:Hid (qag m l [int i64 v.v0,int i64 v.v1,int i64 v.v2,int i64 v.v3]/\Below w.heap.size w m/\qag m wr.heap.size [.pointer (some ⟨M.bs j,0,none⟩),int i64 i]):=⟨K,hbw5,L⟩;obtain⟨a0,a1,a2,a3⟩:=K.c4;have k0:=L.cell 0 _ rfl;have lv:=K.lt;have lc:=L.lt;clear y K L x0 x1 hv bx hbx
     go_wp2_with fail
     go_region_law (first
      |(refine qcn rfl 148 rfl #[.pointer (some ⟨M.bs j,0,none⟩)] (by go_simp) SN.out ?_
        rintro e w6 ⟨rfl,hb6⟩;refine⟨_,rfl,?_⟩;have N:=HF.out.1.later (qab (Below.refl _ m).drew hb6);have b0:=N.cell 0 _ rfl;have b1:=N.cell 1 _ rfl;have b2:=N.cell 2 _ rfl
        have b3:=N.cell 3 _ rfl)
      |(refine qcn rfl 163 rfl #[.agg #[int i64 v.v0,int i64 v.v1,int i64 v.v2,int i64 v.v3],.agg #[int i64 (W.ses j).s0,int i64 (W.ses j).s1,int i64 (W.ses j).s2,int i64 (W.ses j).s3]] (by go_simp) (MI.out w6) ?_
        rintro e w7 ⟨rfl,hb7⟩;refine⟨_,rfl,?_⟩;have hb57:=qab (qab (Below.refl _ m).drew hb6) hb7;have D:=HF.out.1.later hb57;obtain⟨d0,d1,d2,d3⟩:=D.c4;have f0:=D.free 0 (by simp);have f1:=D.free 1 (by simp);have f2:=D.free 2 (by simp)
        have f3:=D.free 3 (by simp)))
     all_goals
      go_wp2_with fail
      go_roundw
      case rel=>exact⟨j+1,z+1,by omega,by have:=x.out;omega,by go_num,by rw[B.out];exact qo8 D _ _ _ _,qge (qab HF.out.2.1 hb57) U.out.2.2 _ _ _ _⟩
      case measure=>simp[intOf];have:=x.out;omega
   ·have B:Hid (swV W i (j+1)=swV W i j):=if_neg (λq=>J (by have:=HAJ.out;have:=q.1;omega))
    have hq1:(a==(i:Int))=false:=by simp[J]
    have hq2:decide (a=(i:Int))=false:=decide_eq_false J;clear y
    go_wp2_with fail
    go_roundw
    case rel=>exact⟨j+1,z+1,by omega,by have:=x.out;omega,by go_num,by rw[B.out];exact s.out.1,s.out.2.1⟩
    case measure=>simp[intOf];have:=x.out;omega
  ·have g1:¬z<(W.c:Int):=by omega
   have e:j=W.c:=by omega
   subst e;have R9:=p.out.1;have H9:=d.out.1.later p.out.2;have SW:=qy1 (swV W i W.c).v0 (swV W i W.c).v1 (swV W i W.c).v2 (swV W i W.c).v3 wr (H9.site d.out.2.2.2) (d.out.2.2.1.inv i d.out.2.2.2);obtain⟨z0,z1,z2,z3⟩:=R9.c4;clear X R9
   go_wp2_with fail
   refine SW.mono ?_;rintro e w9 ⟨rfl,hp⟩
   go_wp2_with fail
   go_ret;exact⟨rfl,qd8.from p.out.2 (H9.stepS d.out.2.1 d.out.2.2.2 hp)⟩
end
section
variable {S:qaf}
theorem qjy {now d0 d1 d2 d3:Int} {ws:List Wr} (a:qcx S) (c:qnc S now d0 d1 d2 d3 ws=0):okT (qcd S now d0 d1 d2 d3 ws)=true:=by
 obtain⟨d,z2,z3,z4,z5⟩:=qjh c;obtain⟨n1,n2,n3⟩:=q8b z5;have h:=a.own
 have l:q1q S S.id<=200:=by have:=a.log;show qaq S.id _ _ _ _<=200;omega
 have e:0<=q1q S S.id:=(a.dep S.id).1
 have f:qay (qh4 S.id (q1q S S.id) d0) (qhq S.id (q1q S S.id) d1) (qhs S.id (q1q S S.id) d2) (qh6 S.id (q1q S S.id) d3)=true:=by
  have b:qal (q1q S S.id)=true:=qh7 e (by omega);simp only[qay,Bool.and_eq_true]at z2 ⊢;refine⟨⟨⟨?_,?_⟩,?_⟩,?_⟩
  ·unfold qh4;split;exact b;exact z2.1.1.1
  ·unfold qhq;split;exact b;exact z2.1.1.2
  ·unfold qhs;split;exact b;exact z2.1.2
  ·unfold qh6;split;exact b;exact z2.2
 show qdf S.id (q1q S S.id+1) (qfp S.lw S.lc now).1 (qfp S.lw S.lc now).2.1 (qh4 S.id (q1q S S.id) d0) (qhq S.id (q1q S S.id) d1) (qhs S.id (q1q S S.id) d2) (qh6 S.id (q1q S S.id) d3) ws=true;unfold qdf;simp only[Bool.and_eq_true,qa5,decide_eq_true_eq];refine⟨⟨⟨⟨⟨⟨a.id0,a.id3⟩,⟨by omega,by omega⟩⟩,⟨n1,n2⟩⟩,f⟩,?_⟩,d⟩;rw[q15 _ _ _ _ _ _ S.id a.id0 a.id3,if_pos rfl];omega
variable {s:qbn}
theorem qzy {now:Int} (h:0<(qe7 S s now).seq):qnc S now s.s0 s.s1 s.s2 s.s3 (qb6 s.ws)=0/\qe7 S s now=qcd S now s.s0 s.s1 s.s2 s.s3 (qb6 s.ws):=by
 unfold qe7 at h ⊢;by_cases q:s.opn=false\/(qb6 s.ws).length=0
 ·rw[if_pos q]at h;exact absurd h (by decide)
 ·rw[if_neg q]at h ⊢;unfold qo6 at h ⊢;by_cases e:qnc S now s.s0 s.s1 s.s2 s.s3 (qb6 s.ws)=0
  ·rw[if_pos e];exact⟨e,rfl⟩
  ·rw[if_neg e]at h;exact absurd h (by decide)
theorem qmc {a b:Int} (h:0<=a):0<=qb9 a b:=by unfold qb9;split<;>omega
theorem jam {now:Int} (h:0<=s.p0):0<=(qbe S s now).p0:=by
 unfold qbe;split
 ·exact h
 ·split
  ·exact qmc h
  ·show 0<=(if _ then qb9 (qb9 s.p0 s.s0) _ else qb9 s.p0 s.s0);split
   ·exact qmc (qmc h)
   ·exact qmc h
theorem q22 {now:Int} (a:qcx S) (h:∀x∈S.log,okT x=true):(∀x∈(qe9 S s now).log,okT x=true)/\(qe9 S s now).id=S.id/\(qe9 S s now).waits=S.waits:=by
 unfold qe9;split
 ·exact⟨h,rfl,rfl⟩
 ·unfold qmt;split
  ·rename_i e;refine⟨λx b=>?_,rfl,rfl⟩;rcases List.mem_append.1 (show x∈S.log++[_]from b)with q|q
   ·exact h x q
   ·rw[List.mem_singleton.1 q];exact qjy a e
  ·exact⟨h,rfl,rfl⟩
structure PlI (j:Nat) (W:WoS):Prop where
 wf:WfW W
 nt:qk8 W
 ps:∀k,k<W.c->0<=(W.ses k).p0
 wl:∀i,i<W.n->0<=W.wall i/\W.wall i<=1099511627776
 ln:∀k,k<W.c->(W.ses k).ws.length<=j
section
variable {W W':WoS} {g:GrS} {k i j:Nat}
theorem PlI.mono (h:PlI j W) {m:Nat} (a:j<=m):PlI m W:=⟨h.wf,h.nt,h.ps,h.wl,λk b=>Nat.le_trans (h.ln k b) a⟩
theorem PlI.new {n c:Nat} (b:1<=n) (d:n<=4) (e:c<=6):PlI 0 (qhk n c):=
 ⟨⟨b,d,e,λk _=>(show (0:Nat)<n by omega),λi hi=>qcx.new (show (0:Int)<=(i:Int) by omega) (show (i:Int)<=3 by have:i<n:=hi;omega),λi _=>rfl,(Nat.zero_le _:0<=300),λi _=>(Nat.zero_le _:0<=40),λi _ x f=>(by cases f),λg a=>(by cases a)⟩,λg a=>(by cases a),λk _=>(Int.le_refl 0),λi _=>⟨Int.le_refl 0,(by show (0:Int)<=_;decide)⟩,λk _=>Nat.le_refl 0⟩
theorem PlI.keep (h:PlI j W) (a:WfW W') (b:qk8 W') (k:qix W W'):PlI j W':=⟨a,b,by rw[k.c,k.ses];exact h.ps,by rw[k.n,k.wall];exact h.wl,by rw[k.c,k.ses];exact h.ln⟩
theorem WfW.sessions (h:WfW W) (f:Nat->qbn):WfW {W with ses:=f}:=⟨h.n1,h.n4,h.c6,h.at_,h.inv,h.id,h.net,h.wt,h.lok,h.to⟩
theorem PlI.ses (h:PlI j W) {a:qbn} (b:0<=a.p0) (c:a.ws.length<=j):PlI j (qb1 W k a):=by
 refine⟨h.wf.sessions _,h.nt,λi hi=>?_,h.wl,λi hi=>?_⟩<;>show (_:Prop)<;>by_cases q:i=k
 ·show 0<=(qcg W.ses k a i).p0;rw[q,qam];exact b
 ·show 0<=(qcg W.ses k a i).p0;rw[qby _ _ q];exact h.ps i hi
 ·show (qcg W.ses k a i).ws.length<=j;rw[q,qam];exact c
 ·show (qcg W.ses k a i).ws.length<=j;rw[qby _ _ q];exact h.ln i hi
theorem PlI.begin (h:PlI j W) (a:k<W.c):PlI j (qb1 W k (qpb (W.S (W.at_ k)) (W.ses k))):=by
 unfold qpb;split
 ·exact h.ses (h.ps k a) (Nat.zero_le _)
 ·exact h.ses (h.ps k a) (h.ln k a)
theorem PlI.write (h:PlI j W) (a:k<W.c) (x:Wr):PlI (j+1) (qb1 W k (qlk (W.ses k) x)):=by
 have:=h.ln k a;unfold qlk;split
 ·exact(h.mono (Nat.le_succ j)).ses (h.ps k a) (by simp;omega)
 ·exact(h.mono (Nat.le_succ j)).ses (h.ps k a) (by omega)
theorem PlI.abort (h:PlI j W) (a:k<W.c):PlI j (qb1 W k (qpr (W.ses k))):=by
 unfold qpr;split
 ·exact h.ses (h.ps k a) (h.ln k a)
 ·exact h.ses (qmc (h.ps k a)) (Nat.zero_le _)
theorem q7m {now:Int}:(qbe S s now).ws.length<=s.ws.length:=by
 unfold qbe;split
 ·exact Nat.le_refl _
 ·split
  ·exact Nat.zero_le _
  ·exact Nat.zero_le _
theorem PlI.told (h:PlI j W) (b:k<W.c) (d:0<(wcT W k).seq):okT (wcT W k)=true/\(wcT W k).site=(W.at_ k:Int):=by
 have a:=h.wf.at_ k b;obtain⟨f,l⟩:=qzy d;have e:wcT W k=_:=l;rw[e];exact⟨qjy (h.wf.inv _ a) f,h.wf.id _ a⟩
theorem PlI.commit (h:PlI j W) (b:k<W.c):PlI j (wcW W k):=by
 have a:=h.wf.at_ k b;have d:=q22 (s:=W.ses k) (now:=W.wall (W.at_ k)) (h.wf.inv _ a) (h.wf.lok _ a);have w0:WfW (setSite W (W.at_ k) (qe9 (W.S (W.at_ k)) (W.ses k) (W.wall (W.at_ k)))):=h.wf.setSite (h.wf.inv _ a).scom (d.2.1.trans (h.wf.id _ a)) (by rw[d.2.2];exact h.wf.wt _ a) d.1;have p0:PlI j (setSite W (W.at_ k) (qe9 (W.S (W.at_ k)) (W.ses k) (W.wall (W.at_ k)))):=⟨w0,h.nt,h.ps,h.wl,h.ln⟩;have p1:PlI j (qkv W k):=p0.ses (jam (h.ps k b)) (Nat.le_trans q7m (h.ln k b));unfold wcW;split
 ·rename_i q;exact p1.keep (WfW.tell _ _ p1.wf (Nat.le_refl _)) (p1.nt.tell (h.told b q).1 _) (qce _ _ _).keep
 ·exact p1
theorem PlI.move (h:PlI j W) {to:Nat} (a:to<W.n):PlI j (qm1 W k to):=by
 unfold qm1;split
 ·exact h
 ·refine⟨⟨h.wf.n1,h.wf.n4,h.wf.c6,λi hi=>?_,h.wf.inv,h.wf.id,h.wf.net,h.wf.wt,h.wf.lok,h.wf.to⟩,h.nt,h.ps,h.wl,h.ln⟩;show qcg W.at_ k to i<W.n;by_cases q:i=k
  ·rw[q,qam];exact a
  ·rw[qby _ _ q];exact h.wf.at_ i hi
theorem PlI.goes (h:PlI j W) {y:Int} (b:0<=y) (hi:i<W.n):PlI j (qtz W i y):=by
 refine⟨⟨h.wf.n1,h.wf.n4,h.wf.c6,h.wf.at_,h.wf.inv,h.wf.id,h.wf.net,h.wf.wt,h.wf.lok,h.wf.to⟩,h.nt,h.ps,λm a=>?_,h.ln⟩;show 0<=qcg W.wall i (qwi (W.wall i+y)) m/\qcg W.wall i (qwi (W.wall i+y)) m<=_;by_cases q:m=i
 ·rw[q,qam];have:=h.wl i hi;unfold qwi
  split<;>omega
 ·rw[qby _ _ q];exact h.wl m a
theorem PlI.send (h:PlI j W) (a:g.to<W.n) (b:jcz W.n g):PlI j (qdd W g):=h.keep (h.wf.send a) (h.nt.send b) (qbk _ _).keep
theorem PlI.deliver (h:PlI j W) (a:qcj W i W'):PlI j W':=h.keep (h.wf.deliver a) (h.nt.deliver h.wf a) a.keep
theorem PlI.drop (h:PlI j W) (i:Nat):PlI j (qdh W i):=⟨h.wf.drop i,h.nt.drop i,h.ps,h.wl,h.ln⟩
theorem PlI.sweep (h:PlI j W) (hi:i<W.n):PlI j (qsy W i):=⟨h.wf.setSite ((h.wf.inv i hi).swept _ _ _ _) (h.wf.id i hi) (h.wf.wt i hi) (h.wf.lok i hi),h.nt,h.ps,h.wl,h.ln⟩
end
end
section
open Go.Value Go.IntKind
theorem qko {tmps:Array Value} {w:World} {a c:Nat} {p0 p1 p2 p3 s0 s1 s2 s3:Int} {v4 d e:Value} (g:qag w a [int i64 p0,int i64 p1,int i64 p2,int i64 p3]) (h:qag w c [int i64 s0,int i64 s1,int i64 s2,int i64 s3]) (t4:tmps[4]?=some v4) (t5:tmps[5]?=some (.pointer (some ⟨a,0,none⟩))) (i:tmps[6]?=some (.pointer (some ⟨c,0,none⟩))) (j:tmps[7]?=some d) (k:tmps[8]?=some e):
 (results Tryz.f101 tmps).run Tryz.prog w=.ok (.tuple #[v4,.agg #[int i64 p0,int i64 p1,int i64 p2,int i64 p3],.agg #[int i64 s0,int i64 s1,int i64 s2,int i64 s3],d,e]) w:=by
 obtain⟨z0,l,z2,z3⟩:=g.c4;obtain⟨m,n,o,p⟩:=h.c4;simp[results,Tryz.results101,go_sem,t4,t5,i,j,k,z0,l,z2,z3,m,n,o,p]
variable {W:World} {b:Nat} {xs:List Value}
theorem qyn (h:qag W b xs) (e:xs.length=4) (x0 x1 x2 x3:Int):qag ((((W.setCell ⟨b,0,none⟩ (int i64 x0)).setCell ⟨b,1,none⟩ (int i64 x1)).setCell ⟨b,2,none⟩ (int i64 x2)).setCell ⟨b,3,none⟩ (int i64 x3)) b [int i64 x0,int i64 x1,int i64 x2,int i64 x3]:=by
 obtain⟨a,f,c,d,rfl⟩:∃a b c d,xs=[a,b,c,d]:=by
  match xs,e with
  |[a,b,c,d],_=>exact⟨a,b,c,d,rfl⟩
 exact(((h.set 0 _ (by simp)).set 1 _ (by simp)).set 2 _ (by simp)).set 3 _ (by simp)
theorem qrw {q:Nat} (h:qag W b xs) (a:q≠b) (x0 x1 x2 x3:Int):qag ((((W.setCell ⟨q,0,none⟩ (int i64 x0)).setCell ⟨q,1,none⟩ (int i64 x1)).setCell ⟨q,2,none⟩ (int i64 x2)).setCell ⟨q,3,none⟩ (int i64 x3)) b xs:=
 (((h.far _ _ a).far _ _ a).far _ _ a).far _ _ a
theorem q2h {G:Nat->Prop} {W:WoS} (w:World) (h:PW w b G W) {i:Nat} (hi:i<W.c):
 Calls Tryz.prog 101 #[.pointer (some ⟨b,0,none⟩),int i64 i] w λe w'=>e=.returned (.tuple #[int i64 (W.at_ i),.agg #[int i64 (W.ses i).p0,int i64 (W.ses i).p1,int i64 (W.ses i).p2,int i64 (W.ses i).p3],.agg #[int i64 (W.ses i).s0,int i64 (W.ses i).s1,int i64 (W.ses i).s2,int i64 (W.ses i).s3],.bool (W.ses i).opn,.nilIface])/\Below w.heap.size w w':=by
 obtain⟨M,S,h,C⟩:=h;have m:=boxed (boxed (Below.refl _ w) (.cells #[int i64 0,int i64 0,int i64 0,int i64 0] 77)) (.cells #[int i64 0,int i64 0,int i64 0,int i64 0] 77);obtain⟨cb,U,c1,V,X,x0,x1⟩:=(h.later m).client hi;have p:=qbd (k:=i) (v:=true) _ c1 (by simp;omega);have j:=(boxed m (.cells #[.pointer (some ⟨M.bs i,0,none⟩),int i64 (W.at_ i)] 171)).drew;have D:Hid (∀w':World,Below w.heap.size w w'->Calls Tryz.prog 147 #[.pointer (some ⟨M.bs i,0,none⟩)] w' λe g=>e=.returned (.agg #[int i64 (W.ses i).p0,int i64 (W.ses i).p1,int i64 (W.ses i).p2,int i64 (W.ses i).p3])/\Below w'.heap.size w' g):=λw' hb=>q2l w' ((h.sess hi).later hb);have E:Hid (∀w':World,Below w.heap.size w w'->Calls Tryz.prog 148 #[.pointer (some ⟨M.bs i,0,none⟩)] w' λe g=>e=.returned (.agg #[int i64 (W.ses i).s0,int i64 (W.ses i).s1,int i64 (W.ses i).s2,int i64 (W.ses i).s3])/\Below w'.heap.size w' g):=λw' hb=>qtg w' ((h.sess hi).later hb);have F:Hid (∀w':World,Below w.heap.size w w'->Calls Tryz.prog 149 #[.pointer (some ⟨M.bs i,0,none⟩)] w' λe g=>e=.returned (.bool (W.ses i).opn)/\Below w'.heap.size w' g):=λw' hb=>qou w' ((h.sess hi).later hb);have r:qag ((w.alloc (.cells #[int i64 0,int i64 0,int i64 0,int i64 0] 77)).alloc (.cells #[int i64 0,int i64 0,int i64 0,int i64 0] 77)) w.heap.size [int i64 0,int i64 0,int i64 0,int i64 0]:=(qag.new (w:=w) (T:=77) [int i64 0,int i64 0,int i64 0,int i64 0] rfl).boxed _;have s:qag ((w.alloc (.cells #[int i64 0,int i64 0,int i64 0,int i64 0] 77)).alloc (.cells #[int i64 0,int i64 0,int i64 0,int i64 0] 77)) (w.heap.size+1) [int i64 0,int i64 0,int i64 0,int i64 0]:=qag.new (T:=77) [int i64 0,int i64 0,int i64 0,int i64 0] (by simp)
 have Y:(i:Int)<(W.c:Int):=by omega
 have Z:=(h.later m).box.lt;have u:Hid (qag ((w.alloc (.cells #[int i64 0,int i64 0,int i64 0,int i64 0] 77)).alloc (.cells #[int i64 0,int i64 0,int i64 0,int i64 0] 77)) w.heap.size [int i64 0,int i64 0,int i64 0,int i64 0]/\qag ((w.alloc (.cells #[int i64 0,int i64 0,int i64 0,int i64 0] 77)).alloc (.cells #[int i64 0,int i64 0,int i64 0,int i64 0] 77)) (w.heap.size+1) [int i64 0,int i64 0,int i64 0,int i64 0]):=⟨r,s⟩;have x:=(boxed (Below.refl _ ((w.alloc (.cells #[int i64 0,int i64 0,int i64 0,int i64 0] 77)).alloc (.cells #[int i64 0,int i64 0,int i64 0,int i64 0] 77))) (.cells #[.pointer (some ⟨M.bs i,0,none⟩),int i64 (W.at_ i)] 171)).drew;have y:qag (((w.alloc (.cells #[int i64 0,int i64 0,int i64 0,int i64 0] 77)).alloc (.cells #[int i64 0,int i64 0,int i64 0,int i64 0] 77)).alloc (.cells #[.pointer (some ⟨M.bs i,0,none⟩),int i64 (W.at_ i)] 171)).drew (w.heap.size+1+1) [.pointer (some ⟨M.bs i,0,none⟩),int i64 (W.at_ i)]:=(qag.new (T:=171) [.pointer (some ⟨M.bs i,0,none⟩),int i64 (W.at_ i)] (by simp)).drew;have H:(qag (((w.alloc (.cells #[int i64 0,int i64 0,int i64 0,int i64 0] 77)).alloc (.cells #[int i64 0,int i64 0,int i64 0,int i64 0] 77)).alloc (.cells #[.pointer (some ⟨M.bs i,0,none⟩),int i64 (W.at_ i)] 171)).drew (w.heap.size+1+1) [.pointer (some ⟨M.bs i,0,none⟩),int i64 (W.at_ i)]):=y;have Y0:=λ(w':World) (h:qag w' (w.heap.size+1+1) [.pointer (some ⟨M.bs i,0,none⟩),int i64 (W.at_ i)])=>h.cell 0 _ rfl;have Y1:=λ(w':World) (h:qag w' (w.heap.size+1+1) [.pointer (some ⟨M.bs i,0,none⟩),int i64 (W.at_ i)])=>h.cell 1 _ rfl;clear h C r s y;go_enter Tryz.func101,Tryz.ntmps101
 go_wp2_with fail
 refine p.mono ?_;rintro e w2 ⟨rfl,z⟩;have I:=z.symm;clear z p;subst I
 go_wp2_with fail
 go_region_held3 (λw'=>qag w' (w.heap.size+1+1) [.pointer (some ⟨M.bs i,0,none⟩),int i64 (W.at_ i)]) (first|with_reducible assumption|(with_reducible refine qrw ?_ (by omega) _ _ _ _;with_reducible assumption))
  (first
    |(go_at_call 147;(with_reducible refine(D.out _ j).mono ?_);rintro e w3 ⟨rfl,l⟩;have J:=H.later l)
    |(go_at_call 148;(with_reducible refine(E.out _ (qab j l)).mono ?_);rintro e w4 ⟨rfl,n⟩;have K:=J.later n)
    |(go_at_call 149;(with_reducible refine(F.out _ (qab (qab j l) n)).mono ?_);rintro e w5 ⟨rfl,B⟩;have C5:=K.later B;have o:=qab (qab l n) B;have a:=(u.out.1.later x).later o;have d:=(u.out.2.later x).later o;have a0:=a.cell 0 _ rfl;have a1:=a.cell 1 _ rfl;have a2:=a.cell 2 _ rfl;have a3:=a.cell 3 _ rfl;have f0:=a.free 0 (by simp);have f1:=a.free 1 (by simp);have f2:=a.free 2 (by simp);have f3:=a.free 3 (by simp);have d0:=d.cell 0 _ rfl;have d1:=d.cell 1 _ rfl;have d2:=d.cell 2 _ rfl;have d3:=d.cell 3 _ rfl;have e0:=d.free 0 (by simp);have e1:=d.free 1 (by simp);have e2:=d.free 2 (by simp);have e3:=d.free 3 (by simp);have L:=qab j o))
 all_goals
  go_wp2_with fail
  have N:=qyn a rfl (W.ses i).p0 (W.ses i).p1 (W.ses i).p2 (W.ses i).p3;have O:=qrw (q:=w.heap.size) d (by omega) (W.ses i).p0 (W.ses i).p1 (W.ses i).p2 (W.ses i).p3;have P:=qrw (q:=w.heap.size+1) N (by omega) (W.ses i).s0 (W.ses i).s1 (W.ses i).s2 (W.ses i).s3;have Q:=qyn O rfl (W.ses i).s0 (W.ses i).s1 (W.ses i).s2 (W.ses i).s3;have R:=qge (b:=w.heap.size+1) (qge (b:=w.heap.size) L (by omega) (W.ses i).p0 (W.ses i).p1 (W.ses i).p2 (W.ses i).p3) (by omega) (W.ses i).s0 (W.ses i).s1 (W.ses i).s2 (W.ses i).s3;refine bodyPost_ret (qko P Q rfl rfl rfl rfl rfl) rfl ⟨rfl,R⟩
end
section
abbrev bya (l:List UInt8):ByteArray:=⟨l.toArray⟩
def qh9 (s:ByteArray):Option Int:=
 match Lib.parseIntB 64 s.data.toList with
 |.ok v=>if bya (Lib.itoa v)=s then some v else none
 |_=>none
def qfo:List ByteArray->Option (List Int)
 |[]=>some []
 |s::l=>match qh9 s with
  |none=>none
  |some v=>match qfo l with
   |none=>none
   |some r=>some (v::r)
def qb5 (m:Nat) (l:List ByteArray):Option (List Int):=if l.length=m then qfo l else none
def qbc (l:List Int):List UInt8:=Lib.join (l.map Lib.itoa) [32]
abbrev qbt (k:Int) (n:Nat):Prop:=0<=k/\k<(n:Int)
def qi0:List (List UInt8):=[[97,98,111,114,116],[97,115,107],[98,101,103,105,110],[99,97,108,109],[99,108,105,101,110,116],[99,111,109,109,105,116],[100,101,108,105,118,101,114],[100,114,111,112],[103,111,101,115],[104,101,108,112],[108,111,115,101],[109,97,110,121],[109,111,118,101],[114,101,97,100],[115,105,116,101],[115,119,101,101,112],[116,119,105,99,101],[119,111,114,108,100],[119,114,105,116,101]]
def qaj (i:Nat):List UInt8:=qi0.getD i []
def qxc (i:Nat):Nat:=[1,2,1,0,1,1,1,2,2,0,1,0,2,2,1,1,1,2,2].getD i 0
def qji (W:WoS) (k:Nat):List UInt8:=if (wcT W k).seq=0 then [110,111,116,104,105,110,103]else qbc [(wcT W k).site,(wcT W k).seq,(wcT W k).wall,(wcT W k).count]++[58,32]++qbc [(wcT W k).d0,(wcT W k).d1,(wcT W k).d2,(wcT W k).d3]
def qv5 (W:WoS) (k:Nat):List UInt8:=qbc [(W.at_ k:Int)]++[44,32]++qbc [(W.ses k).p0,(W.ses k).p1,(W.ses k).p2,(W.ses k).p3]++if (W.ses k).opn=true then [44,32]++qbc [(W.ses k).s0,(W.ses k).s1,(W.ses k).s2,(W.ses k).s3]else []
def qej (S:qaf):List (List UInt8):=(List.range 8).map λ(i:Nat)=>(qhh S.a0 S.a1 S.a2 S.a3 S.l i).data.toList
def qn2 (S:qaf):List UInt8:=qbc [S.a0,S.a1,S.a2,S.a3]++[44,32]++qbc [(S.waits.length:Int),(S.l.length:Int)]++[44,32]++Lib.join (qej S) [32]
def qd3 (i:Nat) (W:WoS) (l:List Int) (d:ByteArray) (W':WoS) (er:Int) (told:List UInt8):Prop:=
 match i,l with
 |0,[k]=>told=qaj 0/\if qbt k W.c then W'=qb1 W k.toNat (qpr (W.ses k.toNat))/\er=qsu (W.ses k.toNat)else W'=W/\er=2
 |1,[k,o]=>told=qaj 1/\if qbt k W.n/\qbt o W.n/\k≠o then W'=qvm W k.toNat o.toNat/\er=0 else W'=W/\er=2
 |2,[k]=>told=qaj 2/\if qbt k W.c then W'=qb1 W k.toNat (qpb (W.S (W.at_ k.toNat)) (W.ses k.toNat))/\er=qps (W.S (W.at_ k.toNat)) (W.ses k.toNat)else W'=W/\er=2
 |3,[]=>told=qaj 3/\qkx W W'/\er=0
 |4,[k]=>W'=W/\if qbt k W.c then told=qv5 W k.toNat/\er=0 else told=[]/\er=2
 |5,[k]=>if qbt k W.c then told=qji W k.toNat/\W'=wcW W k.toNat/\er=wcE W k.toNat else told=[]/\W'=W/\er=2
 |6,[k]=>told=qaj 6/\if qbt k W.net.length then qcj W k.toNat W'/\er=0 else W'=W/\er=2
 |7,[k,key]=>told=qaj 7/\if qbt k W.c then W'=qb1 W k.toNat (qlk (W.ses k.toNat) ⟨key,⟨#[]⟩,true⟩)/\er=qf4 (W.ses k.toNat) ⟨key,⟨#[]⟩,true⟩else W'=W/\er=2
 |8,[k,y]=>told=qaj 8/\if qbt k W.n/\0<=y/\y<=1099511627776 then W'=qtz W k.toNat y/\er=0 else W'=W/\er=2
 |9,[]=>told=Lib.join qi0 [32]/\W'=W/\er=0
 |10,[k]=>told=qaj 10/\if qbt k W.net.length then W'=qdh W k.toNat/\er=0 else W'=W/\er=2
 |11,[]=>told=qbc [(W.net.length:Int),W.lost]/\W'=W/\er=0
 |12,[k,to]=>told=qaj 12/\if qbt k W.c/\qbt to W.n then W'=qm1 W k.toNat to.toNat/\er=qrt W k.toNat else W'=W/\er=2
 |13,[k,key]=>W'=W/\if qbt k W.c then told=[105,115,32]++(qb2 (W.S (W.at_ k.toNat)) (W.ses k.toNat) key).1.data.toList/\er=(qb2 (W.S (W.at_ k.toNat)) (W.ses k.toNat) key).2 else told=[]/\er=2
 |14,[k]=>W'=W/\if qbt k W.n then told=qn2 (W.S k.toNat)/\er=0 else told=[]/\er=2
 |15,[k]=>told=qaj 15/\if qbt k W.n then W'=qsy W k.toNat/\er=0 else W'=W/\er=2
 |16,[k]=>told=qaj 16/\if qbt k W.net.length then (∃g,W.net[k.toNat]?=some g/\W'=qdd W g)/\er=0 else W'=W/\er=2
 |17,[n,c]=>told=qaj 17/\if (1<=n/\n<=4)/\(0<=c/\c<=6)then W'=qhk n.toNat c.toNat/\er=0 else W'=W/\er=2
 |18,[k,key]=>told=qaj 18/\if qbt k W.c then W'=qb1 W k.toNat (qlk (W.ses k.toNat) ⟨key,d,false⟩)/\er=qf4 (W.ses k.toNat) ⟨key,d,false⟩else W'=W/\er=2
 |_,_=>False
def qj4 (i:Nat) (W:WoS) (rest:List ByteArray) (W':WoS) (er:Int) (told:List UInt8):Prop:=
 match (if i=18 then (if rest.length=3 then qb5 2 (rest.take 2)else none)else qb5 (qxc i) rest)with
 |none=>W'=W/\er=3/\told=[]
 |some l=>qd3 i W l (rest.getD 2 ⟨#[]⟩) W' er told
def qc3 (s:ByteArray):List ByteArray:=Lib.goFieldsP (λr=>decide (r=32)) s
def qpn (n:Int):List UInt8:=[101,114,114,111,114,32]++Lib.itoa n
def qee (W:WoS) (line:ByteArray) (W':WoS) (told:List UInt8):Prop:=
 match qc3 line with
 |[]=>W'=W/\told=[111,107]
 |x::rest=>match qi0.idxOf? x.data.toList with
  |none=>W'=W/\told=qpn 3
  |some i=>∃er t,qj4 i W rest W' er t/\told=if er=0 then t else qpn er
inductive qfm:WoS->List ByteArray->List UInt8->WoS->Prop
 |nil {W:WoS}:qfm W [] [] W
 |snoc {W W1 W2:WoS} {l:List ByteArray} {out told:List UInt8} {x:ByteArray}:qfm W l out W1->qee W1 x W2 told->qfm W (l++[x]) (out++told++[10]) W2
variable {i:Nat} {W A B:WoS} {e f:Int} {s t:List UInt8}
theorem qd3.det {l:List Int} {d:ByteArray} (h:qd3 i W l d A e s) (k:qd3 i W l d B f t):A=B/\e=f/\s=t:=by
 unfold qd3 at h k
 split at h<;>simp only at k
 case h_4=>exact⟨h.2.1.det k.2.1,h.2.2.trans k.2.2.symm,h.1.trans k.1.symm⟩
 case h_7=>
  refine(λ(x:A=B/\e=f)=>⟨x.1,x.2,h.1.trans k.1.symm⟩) ?_;replace h:=h.2;replace k:=k.2
  split at h<;>rename_i q
  ·rw[if_pos q]at k;exact⟨h.1.det k.1,h.2.trans k.2.symm⟩
  ·rw[if_neg q]at k;exact⟨h.1.trans k.1.symm,h.2.trans k.2.symm⟩
 case h_17=>
  refine(λ(x:A=B/\e=f)=>⟨x.1,x.2,h.1.trans k.1.symm⟩) ?_;replace h:=h.2;replace k:=k.2
  split at h<;>rename_i q
  ·rw[if_pos q]at k;obtain⟨⟨g,j,rfl⟩,b⟩:=h;obtain⟨⟨g',c,rfl⟩,a⟩:=k;rw[j]at c;injection c with c;rw[c,b,a];exact⟨rfl,rfl⟩
  ·rw[if_neg q]at k;exact⟨h.1.trans k.1.symm,h.2.trans k.2.symm⟩
 all_goals first
  |exact h.elim
  |(obtain⟨m,b⟩:=h;obtain⟨n,a⟩:=k;split at b<;>rename_i q<;>first|rw[if_pos q]at a|rw[if_neg q]at a)<;>simp only[m,n,b.1,b.2,a.1,a.2,and_self]
  |(split at h<;>rename_i q<;>first|rw[if_pos q]at k|rw[if_neg q]at k)<;>simp only[h.1,k.1,h.2.1,h.2.2,k.2.1,k.2.2,and_self]
  |simp only[h.1,k.1,h.2.1,h.2.2,k.2.1,k.2.2,and_self]
theorem qj4.det {rest:List ByteArray} (h:qj4 i W rest A e s) (k:qj4 i W rest B f t):A=B/\e=f/\s=t:=by
 unfold qj4 at h k
 split at h<;>rename_i q<;>rw[q]at k
 ·exact⟨h.1.trans k.1.symm,h.2.1.trans k.2.1.symm,h.2.2.trans k.2.2.symm⟩
 ·exact h.det k
theorem qee.det {a:ByteArray} (h:qee W a A s) (k:qee W a B t):A=B/\s=t:=by
 unfold qee at h k
 split at h<;>rename_i q<;>rw[q]at k
 ·exact⟨h.1.trans k.1.symm,h.2.trans k.2.symm⟩
 ·split at h<;>rename_i r<;>simp only[r]at k
  ·exact⟨h.1.trans k.1.symm,h.2.trans k.2.symm⟩
  ·obtain⟨e,x,b,rfl⟩:=h;obtain⟨f,y,c,rfl⟩:=k;obtain⟨rfl,rfl,rfl⟩:=b.det c;exact⟨rfl,rfl⟩
theorem qfm.det {l:List ByteArray} (h:qfm W l s A):∀{B:WoS},qfm W l t B->A=B/\s=t:=by
 induction h with
 |nil=>
  intro B t k
  generalize a:([]:List ByteArray)=l at k
  cases k with
  |nil=>exact⟨rfl,rfl⟩
  |snoc=>simp at a
 |@snoc W1 W2 l out told x h1 h2 ih=>
  intro B t k
  generalize a:l++[x]=m at k
  cases k with
  |nil=>simp at a
  |snoc k1 k2=>
   obtain⟨b,c⟩:=List.append_inj' a rfl;cases c;subst b;obtain⟨rfl,rfl⟩:=ih k1;obtain⟨rfl,rfl⟩:=h2.det k2;exact⟨rfl,rfl⟩
end
theorem qmd (a0 a1 a2 a3 a b c d:Int) (w:World):
 Calls Tryz.prog 77 #[.agg #[.int .i64 a0,.int .i64 a1,.int .i64 a2,.int .i64 a3],.agg #[.int .i64 a,.int .i64 b,.int .i64 c,.int .i64 d]] w λe w'=>e=.returned (.bool (qfu a0 a1 a2 a3 a b c d))/\Below w.heap.size w w':=by
 by_cases g:a0<a
 ·have e:qfu a0 a1 a2 a3 a b c d=false:=by simp[qfu];omega
  rw[e];clear e;go_enter Tryz.func77,Tryz.ntmps77
  go_wp2
  refine wp_loop_rounds 5 ?_;rw[rounds_succ]
  go_wp2
  go_quiet (fail)
  go_wp2
  go_ret;exact⟨rfl,by repeat (first|exact Below.refl _ _|apply qar|apply boxed)⟩
 by_cases h:a1<b
 ·have e:qfu a0 a1 a2 a3 a b c d=false:=by simp[qfu];omega
  rw[e];clear e;go_enter Tryz.func77,Tryz.ntmps77
  go_wp2
  refine wp_loop_rounds 5 ?_;rw[rounds_succ]
  go_wp2
  go_quiet (fail)
  go_wp2
  rw[rounds_succ]
  go_wp2
  go_quiet (fail)
  go_wp2
  go_ret;exact⟨rfl,by repeat (first|exact Below.refl _ _|apply qar|apply boxed)⟩
 by_cases i:a2<c
 ·have e:qfu a0 a1 a2 a3 a b c d=false:=by simp[qfu];omega
  rw[e];clear e;go_enter Tryz.func77,Tryz.ntmps77
  go_wp2
  refine wp_loop_rounds 5 ?_;rw[rounds_succ]
  go_wp2
  go_quiet (fail)
  go_wp2
  rw[rounds_succ]
  go_wp2
  go_quiet (fail)
  go_wp2
  rw[rounds_succ]
  go_wp2
  go_quiet (fail)
  go_wp2
  go_ret;exact⟨rfl,by repeat (first|exact Below.refl _ _|apply qar|apply boxed)⟩
 by_cases j:a3<d
 ·have e:qfu a0 a1 a2 a3 a b c d=false:=by simp[qfu];omega
  rw[e];clear e;go_enter Tryz.func77,Tryz.ntmps77
  go_wp2
  refine wp_loop_rounds 5 ?_;rw[rounds_succ]
  go_wp2
  go_quiet (fail)
  go_wp2
  rw[rounds_succ]
  go_wp2
  go_quiet (fail)
  go_wp2
  rw[rounds_succ]
  go_wp2
  go_quiet (fail)
  go_wp2
  rw[rounds_succ]
  go_wp2
  go_quiet (fail)
  go_wp2
  go_ret;exact⟨rfl,by repeat (first|exact Below.refl _ _|apply qar|apply boxed)⟩
 have e:qfu a0 a1 a2 a3 a b c d=true:=by simp[qfu];omega
 rw[e];clear e;go_enter Tryz.func77,Tryz.ntmps77
 go_wp2
 refine wp_loop_rounds 5 ?_;rw[rounds_succ]
 go_wp2
 go_quiet (fail)
 go_wp2
 rw[rounds_succ]
 go_wp2
 go_quiet (fail)
 go_wp2
 rw[rounds_succ]
 go_wp2
 go_quiet (fail)
 go_wp2
 rw[rounds_succ]
 go_wp2
 go_quiet (fail)
 go_wp2
 rw[rounds_succ]
 go_wp2
 go_ret;exact⟨rfl,by repeat (first|exact Below.refl _ _|apply qar|apply boxed)⟩
end Go.Proofs.YtoanjdndmlffdaaGreatDoor
