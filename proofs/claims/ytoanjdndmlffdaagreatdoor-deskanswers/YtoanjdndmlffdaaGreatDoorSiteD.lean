import Derived.Test.YtoanjdndmlffdaaGreatDoorSiteC
set_option maxHeartbeats 8000000
set_option maxRecDepth 100000
namespace Go.Proofs.YtoanjdndmlffdaaGreatDoor
open Go.RowKit
theorem qln (x y:Int) (w:World):
 Ca 220 #[U x,U y] w λe w'=>e=.returned (U (qm x y))/\w'=w:=by
 by_cases h:y<x
 ·rw[qj1 h];go_enter Tryz.func220,Tryz.ntmps220
  go_wp2
  go_ret;exact⟨rfl,rfl⟩
 rw[qjp h];go_enter Tryz.func220,Tryz.ntmps220
 go_wp2
 go_ret;exact⟨rfl,rfl⟩
theorem q7f (a0 a1 a2 a3 a b c d:Int) (w:World):
 Ca 219 #[.agg #[U a0,U a1,U a2,U a3],.agg #[U a,U b,U c,U d],.func (.func 220) #[] #[]] w (Rn (.agg #[U (qm a0 a),U (qm a1 b),U (qm a2 c),U (qm a3 d)]) w):=by
 go_enter Tryz.func219,Tryz.ntmps219
 go_wp2
 refine wp_loop_rounds 5 ?_;rw[rounds_succ]
 go_wp2
 go_region_held3 (λw'=>w'.cell? (AD w.heap.size 0)=some (U a0)/\w'.cell? (AD w.heap.size 1)=some (U a1)/\w'.cell? (AD w.heap.size 2)=some (U a2)/\w'.cell? (AD w.heap.size 3)=some (U a3)/\w'.cell? (AD (w.heap.size+1) 0)=some (U a)/\w'.cell? (AD (w.heap.size+1) 1)=some (U b)/\w'.cell? (AD (w.heap.size+1) 2)=some (U c)/\w'.cell? (AD (w.heap.size+1) 3)=some (U d)) (go_keep) ((go_at_call 220;refine(qln _ _ _).mono ?_;rintro e wc ⟨rfl,rfl⟩))
 go_wp2
 rw[rounds_succ]
 go_wp2
 go_region_held3 (λw'=>w'.cell? (AD w.heap.size 0)=some (U a0)/\w'.cell? (AD w.heap.size 1)=some (U a1)/\w'.cell? (AD w.heap.size 2)=some (U a2)/\w'.cell? (AD w.heap.size 3)=some (U a3)/\w'.cell? (AD (w.heap.size+1) 0)=some (U a)/\w'.cell? (AD (w.heap.size+1) 1)=some (U b)/\w'.cell? (AD (w.heap.size+1) 2)=some (U c)/\w'.cell? (AD (w.heap.size+1) 3)=some (U d)) (go_keep) ((go_at_call 220;refine(qln _ _ _).mono ?_;rintro e wc ⟨rfl,rfl⟩))
 go_wp2
 rw[rounds_succ]
 go_wp2
 go_region_held3 (λw'=>w'.cell? (AD w.heap.size 0)=some (U a0)/\w'.cell? (AD w.heap.size 1)=some (U a1)/\w'.cell? (AD w.heap.size 2)=some (U a2)/\w'.cell? (AD w.heap.size 3)=some (U a3)/\w'.cell? (AD (w.heap.size+1) 0)=some (U a)/\w'.cell? (AD (w.heap.size+1) 1)=some (U b)/\w'.cell? (AD (w.heap.size+1) 2)=some (U c)/\w'.cell? (AD (w.heap.size+1) 3)=some (U d)) (go_keep) ((go_at_call 220;refine(qln _ _ _).mono ?_;rintro e wc ⟨rfl,rfl⟩))
 go_wp2
 rw[rounds_succ]
 go_wp2
 go_region_held3 (λw'=>w'.cell? (AD w.heap.size 0)=some (U a0)/\w'.cell? (AD w.heap.size 1)=some (U a1)/\w'.cell? (AD w.heap.size 2)=some (U a2)/\w'.cell? (AD w.heap.size 3)=some (U a3)/\w'.cell? (AD (w.heap.size+1) 0)=some (U a)/\w'.cell? (AD (w.heap.size+1) 1)=some (U b)/\w'.cell? (AD (w.heap.size+1) 2)=some (U c)/\w'.cell? (AD (w.heap.size+1) 3)=some (U d)) (go_keep) ((go_at_call 220;refine(qln _ _ _).mono ?_;rintro e wc ⟨rfl,rfl⟩))
 go_wp2
 rw[rounds_succ]
 go_wp2
 exact bodyPost_ret (v:=.agg #[U (qm a0 a),U (qm a1 b),U (qm a2 c),U (qm a3 d)]) (by simp[results,Tryz.results219,go_sem]) rfl ⟨rfl,by repeat (first|exact jcc _ _|apply jc6|apply boxed)⟩
theorem qn5 (a0 a1 a2 a3 a b c d:Int) (w:World):
 Ca 163 #[.agg #[U a0,U a1,U a2,U a3],.agg #[U a,U b,U c,U d]] w (Rn (.agg #[U (qm a0 a),U (qm a1 b),U (qm a2 c),U (qm a3 d)]) w):=by
 go_enter Tryz.func163,Tryz.ntmps163
 go_wp2_with fail
 refine(q7f _ _ _ _ _ _ _ _ _).mono ?_;rintro e g ⟨rfl,f⟩;obtain⟨h,i⟩:=qdb f
 have j:w.heap.size+2<g.heap.size:=by have:=f.size;simp at this;omega
 go_wp2
 exact bodyPost_ret (v:=.agg #[U (qm a0 a),U (qm a1 b),U (qm a2 c),U (qm a3 d)]) (by simp[results,Tryz.results163,go_sem,h]) rfl ⟨rfl,((((qs1 f).setCell (by simp;omega) _).setCell (by simp;omega) _).setCell (by simp;omega) _).setCell (by simp;omega) _⟩
section
variable {S:qe} {lv:Value} {bm:Nat}
theorem qk1 {k:Nat} (a:k<4):(qab S lv bm)[9+k*4]?=some (U (S.oth (k*4)))/\(qab S lv bm)[9+k*4+1]?=some (U (S.oth (k*4+1)))/\(qab S lv bm)[9+k*4+2]?=some (U (S.oth (k*4+2)))/\(qab S lv bm)[9+k*4+3]?=some (U (S.oth (k*4+3))):=by
 match k,a with
 |0,_=>exact⟨rfl,rfl,rfl,rfl⟩
 |1,_=>exact⟨rfl,rfl,rfl,rfl⟩
 |2,_=>exact⟨rfl,rfl,rfl,rfl⟩
 |3,_=>exact⟨rfl,rfl,rfl,rfl⟩
variable {b:Nat} {F:Nat->Prop}
theorem q3g {log waits:List TxM} (a:Int) (w:World) (h:zf w b lv bm F S log waits) (h4:4<a):
 Ca 162 #[PP b,U a] w λe w'=>
  e=.returned (.agg #[U (qj S (jw a)).v0,U (qj S (jw a)).v1,U (qj S (jw a)).v2,U (qj S (jw a)).v3])/\Bw w w':=by
 have G:=(qo.new w 77 0 0 0 0).boxed (.cells #[U S.a0,U S.a1,U S.a2,U S.a3] 77);have H:=qo.newest (w:=w.alloc (.cells #[U 0,U 0,U 0,U 0] 77)) (T:=77) (n:=w.heap.size+1) (a0:=S.a0) (a1:=S.a1) (a2:=S.a2) (a3:=S.a3) (by simp);have I:=boxed (boxed (jcc _ w) (.cells #[U 0,U 0,U 0,U 0] 77)) (.cells #[U S.a0,U S.a1,U S.a2,U S.a3] 77);have J:=hd1 h;have K:=h.box.lt;have k1:=h.box.cell 1 _ rfl;have k2:=h.box.cell 2 _ rfl;have k3:=h.box.cell 3 _ rfl;have k4:=h.box.cell 4 _ rfl;go_enter Tryz.func162,Tryz.ntmps162
 go_wp2_with fail
 have s:Hid (StM w S 0 ((w.alloc (.cells #[U 0,U 0,U 0,U 0] 77)).alloc (.cells #[U S.a0,U S.a1,U S.a2,U S.a3] 77))):=⟨G,H,I⟩;obtain⟨W,L⟩:∃W,(w.alloc (.cells #[U 0,U 0,U 0,U 0] 77)).alloc (.cells #[U S.a0,U S.a1,U S.a2,U S.a3] 77)=W:=⟨_,rfl⟩;rw[L]at s ⊢
 go_loopw [13] (λiv wr=>∃(k:Nat) (z:Int),k<=(jw a)/\z=k/\iv=U z/\Hid (StM w S k wr)) (λi _=>4-(intOf i).toNat)
 case atStart=>exact⟨0,0,by omega,rfl,rfl,s⟩
 obtain⟨k,z,hk,M,rfl,c⟩:=hrel;have t:=hd1 M;have hcut:(jw a)=min 4 a.toNat:=rfl;by_cases K:k<(jw a)
 ·have h1:z<a:=by omega
  have N:z<4:=by omega
  have h5:0<=z:=by omega
  have h6:z.toNat=k:=by omega
  have O:k<4:=by omega
  have m:=J.out.later c.out.b;have i0:=m.box.cell 0 _ rfl;by_cases u:z=S.id
  ·have e:Hid (qj S (k+1)=qj S k):=by
        show qj S (k+1)=qj S k
        have:(k:Int)=S.id:=by omega
        simp[qj,this]
   have P:Hid (StM w S (k+1) wr):=⟨c.out.r,by rw[e.out];exact c.out.v,c.out.b⟩
   have Q:(z==S.id)=true:=by simp[u]
   go_wp2_with fail
   go_roundw
   case rel=>exact⟨k+1,z+1,by omega,by have:=t.out;omega,by go_num,P⟩
   simp[intOf];omega
  have Q:(z==S.id)=false:=by simp[u]
  obtain⟨R,V,X,Y⟩:=qk1 (S:=S) (lv:=lv) (bm:=bm) O;have Z:=m.box.cell _ _ R;have q1:=m.box.cell _ _ V;have q2:=m.box.cell _ _ X;have q3:=m.box.cell _ _ Y;obtain⟨⟨f,g,j,l⟩,y⟩:∃v,qj S k=v:=⟨_,rfl⟩;obtain⟨p0,B⟩:∃x,S.oth (k*4)=x:=⟨_,rfl⟩;obtain⟨p1,C⟩:∃x,S.oth (k*4+1)=x:=⟨_,rfl⟩;obtain⟨p2,D⟩:∃x,S.oth (k*4+2)=x:=⟨_,rfl⟩;obtain⟨p3,E⟩:∃x,S.oth (k*4+3)=x:=⟨_,rfl⟩
  have EQ:Hid (qj S (k+1)=⟨qm f p0,qm g p1,qm j p2,qm l p3⟩):=by
   show qj S (k+1)=_
   have:¬(k:Int)=S.id:=by omega
   simp[qj,this,y,B,C,D,E]
  rw[B]at Z;rw[C]at q1;rw[D]at q2;rw[E]at q3
  have o:qo wr (w.heap.size+1) f g j l:=by have:=c.out.v;rw[y]at this;exact this
  have x0:=o.c0;have x1:=o.c1;have x2:=o.c2;have x3:=o.c3
  have PU:Hid (Ca 163 #[.agg #[U f,U g,U j,U l],.agg #[U p0,U p1,U p2,U p3]] wr.drew λe w'=>e=.returned (.agg #[U (qm f p0),U (qm g p1),U (qm j p2),U (qm l p3)])/\qo w' w.heap.size 0 0 0 0/\qo w' (w.heap.size+1) f g j l/\Bw w w'):=
   (qn5 f g j l p0 p1 p2 p3 wr.drew).mono λe w' ⟨he,q⟩=>⟨he,qo.later q c.out.r.drew,qo.later q o.drew,qa c.out.b.drew q⟩
  have hB:w.heap.size<=w.heap.size+1:=by omega
  have hBB:=c.out.b.drew
  go_wp2_with fail
  go_region_with
   (first|(go_at_call 163;with_reducible refine PU.out.mono ?_;rintro e w5 ⟨rfl,RR5,d,hb5⟩;have y0:=d.c0;have y1:=d.c1;have y2:=d.c2;have y3:=d.c3;have z0:=d.f0;have z1:=d.f1;have z2:=d.f2;have z3:=d.f3))
  all_goals
   have SM:Hid (StM w S (k+1) ((((w5.setCell (AD (w.heap.size+1) 0) (U (qm f p0))).setCell (AD (w.heap.size+1) 1) (U (qm g p1))).setCell (AD (w.heap.size+1) 2) (U (qm j p2))).setCell (AD (w.heap.size+1) 3) (U (qm l p3)))):=
        ⟨RR5.far4 (by omega),by rw[EQ.out];exact d.set,qj9 hb5 hB _ _ _ _⟩
   go_wp2_with fail
   go_roundw
   case rel=>exact⟨k+1,z+1,by omega,by have:=t.out;omega,by go_num,SM⟩
   simp[intOf];omega
 have hke:k=(jw a):=by omega
 have N:¬z<4:=by omega
 subst hke;have r0:=c.out.r.c0;have r1:=c.out.r.c1;have r2:=c.out.r.c2;have r3:=c.out.r.c3;have f0:=c.out.r.f0;have f1:=c.out.r.f1;have f2:=c.out.r.f2;have f3:=c.out.r.f3;have x0:=c.out.v.c0;have x1:=c.out.v.c1;have x2:=c.out.v.c2;have x3:=c.out.v.c3;have p:=c.out.r.set (x0:=(qj S (jw a)).v0) (x1:=(qj S (jw a)).v1) (x2:=(qj S (jw a)).v2) (x3:=(qj S (jw a)).v3);have hbZ:=qj9 c.out.b (jcd _) (qj S (jw a)).v0 (qj S (jw a)).v1 (qj S (jw a)).v2 (qj S (jw a)).v3;have g0:=p.c0;have g1:=p.c1;have g2:=p.c2;have g3:=p.c3
 go_wp2_with fail
 exact bodyPost_ret (v:=.agg #[U (qj S (jw a)).v0,U (qj S (jw a)).v1,U (qj S (jw a)).v2,U (qj S (jw a)).v3]) (by simp[results,Tryz.results162,go_sem,g0,g1,g2,g3]) rfl ⟨rfl,hbZ⟩
theorem q21 {log waits:List TxM} (a:Int) (w:World) (h:zf w b lv bm F S log waits) (h4:¬4<a):
 Ca 162 #[PP b,U a] w λe w'=>
  e=.returned (.agg #[U (qj S (jw a)).v0,U (qj S (jw a)).v1,U (qj S (jw a)).v2,U (qj S (jw a)).v3])/\Bw w w':=by
 have G:=(qo.new w 77 0 0 0 0).boxed (.cells #[U S.a0,U S.a1,U S.a2,U S.a3] 77);have H:=qo.newest (w:=w.alloc (.cells #[U 0,U 0,U 0,U 0] 77)) (T:=77) (n:=w.heap.size+1) (a0:=S.a0) (a1:=S.a1) (a2:=S.a2) (a3:=S.a3) (by simp);have I:=boxed (boxed (jcc _ w) (.cells #[U 0,U 0,U 0,U 0] 77)) (.cells #[U S.a0,U S.a1,U S.a2,U S.a3] 77);have J:=hd1 h;have K:=h.box.lt;have k1:=h.box.cell 1 _ rfl;have k2:=h.box.cell 2 _ rfl;have k3:=h.box.cell 3 _ rfl;have k4:=h.box.cell 4 _ rfl;go_enter Tryz.func162,Tryz.ntmps162
 go_wp2_with fail
 have s:Hid (StM w S 0 ((w.alloc (.cells #[U 0,U 0,U 0,U 0] 77)).alloc (.cells #[U S.a0,U S.a1,U S.a2,U S.a3] 77))):=⟨G,H,I⟩;obtain⟨W,L⟩:∃W,(w.alloc (.cells #[U 0,U 0,U 0,U 0] 77)).alloc (.cells #[U S.a0,U S.a1,U S.a2,U S.a3] 77)=W:=⟨_,rfl⟩;rw[L]at s ⊢
 go_loopw [13] (λiv wr=>∃(k:Nat) (z:Int),k<=(jw a)/\z=k/\iv=U z/\Hid (StM w S k wr)) (λi _=>4-(intOf i).toNat)
 case atStart=>exact⟨0,0,by omega,rfl,rfl,s⟩
 obtain⟨k,z,hk,M,rfl,c⟩:=hrel;have t:=hd1 M;have hcut:(jw a)=min 4 a.toNat:=rfl;by_cases K:k<(jw a)
 ·have N:z<a:=by omega
  have h2:z<4:=by omega
  have h5:0<=z:=by omega
  have h6:z.toNat=k:=by omega
  have O:k<4:=by omega
  have m:=J.out.later c.out.b;have i0:=m.box.cell 0 _ rfl;by_cases u:z=S.id
  ·have e:Hid (qj S (k+1)=qj S k):=by
        show qj S (k+1)=qj S k
        have:(k:Int)=S.id:=by omega
        simp[qj,this]
   have P:Hid (StM w S (k+1) wr):=⟨c.out.r,by rw[e.out];exact c.out.v,c.out.b⟩
   have Q:(z==S.id)=true:=by simp[u]
   go_wp2_with fail
   go_roundw
   case rel=>exact⟨k+1,z+1,by omega,by have:=t.out;omega,by go_num,P⟩
   simp[intOf];omega
  have Q:(z==S.id)=false:=by simp[u]
  obtain⟨R,V,X,Y⟩:=qk1 (S:=S) (lv:=lv) (bm:=bm) O;have Z:=m.box.cell _ _ R;have q1:=m.box.cell _ _ V;have q2:=m.box.cell _ _ X;have q3:=m.box.cell _ _ Y;obtain⟨⟨f,g,j,l⟩,y⟩:∃v,qj S k=v:=⟨_,rfl⟩;obtain⟨p0,B⟩:∃x,S.oth (k*4)=x:=⟨_,rfl⟩;obtain⟨p1,C⟩:∃x,S.oth (k*4+1)=x:=⟨_,rfl⟩;obtain⟨p2,D⟩:∃x,S.oth (k*4+2)=x:=⟨_,rfl⟩;obtain⟨p3,E⟩:∃x,S.oth (k*4+3)=x:=⟨_,rfl⟩
  have EQ:Hid (qj S (k+1)=⟨qm f p0,qm g p1,qm j p2,qm l p3⟩):=by
   show qj S (k+1)=_
   have:¬(k:Int)=S.id:=by omega
   simp[qj,this,y,B,C,D,E]
  rw[B]at Z;rw[C]at q1;rw[D]at q2;rw[E]at q3
  have o:qo wr (w.heap.size+1) f g j l:=by have:=c.out.v;rw[y]at this;exact this
  have x0:=o.c0;have x1:=o.c1;have x2:=o.c2;have x3:=o.c3
  have PU:Hid (Ca 163 #[.agg #[U f,U g,U j,U l],.agg #[U p0,U p1,U p2,U p3]] wr.drew λe w'=>e=.returned (.agg #[U (qm f p0),U (qm g p1),U (qm j p2),U (qm l p3)])/\qo w' w.heap.size 0 0 0 0/\qo w' (w.heap.size+1) f g j l/\Bw w w'):=
   (qn5 f g j l p0 p1 p2 p3 wr.drew).mono λe w' ⟨he,q⟩=>⟨he,qo.later q c.out.r.drew,qo.later q o.drew,qa c.out.b.drew q⟩
  have hB:w.heap.size<=w.heap.size+1:=by omega
  have hBB:=c.out.b.drew
  go_wp2_with fail
  go_region_with
   (first|(go_at_call 163;with_reducible refine PU.out.mono ?_;rintro e w5 ⟨rfl,RR5,d,hb5⟩;have y0:=d.c0;have y1:=d.c1;have y2:=d.c2;have y3:=d.c3;have z0:=d.f0;have z1:=d.f1;have z2:=d.f2;have z3:=d.f3))
  all_goals
   have SM:Hid (StM w S (k+1) ((((w5.setCell (AD (w.heap.size+1) 0) (U (qm f p0))).setCell (AD (w.heap.size+1) 1) (U (qm g p1))).setCell (AD (w.heap.size+1) 2) (U (qm j p2))).setCell (AD (w.heap.size+1) 3) (U (qm l p3)))):=
        ⟨RR5.far4 (by omega),by rw[EQ.out];exact d.set,qj9 hb5 hB _ _ _ _⟩
   go_wp2_with fail
   go_roundw
   case rel=>exact⟨k+1,z+1,by omega,by have:=t.out;omega,by go_num,SM⟩
   simp[intOf];omega
 have hke:k=(jw a):=by omega
 have N:¬z<a:=by omega
 subst hke;have r0:=c.out.r.c0;have r1:=c.out.r.c1;have r2:=c.out.r.c2;have r3:=c.out.r.c3;have f0:=c.out.r.f0;have f1:=c.out.r.f1;have f2:=c.out.r.f2;have f3:=c.out.r.f3;have x0:=c.out.v.c0;have x1:=c.out.v.c1;have x2:=c.out.v.c2;have x3:=c.out.v.c3;have p:=c.out.r.set (x0:=(qj S (jw a)).v0) (x1:=(qj S (jw a)).v1) (x2:=(qj S (jw a)).v2) (x3:=(qj S (jw a)).v3);have hbZ:=qj9 c.out.b (jcd _) (qj S (jw a)).v0 (qj S (jw a)).v1 (qj S (jw a)).v2 (qj S (jw a)).v3;have g0:=p.c0;have g1:=p.c1;have g2:=p.c2;have g3:=p.c3
 go_wp2_with fail
 exact bodyPost_ret (v:=.agg #[U (qj S (jw a)).v0,U (qj S (jw a)).v1,U (qj S (jw a)).v2,U (qj S (jw a)).v3]) (by simp[results,Tryz.results162,go_sem,g0,g1,g2,g3]) rfl ⟨rfl,hbZ⟩
theorem qzh {log waits:List TxM} (a:Int) (w:World) (h:zf w b lv bm F S log waits):
 Ca 162 #[PP b,U a] w λe w'=>
  e=.returned (.agg #[U (qj S (jw a)).v0,U (qj S (jw a)).v1,U (qj S (jw a)).v2,U (qj S (jw a)).v3])/\Bw w w':=by
 by_cases c:4<a
 ·exact q3g a w h c
 exact q21 a w h c
end
section
variable {b:Nat} {S:qe}
theorem zf.know {w:World} {lv:Value} {bm:Nat} {F:Nat->Prop} {log waits:List TxM} (h:zf w b lv bm F S log waits) {k:Nat} (a:k<4) (x0 x1 x2 x3:Int):
 zf ((((w.setCell (AD b (9+k*4)) (U (jd (S.oth (k*4)) x0))).setCell (AD b (9+k*4+1)) (U (jd (S.oth (k*4+1)) x1))).setCell (AD b (9+k*4+2)) (U (jd (S.oth (k*4+2)) x2))).setCell (AD b (9+k*4+3)) (U (jd (S.oth (k*4+3)) x3))) b lv bm F (vp S k x0 x1 x2 x3) log waits:=by
 have a1:=h.cell (S':={S with oth:=λj=>if j=k*4 then jd (S.oth j) x0 else S.oth j}) (9+k*4) (U (jd (S.oth (k*4)) x0)) (by omega) (by match k,a with|0,_=>rfl|1,_=>rfl|2,_=>rfl|3,_=>rfl) rfl;have a2:=a1.cell (S':={S with oth:=λj=>if j=k*4 then jd (S.oth j) x0 else if j=k*4+1 then jd (S.oth j) x1 else S.oth j}) (9+k*4+1) (U (jd (S.oth (k*4+1)) x1)) (by omega) (by match k,a with|0,_=>rfl|1,_=>rfl|2,_=>rfl|3,_=>rfl) rfl;have a3:=a2.cell (S':={S with oth:=λj=>if j=k*4 then jd (S.oth j) x0 else if j=k*4+1 then jd (S.oth j) x1 else if j=k*4+2 then jd (S.oth j) x2 else S.oth j}) (9+k*4+2) (U (jd (S.oth (k*4+2)) x2)) (by omega) (by match k,a with|0,_=>rfl|1,_=>rfl|2,_=>rfl|3,_=>rfl) rfl;exact a3.cell (S':=vp S k x0 x1 x2 x3) (9+k*4+3) (U (jd (S.oth (k*4+3)) x3)) (by omega) (by match k,a with|0,_=>rfl|1,_=>rfl|2,_=>rfl|3,_=>rfl) rfl
theorem q3d {G:Nat->Prop} {n:Int} (J:0<=n) (K:n<4) (x0 x1 x2 x3:Int) (w:World) (h:PS w b G S):
 Ca 257 #[PP b,U n,.agg #[U x0,U x1,U x2,U x3]] w λe w'=>e=.returned (jc 0)/\PPo w b G (vp S n.toNat x0 x1 x2 x3) w':=by
 have L:=qp2 (n:=n) (v:=true) (by simp[J,K]) (w.alloc (.cells #[U x0,U x1,U x2,U x3] 77));have s:=boxed (jcc _ w) (.cells #[U x0,U x1,U x2,U x3] 77);have M:=qd.new (w:=w) (T:=77) [U x0,U x1,U x2,U x3] rfl;obtain⟨k,N⟩:∃k,n.toNat=k:=⟨_,rfl⟩
 have l:k<4:=by omega
 obtain⟨lv,bm,F,log,waits,t,O,P,u⟩:=h
 have y:Hid (∀W,Bw w W->∀W',W'=((((W.setCell (AD b (9+k*4)) (U (jd (S.oth (k*4)) x0))).setCell (AD b (9+k*4+1)) (U (jd (S.oth (k*4+1)) x1))).setCell (AD b (9+k*4+2)) (U (jd (S.oth (k*4+2)) x2))).setCell (AD b (9+k*4+3)) (U (jd (S.oth (k*4+3)) x3)))->PPo w b G (vp S n.toNat x0 x1 x2 x3) W'):=λW c W' e=>by
  rw[N];have z:=(t.later c).know l x0 x1 x2 x3;have d:=(u b).2 (.inl (.inl rfl))
  have Q:qc G W W':=by
   rw[e];exact(((qc.setCell W (AD b (9+k*4)) _ d).trans (qc.setCell _ (AD b (9+k*4+1)) _ d)).trans (qc.setCell _ (AD b (9+k*4+2)) _ d)).trans (qc.setCell _ (AD b (9+k*4+3)) _ d)
  rw[<-e]at z;exact⟨G,⟨lv,bm,F,log,waits,z,O,P,u⟩,λj m=>.inl m,(qc.ofBelow c).more Q (λj m=>.inl m)⟩
 obtain⟨o,p,q,r⟩:=qk1 (S:=S) (lv:=lv) (bm:=bm) l;have B:Hid (∀W,Bw w W->zf W b lv bm F S log waits):=λW c=>t.later c;obtain⟨p0,C⟩:∃x,S.oth (k*4)=x:=⟨_,rfl⟩;obtain⟨p1,D⟩:∃x,S.oth (k*4+1)=x:=⟨_,rfl⟩;obtain⟨p2,E⟩:∃x,S.oth (k*4+2)=x:=⟨_,rfl⟩;obtain⟨p3,H⟩:∃x,S.oth (k*4+3)=x:=⟨_,rfl⟩;rw[C]at o;rw[D]at p;rw[E]at q;rw[H]at r;rw[C,D,E,H]at y;have R:=s.drew;have V:Hid (Ca 240 #[.agg #[U p0,U p1,U p2,U p3],.agg #[U x0,U x1,U x2,U x3]] (w.alloc (.cells #[U x0,U x1,U x2,U x3] 77)).drew (Rn (.agg #[U (jd p0 x0),U (jd p1 x1),U (jd p2 x2),U (jd p3 x3)]) w)):=(qzz p0 p1 p2 p3 x0 x1 x2 x3 _).mono λe w' ⟨X,Y⟩=>⟨X,qa R Y⟩;have f:=(B.out _ s).box;have q0:=f.cell _ _ o;have q1:=f.cell _ _ p;have q2:=f.cell _ _ q;have q3:=f.cell _ _ r;obtain⟨r0,r1,r2,r3⟩:=M.c4;have g:=hd4 o p q r;have i:=hd1 l;go_enter Tryz.func257,Tryz.ntmps257
 go_wp2_with fail
 refine L.mono ?_;rintro e w2 ⟨rfl,rfl⟩
 go_wp2_with fail
 go_region_law (first
  |(refine je rfl 240 #[.agg #[U p0,U p1,U p2,U p3],.agg #[U x0,U x1,U x2,U x3]] (by go_simp) V.out ?_
    rintro e Z ⟨rfl,I⟩;refine⟨_,rfl,?_⟩;have a:=(B.out _ I).box;have s0:=a.cell _ _ g.out.1;have s1:=a.cell _ _ g.out.2.1;have s2:=a.cell _ _ g.out.2.2.1;have s3:=a.cell _ _ g.out.2.2.2;have f0:=a.free (9+k*4) (by have:=i.out;simp[qab];omega);have f1:=a.free (9+k*4+1) (by have:=i.out;simp[qab];omega);have f2:=a.free (9+k*4+2) (by have:=i.out;simp[qab];omega);have f3:=a.free (9+k*4+3) (by have:=i.out;simp[qab];omega)
    clear a))
 all_goals
  have aa:=y.out Z I _ rfl
  go_wp2_with fail
  go_ret;exact⟨rfl,aa⟩
end
section
theorem qjr (a:Nat) (t:TxP):∀(l:List TxP) (W:WoS),zl a (l++[t]) W=if t.site=(a:Int)then zl a l W else zk (zl a l W) ⟨a,.tx t⟩
 |[],W=>rfl
 |x::l,W=>by
  show zl a (l++[t]) _=_;rw[qjr a t l];rfl
variable {b i:Nat} {W:WoS}
theorem PWo.stepSm {w w':World} {M:WoM} {a:Nat->Nat->Prop} (h:PWo w b M W a) (hi:i<W.n) {S':qe} (d:PPo w (M.bp i) (a i) S' w'):∃c,PWo w' b M (setSite W i S') c/\(∀j k,c j k->a j k\/w.heap.size<=k)/\qc (a i) w w':=by
 obtain⟨c,f,g,e,l⟩:=h.fam.stepG (ps':=qci M (setSite W i S')) (i:=i) (by omega) (p:=qfp (M.bp i) S') d (by show (if i<W.n then _ else _)=_;rw[if_pos hi];show qfp (M.bp i) (jj W.S i S' i)=_;rw[qt]) (λj o m=>by
  show (if j<W.n then qfp (M.bp j) (jj W.S i S' j)else _)=(if j<W.n then _ else _);rw[yq _ _ m]
  rfl)
 exact⟨c,h.keep e f rfl rfl rfl rfl rfl rfl,g,l⟩
theorem q3q {G:Nat->Prop} (a d f p:Int) (w:World) (h:PW w b G W) (hw:WfW W) {o:Nat} (hi:i<W.n) (ho:o<W.n):
 Ca 212 #[PP b,U i,U o,.agg #[U a,U d,U f,U p]] w λe w'=>e=.returned (.tuple #[])/\vh w b G (qbc W i o a d f p) w':=by
 obtain⟨M,Gs,h,hG⟩:=h;have hb1:=boxed (jcc _ w) (.cells #[U a,U d,U f,U p] 77);have RV:=qd.new (w:=w) (T:=77) [U a,U d,U f,U p] rfl;change qd (w.alloc (.cells #[U a,U d,U f,U p] 77)) w.heap.size [U a,U d,U f,U p]at RV;have H1:=h.later hb1;obtain⟨pb,pc,c0,hpc,hpb,y0,y1⟩:=H1.place hi;have hlt:=h.box.lt;have n4:=hw.n4;have KN:=q3d (n:=o) (by omega) (by omega) a d f p _ (H1.site hi);have B:=hd4 h hG hw hi
 have q1:(i:Int)<(W.n:Int):=by omega
 obtain⟨z0,z1,z2,z3⟩:=RV.c4;rw[show ((o:Int)).toNat=o by omega]at KN;have HR:=hd3 RV hb1 H1;go_enter Tryz.func212,Tryz.ntmps212
 go_wp2_with fail
 refine KN.mono ?_;rintro e w2 ⟨rfl,hp⟩;rw[show jc 0=.nilIface from rfl];obtain⟨Gs2,K2,hsub,tt2⟩:=HR.out.2.2.stepSm B.out.2.2.2 hp;have RV2:=HR.out.1.kept (tt2.block _ HR.out.1.lt (λe=>by have:=B.out.1.ltG (by have:=B.out.2.2.2;omega) e;omega)) tt2.size;have MS:=qtx a d f p w2 (K2.site (i:=i) B.out.2.2.2) (by show j3 (jj W.S i (vp (W.S i) o a d f p) i);rw[qt];exact(B.out.2.2.1.inv i B.out.2.2.2).knows _);rw[show qd6 ((setSite W i (vp (W.S i) o a d f p)).S i) a d f p=qd6 (W.S i) a d f p by show qd6 (jj W.S i (vp (W.S i) o a d f p) i) a d f p=_;rw[qt];rfl]at MS;have Q:=hd3 K2 (show (∀j k,Gs2 j k->Gs j k\/w.heap.size<=k)from λj k e=>(hsub j k e).elim .inl (λq=>.inr (by simp at q;omega))) tt2;obtain⟨z0,z1,z2,z3⟩:=RV2.c4
 go_wp2_with fail
 refine MS.mono ?_;rintro e O ⟨v,rfl,y,k1,⟨B9,hB9,k2⟩,k3,k4⟩;obtain⟨ma,mc,hv,hMx⟩:=yx k2;subst hv;have K3:=Q.out.1.later k4
 have hkl:y.length<=200:=by
  have e1:=congrArg List.length k1;have e2:(qd6 (W.S i) a d f p).length<=(W.S i).log.length:=jdo _ _;have e3:=(B.out.2.2.1.inv i B.out.2.2.2).log;simp at e1;omega
 have hml:=hMx.len;have hmc:=hMx.cap
 have P:=hd6 hMx k1 k3 (show (∀k off,ma=some (AD k off)->y≠[]->w2.heap.size<=k)from λk off e R=>by
  rcases k2.2 with ⟨q,h0⟩|⟨g,cap,cur,q,hb9,_⟩
  ·exact absurd (jc2 h0) R
  injection q with q1 q2 q3;rw[e]at q1;injection q1 with q1;injection q1 with q1
  omega) K3 k4
 go_wp2_with fail
 go_loopw [27] (λiv wr=>∃(k:Nat) (z:Int),k<=y.length/\z=k/\iv=U z/\Hid (qby O b M Gs2 (λq=>O.heap.size<=q) (zl o ((y.map (·.t)).take k) (setSite W i (vp (W.S i) o a d f p))) wr)) (λiv _=>y.length-(intOf iv).toNat)
 case atStart=>exact⟨0,0,by omega,rfl,rfl,qby.none P.out.2.2.2.2.1 (jcc _ _) _⟩
 obtain⟨k,z,hk,hz,rfl,HS⟩:=hrel;have HZ:=hd1 hz;by_cases hlt2:k<y.length
 ·have g1:z<(y.length:Int):=by omega
  have g2:z.toNat=k:=by omega
  have g3:0<=z:=by omega
  have g4:z<200:=by omega
  obtain⟨L,N,haa,hcc⟩:∃b off,ma=some (AD b off)/\∀i m r u,y[i]?=some m->(txC m)[r]?=some u->O.cell? (AD b (off+(i*9+r)))=some u:=by
   rcases P.out.1.held with h0|h0
   ·rw[h0]at hlt2;simp at hlt2
   exact h0
  have hne:y≠[]:=λe=>by rw[e]at hlt2;simp at hlt2
  have hab:=P.out.2.2.2.1 L N haa hne;subst haa;have ltb:=λq e=>Q.out.1.ltF q e;have kp:∀q,w2.heap.size<=q->q<O.heap.size->wr.heap[q]?=O.heap[q]?:=λq hq hq3=>HS.out.block hq3 (λe=>by have:=ltb b (.inl rfl);omega) (λe=>by have:=ltb q (.inr (.inr (.inr (.inl e))));omega);obtain⟨⟨⟨C,E,wall,F,H,I,J,K,D⟩,V,X⟩,hm⟩:∃m,y[k]?=some m:=⟨_,jcg hlt2⟩;have hab3:L<O.heap.size:=jcr _ _ (hcc k _ 0 _ hm rfl)
  have Y:∀r u,(txC ⟨⟨C,E,wall,F,H,I,J,K,D⟩,V,X⟩)[r]?=some u->wr.cell? (AD L (N+(k*9+r)))=some u:=λr u hu=>by rw[jch (w:=O) (kp L hab hab3)];exact hcc k _ r u hm hu
  have x0:wr.cell? (AD L (N+k*9))=some (U C):=Y 0 _ rfl;have x1:wr.cell? (AD L (N+k*9+1))=some (U E):=Y 1 _ rfl;have x2:wr.cell? (AD L (N+k*9+2))=some (U wall):=Y 2 _ rfl;have x3:wr.cell? (AD L (N+k*9+3))=some (U F):=Y 3 _ rfl;have x4:wr.cell? (AD L (N+k*9+4))=some (U H):=Y 4 _ rfl;have x5:wr.cell? (AD L (N+k*9+5))=some (U I):=Y 5 _ rfl;have x6:wr.cell? (AD L (N+k*9+6))=some (U J):=Y 6 _ rfl;have x7:wr.cell? (AD L (N+k*9+7))=some (U K):=Y 7 _ rfl;have x8:wr.cell? (AD L (N+k*9+8))=some (.slice V D.length X):=Y 8 _ rfl;have hmem:=jcq hm;have hWr:Hid (qr wr V X D):=qr.kept (m:=⟨⟨C,E,wall,F,H,I,J,K,D⟩,V,X⟩) (P.out.2.2.1 _ hmem).1 (λq e=>kp q ((P.out.2.2.1 _ hmem).2 q e) ((P.out.2.2.1 _ hmem).1.blk_lt q e))
  have hok:Hid (jt C E wall F H I J K D=true):=B.out.2.2.1.lok i B.out.2.2.2 ⟨C,E,wall,F,H,I,J,K,D⟩ (by
   have:(⟨C,E,wall,F,H,I,J,K,D⟩:TxP)∈qd6 (W.S i) a d f p:=by rw[<-P.out.2.1];exact jcz.2 ⟨_,hmem,rfl⟩
   exact(jdq.1 this).1)
  have HT:Hid (zl o ((y.map (·.t)).take (k+1)) (setSite W i (vp (W.S i) o a d f p))=if C=(o:Int)then zl o ((y.map (·.t)).take k) (setSite W i (vp (W.S i) o a d f p))else zk (zl o ((y.map (·.t)).take k) (setSite W i (vp (W.S i) o a d f p))) ⟨o,.tx ⟨C,E,wall,F,H,I,J,K,D⟩⟩):=by
   show _=_;rw[jdu,jcv,hm];exact qjr o ⟨C,E,wall,F,H,I,J,K,D⟩ _ _
  have bx:=boxed (jcc _ wr) (.cells (List.toArray (T9 C E wall F H I J K V D.length X)) 102);have RX:=qd.new (w:=wr) (T:=102) (T9 C E wall F H I J K V D.length X) rfl;change qd (wr.alloc (.cells (List.toArray (T9 C E wall F H I J K V D.length X)) 102)) wr.heap.size (T9 C E wall F H I J K V D.length X)at RX;obtain⟨t0,t1,t2,t3,t4,t5,t6,t7,t8⟩:=RX.c9;by_cases hs:C=(o:Int)
  ·have HT2:=hd1 (HT.out.trans (if_pos hs))
   go_wp2_with fail
   go_roundw
   case rel=>exact⟨k+1,z+1,by omega,by have:=HZ.out;omega,by go_num,by show qby _ _ _ _ _ _ _;rw[HT2.out];exact HS.out.next (λnv l hP=>qby.none hP (boxed (jcc _ wr) _) _)⟩
   simp[intOf];have:=HZ.out;omega
  have HT2:=hd1 (HT.out.trans (if_neg hs));have S2:=hd1 (HS.out.next (λnv l hP=>qby.none hP bx _));obtain⟨nv',l',h1,h2,h3,Z⟩:=S2.out;have SX:=hd1 (qoq o C E wall F H I J K D V X _ h1 (hWr.out.later bx) hok.out);have HP:=hd4 h1 h2 (show (∀x∈l',x∈M.l\/O.heap.size<=x.blk)from h3) Z
  go_wp2_with fail
  refine SX.out.mono ?_;rintro e w5 ⟨rfl,hS⟩
  have SN:Hid (qby O b M Gs2 (λq=>O.heap.size<=q) (zk (zl o ((y.map (·.t)).take k) (setSite W i (vp (W.S i) o a d f p))) ⟨o,.tx ⟨C,E,wall,F,H,I,J,K,D⟩⟩) w5):=by
   obtain⟨h1,h2,h3,Z⟩:=HP.out;obtain⟨nv2,l2,g1',g2',g3',gt⟩:=hS;have s:=Z.size;refine⟨nv2,l2,g1',λq e=>?_,λx hx=>?_,?_⟩
   ·rcases g2' q e with r|r
    ·exact h2 q r
    exact .inr (by omega)
   ·rcases g3' x hx with r|r
    ·exact h3 x r
    exact .inr (by omega)
   refine⟨gt.os.trans Z.os,gt.tape.trans Z.tape,gt.output.trans Z.output,jcn s gt.size,λq hq R=>?_⟩;refine(gt.block q (by omega) (λe=>?_)).trans (Z.block q hq R);rcases e with e|e
   ·exact R (.inl e)
   rcases h2 q e with r|r
   ·exact R (.inr r)
   omega
  go_wp2_with fail
  go_roundw
  case rel=>exact⟨k+1,z+1,by omega,by have:=HZ.out;omega,by go_num,by show qby _ _ _ _ _ _ _;rw[HT2.out];exact SN.out⟩
  simp[intOf];have:=HZ.out;omega
 have g1:¬z<(y.length:Int):=by omega
 have e:k=y.length:=by omega
 go_wp2_with fail
 go_end0;have S9:=HS.out;rw[e,show ((y.map (·.t)).take y.length)=qd6 (W.S i) a d f p by rw[<-P.out.2.1];exact List.take_of_length_le (by simp)]at S9;have sm:=qds o (qd6 (W.S i) a d f p) (setSite W i (vp (W.S i) o a d f p));have P1:vh w2 b (qmp b M (W.n+W.c) Gs2) (qbc W i o a d f p) wr:=(S9.from P.out.2.2.2.2.2).post (W:=W) (λ_=>jdl) sm.n sm.c (λk hk=>.inr (jcn P.out.2.2.2.2.2.size hk));obtain⟨G5,k1,k2,kt⟩:=P1;have s1:=Q.out.2.2.size
 have s0:(w.alloc (.cells #[U a,U d,U f,U p] 77)).heap.size=w.heap.size+1:=by simp
 refine⟨rfl,G5,k1,λq hq=>?_,?_⟩
 ·rcases k2 q hq with (r|⟨j,hj,r⟩)|r
  ·exact .inl ((B.out.2.1 q).2 (.inl r))
  ·rcases Q.out.2.1 j q r with r2|r2
   ·exact .inl ((B.out.2.1 q).2 (.inr ⟨j,hj,r2⟩))
   exact .inr r2
  exact .inr (by omega)
 refine⟨kt.os.trans Q.out.2.2.os,kt.tape.trans Q.out.2.2.tape,kt.output.trans Q.out.2.2.output,by have:=kt.size;omega,λq hq R=>?_⟩;refine(kt.block q (by omega) (λr=>?_)).trans ((Q.out.2.2.block q (by omega) (λr=>R ((B.out.2.1 q).2 (.inr ⟨i,by have:=B.out.2.2.2;omega,r⟩)))).trans (HR.out.2.1.block q hq));rcases r with r|⟨j,hj,r⟩
 ·exact R ((B.out.2.1 q).2 (.inl r))
 rcases Q.out.2.1 j q r with r2|r2
 ·exact R ((B.out.2.1 q).2 (.inr ⟨j,hj,r2⟩))
 omega
end
section
def q4r (w:World) (b:Nat) (G:Nat->Prop) (W:WoS) (g:GrS) (e:Ending) (w':World):Prop:=e=.returned (.tuple #[])/\∃W',Hid (qeo W g W')/\vh w b G W' w'
variable {b:Nat} {G:Nat->Prop} {W:WoS}
theorem q84 (d f wall i j k l m:Int) (ws:List Wr) (a g cap:Nat) (S:ByteArray) (w:World) (h:PW w b G W) (F:WfW W) (x:Own w 0 g cap S) (H:S.size<=1000000) (I:ql3 (toL S) ⟨d,f,wall,i,j,k,l,m,ws⟩) (J:a<W.n):
 Ca 154 #[PP b,.agg #[U a,.slice (PT g) S.size cap]] w (q4r w b G W ⟨a,.tx ⟨d,f,wall,i,j,k,l,m,ws⟩⟩):=by
 obtain⟨M,K,h,L⟩:=h;have y:=boxed (jcc _ w) (.cells #[U a,.slice (PT g) S.size cap] 205);have p:=qd.new (w:=w) (T:=205) [U a,.slice (PT g) S.size cap] rfl;change qd (w.alloc (.cells #[U a,.slice (PT g) S.size cap] 205)) w.heap.size [U a,.slice (PT g) S.size cap]at p;have N:=qy2 I (PT g) S.size cap (yh S) _ (x.later y).all x.room H;have c:=hd5 h L F J p;have Q:=p.cell 1 _ rfl;go_enter Tryz.func154,Tryz.ntmps154
 go_wp2_with fail
 refine N.mono ?_;rintro e w2 ⟨a2,o,rfl,z,B⟩;simp only at z ⊢;have q:=boxed (jcc _ w2) (.cells (List.toArray (T9 d f wall i j k l m a2 ws.length o)) 102);have C:=(qa (qa y B) q);have r:=C.drew;have D:=c.out.1.later C;obtain⟨R,V,X,Y,Z,y0,y1⟩:=D.place c.out.2.2.2.1;have s:=qd.new (w:=w2) (T:=102) (T9 d f wall i j k l m a2 ws.length o) rfl;change qd (w2.alloc (.cells (List.toArray (T9 d f wall i j k l m a2 ws.length o)) 102)) w2.heap.size (T9 d f wall i j k l m a2 ws.length o)at s;have E:=(c.out.2.2.2.2.later B).later q
 have O:Hid (Ca 210 #[PP (M.bp a),.agg (List.toArray (T9 d f wall i j k l m a2 ws.length o))] (w2.alloc (.cells (List.toArray (T9 d f wall i j k l m a2 ws.length o)) 102)).drew λe w'=>∃v,e=.returned v/\∃S',zu (W.S a) ⟨d,f,wall,i,j,k,l,m,ws⟩ S'/\PPo (w2.alloc (.cells (List.toArray (T9 d f wall i j k l m a2 ws.length o)) 102)).drew (M.bp a) (K a) S' w'):=
  (q0z ⟨⟨d,f,wall,i,j,k,l,m,ws⟩,a2,o⟩ _ ((c.out.1.later r).site c.out.2.2.2.1) (c.out.2.2.1.inv a c.out.2.2.2.1) (jcn (c.out.2.2.1.wt a c.out.2.2.2.1) (by omega)) (z.later q.drew)).mono λe w' ⟨P,S',t,u⟩=>⟨_,P,S',t,u⟩
 have q1:(a:Int)<(W.n:Int):=by have:=c.out.2.2.2.1;omega
 have hlt:=D.box.lt;have d0_:=E.cell 0 _ rfl;obtain⟨t0,t1,t2,t3,t4,t5,t6,t7,t8⟩:=s.c9;have l1:=E.lt;have l2:=s.lt
 go_wp2_with fail
 go_region_law (refine je rfl 210 #[PP (M.bp a),.agg (List.toArray (T9 d f wall i j k l m a2 ws.length o))] (by go_simp) O.out ?_
                rintro e w4 ⟨v4,rfl,S',t,u⟩
                refine⟨_,rfl,?_⟩)
 all_goals
  go_wp2_with fail
  refine bodyPost_ret (v:=.tuple #[]) (results_none rfl _ _ _) rfl ?_;exact⟨rfl,_,⟨S',t,rfl⟩,vh.from r ((c.out.1.later r).stepS c.out.2.1 c.out.2.2.2.1 u)⟩
theorem q7j (a c d f i:Int) (l g cap:Nat) (S:ByteArray) (w:World) (h:PW w b G W) (X:WfW W) (r:Own w 0 g cap S) (C:S.size<=1000000) (D:qdj (toL S) ⟨a,c,d,f,i⟩) (Y:l<W.n):
 Ca 154 #[PP b,.agg #[U l,.slice (PT g) S.size cap]] w (q4r w b G W ⟨l,.ask a c d f i⟩):=by
 obtain⟨M,E,h,Z⟩:=h;have F:=boxed (jcc _ w) (.cells #[U l,.slice (PT g) S.size cap] 205);have s:=qd.new (w:=w) (T:=205) [U l,.slice (PT g) S.size cap] rfl;change qd (w.alloc (.cells #[U l,.slice (PT g) S.size cap] 205)) w.heap.size [U l,.slice (PT g) S.size cap]at s;have DC:=q08 (λx hx=>qzw hx D) (PT g) S.size cap (yh S) _ (r.later F).all r.room C;have j:=hd8 h Z X Y s r C D;have z1:=s.cell 1 _ rfl;go_enter Tryz.func154,Tryz.ntmps154
 go_wp2_with fail
 refine DC.mono ?_;rintro e w2 ⟨rfl,H⟩;have I:=boxed (jcc _ w2) (.cells ZA 102);have J:=(qa (qa F H) I);have t:=(j.out.2.2.2.2.1.later H).later I;have DA:=qws j.out.2.2.2.2.2.2.2 (PT g) S.size cap (yh S) _ (j.out.2.2.2.2.2.1.later J).all j.out.2.2.2.2.2.1.room j.out.2.2.2.2.2.2.1;have e1:=t.cell 1 _ rfl;have l1:=t.lt;have K:=hd2 t J
 go_wp2_with fail
 refine DA.mono ?_;rintro e m ⟨rfl,L⟩;simp only;have N:=boxed (jcc _ m) (.cells #[U c,U d,U f,U i] 77);have p:=qa (qa K.out.2 L) N;have O:=(K.out.1.later L).later N;have P:=qd.new (w:=m) (T:=77) [U c,U d,U f,U i] rfl;change qd (m.alloc (.cells #[U c,U d,U f,U i] 77)) m.heap.size [U c,U d,U f,U i]at P;have Q:=j.out.1.later p;obtain⟨pb,pc,R,hpc,hpb,y0,y1⟩:=Q.place j.out.2.2.2.1;have hlt:=Q.box.lt;by_cases V:0<=a/\a<(W.n:Int)
 ·obtain⟨o,ho⟩:∃o:Nat,(o:Int)=a:=⟨a.toNat,by omega⟩;subst ho
  have hon:o<W.n:=by omega
  have u:=yi (k:=o) (v:=true) _ R (by simp;omega);have AN:=q3q c d f i _ (PW.later (w':=m.alloc (.cells #[U c,U d,U f,U i] 77)) ⟨M,E,j.out.1,j.out.2.1⟩ p) j.out.2.2.1 j.out.2.2.2.1 hon;have s0:=O.cell 0 _ rfl;obtain⟨t0,t1,t2,t3⟩:=P.c4
  have y:Hid (∀W',W'=qbc W l o c d f i->qeo W ⟨l,.ask o c d f i⟩ W'):=λW' e=>by
   show (if 0<=(o:Int)/\(o:Int)<(W.n:Int)then W'=qbc W l (o:Int).toNat c d f i else W'=W);rw[if_pos V,show ((o:Int)).toNat=o by omega];exact e
  go_wp2_with fail
  refine u.mono ?_;rintro e w6 ⟨rfl,z⟩;have B:=z.symm;subst B
  go_wp2_with fail
  refine AN.mono ?_;rintro e w7 ⟨rfl,hp⟩
  go_wp2_with fail
  go_end0;exact⟨rfl,_,y.out _ rfl,vh.from p hp⟩
 have u:=yi (k:=a) (v:=false) _ R (by
  have:¬(0<=a)\/¬(a<(W.n:Int)):=by omega
  rcases this with q|q<;>simp[q])
 have y:Hid (qeo W ⟨l,.ask a c d f i⟩ W):=by
  show (if 0<=a/\a<(W.n:Int)then W=qbc W l a.toNat c d f i else W=W);rw[if_neg V]
 have s0:=O.cell 0 _ rfl
 go_wp2_with fail
 refine u.mono ?_;rintro e w6 ⟨rfl,z⟩;have B:=z.symm;subst B
 go_wp2_with fail
 go_end0;exact⟨rfl,W,y,vh.same ⟨M,E,j.out.1,j.out.2.1⟩ p⟩
theorem q79 (m:GrM) (w:World) (h:PW w b G W) (c:WfW W) (a:m.Ok w) (d:m.g.to<W.n):
 Ca 154 #[PP b,.agg #[U m.g.to,.slice (PT m.blk) m.S.size m.cap]] w (q4r w b G W m.g):=by
 obtain⟨⟨e,f⟩,g,cap,S⟩:=m;cases f with
 |tx t=>exact q84 t.site t.seq t.wall t.count t.d0 t.d1 t.d2 t.d3 t.ws e g cap S w h c a.own a.size a.is d
 |ask site v0 v1 v2 v3=>exact q7j site v0 v1 v2 v3 e g cap S w h c a.own a.size a.is d
end
section
section
variable {w w1 w2:World} {b g cap i:Nat} {M:WoM} {W:WoS} {Gs:Nat->Nat->Prop}
theorem PWo.dropped (h:PWo w b M W Gs) (o:Bw w w1) (A:M.nv=.slice (PT g) M.l.length cap) (hi:i<M.l.length)
 (own:w2.ownsRow 0 205 2 (.slice (PT g) (M.l.length-1) cap) (M.l.length-1) (qap (M.l.eraseIdx i))) (p:yu g w1 w2):
 PWo (w2.setCell (AD b 2) (.slice (PT g) (M.l.length-1) cap)) b {M with nv:=.slice (PT g) (M.l.length-1) cap,l:=M.l.eraseIdx i} (qai W i) Gs/\qc (λk=>k=b\/M.nv.ownBlock=some k) w (w2.setCell (AD b 2) (.slice (PT g) (M.l.length-1) cap)):=by
 have s1:=o.size;have s2:=p.size
 have c:M.nv.ownBlock=some g:=by rw[A];rfl
 have d:(Value.slice (PT g) (M.l.length-1) cap).ownBlock=some g:=rfl;have t:g≠b:=λq=>h.sb.2.2 (by rw[c,q]);have E:=h.box.lt;have B:∀k,k<w.heap.size->k≠g->w2.heap[k]?=w.heap[k]?:=λk a u=>(p.block k (by omega) (λe=>by injection e with e;exact u e)).trans (o.block k a)
 have v:(w2.setCell (AD b 2) (.slice (PT g) (M.l.length-1) cap)).heap.size=w2.heap.size:=by simp[World.setCell]
 have r:∀k,k<w.heap.size->k≠g->k≠b->(w2.setCell (AD b 2) (.slice (PT g) (M.l.length-1) cap)).heap[k]?=w.heap[k]?:=λk a u C=>(jce _ _ _ _ (λe=>C e)).trans (B k a u);have y:∀k,M.nv.ownBlock≠some k->k≠g:=λk a e=>a (by rw[c,e]);refine⟨⟨?_,?_,?_,?_,?_,λx m=>?_,?_,⟨h.sb.1,h.sb.2.1,λe=>t (by rw[d]at e;injection e)⟩,λk=>⟨λe=>⟨((h.sr k).1 e).1,λn=>((h.sr k).1 e).2 (by rw[c];rw[d]at n;exact n)⟩,λe n=>(h.sr k).2 e (by rw[c];rw[d]at n;exact n)⟩,λx m=>?_⟩,?_⟩
 ·have D:qd w2 b _:=(h.box.later o).kept (p.block b (by omega) (λe=>by injection e with e;exact t e.symm)) s2;exact D.set 2 _ (by simp)
 ·exact qf h.pr (λk e=>r k (h.pr.lt k e).2 (y k ((h.sr k).1 e).2) (λq=>h.sb.1 (by rw[e,q])))
 ·exact qf h.cr (λk e=>r k (h.cr.lt k e).2 (y k ((h.sr k).2 e)) (λq=>h.sb.2.1 (by rw[e,q])))
 ·show World.ownsRow _ 0 _ 2 _ (M.l.eraseIdx i).length (qap (M.l.eraseIdx i));rw[List.length_eraseIdx,if_pos hi];exact qf own (λk e=>jce _ _ _ _ (λq=>t (by rw[d]at e;injection e with e;exact e.trans q)))
 ·show (M.l.eraseIdx i).map (·.g)=W.net.eraseIdx i;rw[<-h.nl,jdf,jdf];simp
 ·have q:=jdn m;have s:=h.sg x q;exact(h.gr x q).kept (r _ (h.gr x q).own.lt (y _ s.2.2.2) s.1) (by rw[v];omega)
 ·have f:=h.fam.to (X':=qfw b M) (w':=w2.setCell (AD b 2) (.slice (PT g) (M.l.length-1) cap)) (λj k z e=>r k (h.ltG z e) (λq=>(h.fam.free k (.inr (.inr (.inr (.inl (by rw[c,q])))))).2 j z e) (λq=>(h.fam.free k (.inl q)).2 j z e)) (by rw[v];omega) (λk a=>⟨.inl a,by rw[v];have:=h.ltF k a;omega⟩);refine⟨f.is,f.apart,λk a=>?_,f.half⟩;rcases a with e|e|e|e|⟨x,m,e⟩
  ·exact f.free k (.inl e)
  ·exact f.free k (.inr (.inl e))
  ·exact f.free k (.inr (.inr (.inl e)))
  ·exact f.free k (.inr (.inr (.inr (.inl (by rw[c];rw[d]at e;exact e)))))
  exact f.free k (.inr (.inr (.inr (.inr ⟨x,jdn m,e⟩))))
 ·have s:=h.sg x (jdn m);exact⟨s.1,s.2.1,s.2.2.1,λe=>s.2.2.2 (by rw[c];rw[d]at e;exact e)⟩
 refine((qc.ofBelow o).trans (qc.grown p (λk e=>.inr (by rw[c];exact e)))).trans (qc.setCell _ _ _ (.inl rfl))
theorem PWo.under (h:PWo w b M W Gs) {e:GrS} (hi:W.net[i]?=some e):∃m a c,M.l[i]?=some m/\m.g=e/\M.nv=.slice (PT a) M.l.length c/\M.l.length=W.net.length/\w.cell? (AD b 2)=some (.slice (PT a) M.l.length c)/\M.l.length<=c/\a<w.heap.size/\w.cell? (AD a (i*2))=some (U m.g.to)/\w.cell? (AD a (i*2+1))=some (.slice (PT m.blk) m.S.size m.cap):=by
 have n:M.l.length=W.net.length:=by rw[<-h.nl];simp
 have o:i<M.l.length:=by have:=(jck.1 hi).1;omega
 obtain⟨m,d⟩:∃m,M.l[i]?=some m:=⟨_,jcg o⟩
 have p:m.g=e:=by
  have:=hi;rw[<-h.nl,jcv,d]at this;exact jcu this
 obtain⟨s,c,f,r⟩:=qq h.nr;rcases r.held with t|⟨a,rfl,q,j⟩
 ·omega
 have k:=h.box.cell 2 _ rfl;rw[f]at k;exact⟨m,a,c,d,p,f,n,k,r.len,q,j _ _ (qtm d).1,j _ _ (qtm d).2⟩
end
theorem q88 {b:Nat} {G:Nat->Prop} {W:WoS} (w:World) (h:PW w b G W) (j:W.net.length<=300) {i:Nat} {g:GrS} (hi:W.net[i]?=some g):
 Ca 109 #[PP b,U i] w λe w'=>e=.returned (jc 0)/\vh w b G (qai W i) w':=by
 obtain⟨M,Gs,h,r⟩:=h;obtain⟨m,J,K,s,L,n,N,t,O,P,x0,x1⟩:=h.under hi;have o:=(jck.1 s).1;have u:=qey (k:=i) (v:=true) w t (by simp;omega);have y:=qz2 w (by have:=h.nr;rw[n]at this;exact this) o (by omega);have a:=hd4 h r n o
 have Q:(i:Int)<(M.l.length:Int):=by omega
 have R:(i:Int)<300:=by omega
 have z:=h.box.lt;go_enter Tryz.func109,Tryz.ntmps109
 go_wp2_with fail
 refine u.mono ?_;rintro e w2 ⟨rfl,B⟩;have C:=B.symm;subst C
 go_wp2_with fail
 refine y.mono ?_;rintro e D ⟨rfl,E,d⟩;obtain⟨F,H⟩:=a.out.1.dropped (jcc _ w) a.out.2.2.1 a.out.2.2.2 E d;have c:=hd2 F H;have p:qd D b _:=a.out.1.box.kept (d.block b z (λe=>by injection e with e;exact a.out.1.sb.2.2 (by rw[a.out.2.2.1,e];rfl))) d.size;have S:=p.cell 2 _ rfl;have T:=p.free 2 (by simp)
 go_wp2_with fail
 go_ret;refine⟨rfl,_,⟨_,Gs,c.out.1,λ_=>jdl⟩,λk f=>.inl ((a.out.2.1 k).2 ?_),?_⟩
 ·rcases f with (q|q|q|q|⟨x,I,q⟩)|q
  ·exact .inl (.inl q)
  ·exact .inl (.inr (.inl q))
  ·exact .inl (.inr (.inr (.inl q)))
  ·exact .inl (.inr (.inr (.inr (.inl (by rw[a.out.2.2.1];exact q)))))
  ·exact .inl (.inr (.inr (.inr (.inr ⟨x,jdn I,q⟩))))
  exact .inr q
 exact⟨c.out.2.os,c.out.2.tape,c.out.2.output,c.out.2.size,λk f j=>c.out.2.block k f (λe=>j ((a.out.2.1 k).2 (.inl (e.elim .inl (λq=>.inr (.inr (.inr (.inl q))))))))⟩
end
section
variable {b:Nat} {G:Nat->Prop} {W:WoS}
theorem qp6 (w:World) (h:PW w b G W) (z:WfW W) {i:Nat} {g:GrS} (hi:W.net[i]?=some g):
 Ca 104 #[PP b,U i] w λe w'=>e=.returned (jc 0)/\∃W',Hid (zy W i W')/\vh w b G W' w':=by
 obtain⟨M,B,h,O⟩:=h;obtain⟨m,p,C,D,P,E,hlen,Q,hnc,R,x0,x1⟩:=h.under hi;subst P;have s:=z.net;have F:=(jck.1 D).1;have V:=jcq D;have X:=qey (k:=i) (v:=true) w Q (by simp;omega);have t:=boxed (jcc _ w) (.cells #[U m.g.to,.slice (PT m.blk) m.S.size m.cap] 205);have Y:=qz2 (w.alloc (.cells #[U m.g.to,.slice (PT m.blk) m.S.size m.cap] 205)) (by have:=qf h.nr (λk e=>t.block k (h.nr.lt k e).2);rw[E]at this;exact this) F (by omega);have H:=qd.new (w:=w) (T:=205) [U m.g.to,.slice (PT m.blk) m.S.size m.cap] rfl;change qd (w.alloc (.cells #[U m.g.to,.slice (PT m.blk) m.S.size m.cap] 205)) w.heap.size [U m.g.to,.slice (PT m.blk) m.S.size m.cap]at H;have a:=hd8 h O E F z V hi H
 have q1:(i:Int)<(M.l.length:Int):=by omega
 have q2:(i:Int)<300:=by omega
 have hlt:=h.box.lt;go_enter Tryz.func104,Tryz.ntmps104
 go_wp2_with fail
 refine X.mono ?_;rintro e w2 ⟨rfl,Z⟩;have aa:=Z.symm;subst aa
 go_wp2_with fail
 refine Y.mono ?_;rintro e u ⟨rfl,ab,d⟩;obtain⟨D1,y⟩:=a.out.1.dropped t a.out.2.2.1 a.out.2.2.2.1 ab d;have nne:p≠b:=λe=>a.out.1.sb.2.2 (by rw[a.out.2.2.1,<-e];rfl);have nlt:=R
 have s3:w.heap.size+1<=u.heap.size:=by have:=d.size;simpa using this
 have I:qd u b _:=(a.out.1.box.later t).kept (d.block b (by simp;omega) (λe=>by injection e with e;exact nne e.symm)) d.size;have R3:qd u w.heap.size _:=a.out.2.2.2.2.2.2.2.kept (d.block w.heap.size (by simp) (λe=>by injection e with e;omega)) d.size;have e2:=I.cell 2 _ rfl;have f2:=I.free 2 (by simp);have J:=R3.far (AD b 2) (.slice (PT p) (M.l.length-1) C) (by show b≠w.heap.size;omega);have r0:=J.cell 0 _ rfl;have r1:=J.cell 1 _ rfl;have K:=a.out.1.sg m a.out.2.2.2.2.2.1;have L:=a.out.1.gr m a.out.2.2.2.2.2.1;have OK4:=L.kept (y.block m.blk L.own.lt (λe=>e.elim K.1 K.2.2.2)) y.size;have CM:=q79 m _ ⟨_,B,D1,λ_=>jdl⟩ (a.out.2.2.2.2.1.drop i) OK4 (a.out.2.2.2.2.1.to m.g (jcq a.out.2.2.2.2.2.2.1));have f:=hd1 y
 go_wp2_with fail
 refine CM.mono ?_;rintro e w5 ⟨rfl,W',hC,G5,k1,k2,j⟩
 go_wp2_with fail
 go_ret
 have N:∀q,qmp b {M with nv:=.slice (PT p) (M.l.length-1) C,l:=M.l.eraseIdx i} ((qai W i).n+(qai W i).c) B q->G q:=λq o=>(a.out.2.1 q).2 (by
  rcases o with (q|q|q|q|⟨x,hx,q⟩)|q
  ·exact .inl (.inl q)
  ·exact .inl (.inr (.inl q))
  ·exact .inl (.inr (.inr (.inl q)))
  ·exact .inl (.inr (.inr (.inr (.inl (by rw[a.out.2.2.1];exact q)))))
  ·exact .inl (.inr (.inr (.inr (.inr ⟨x,jdn hx,q⟩))))
  exact .inr q)
 have ts:=f.out.size;refine⟨rfl,W',⟨m.g,a.out.2.2.2.2.2.2.1,hC.out⟩,G5,k1,λq o=>?_,⟨j.os.trans f.out.os,j.tape.trans f.out.tape,j.output.trans f.out.output,jcn ts j.size,λq o s=>?_⟩⟩
 ·rcases k2 q o with r|r
  ·exact .inl (N q r)
  exact .inr (by omega)
 exact(j.block q (by omega) (λr=>s (N q r))).trans (f.out.block q o (λe=>s ((a.out.2.1 q).2 (.inl (e.elim .inl (λr=>.inr (.inr (.inr (.inl r)))))))))
theorem qvo (w:World) (h:PW w b G W) (p:WfW W):
 Ca 146 #[PP b] w λe w'=>e=.returned (.tuple #[])/\∃W',Hid (qaf W W'/\WfW W')/\vh w b G W' w':=by
 have m:=hd2 h p;go_enter Tryz.func146,Tryz.ntmps146
 go_wp2_with fail
 go_loopg [2] (qjh W.net) (λk _ wr=>∃W1:WoS,qjh W1.net<=k/\Hid (WfW W1/\vh w b G W1 wr/\∀W',qaf W1 W'->qaf W W'))
 case atStart=>exact⟨W,jcd _,m.out.2,vh.same m.out.1 (jcc _ _),λ_ h=>h⟩
 obtain⟨W1,I,a⟩:=hrel;obtain⟨t,c⟩:=a.out.2.1.get;obtain⟨M,J,c,K⟩:=c
 have u:M.l.length=W1.net.length:=by rw[<-c.nl];simp
 obtain⟨L,N,v,r⟩:=qq c.nr;have y:=c.box.cell 2 _ rfl;rw[v]at y;have O:=r.cap;have P:=r.len;by_cases d:W1.net=[]
 ·have q:¬0<(M.l.length:Int):=by rw[u,d];simp
  go_wp2_with fail
  go_end0;exact⟨rfl,W1,⟨a.out.2.2 W1 (.none d),a.out.1⟩,a.out.2.1⟩
 obtain⟨g,z⟩:∃g,W1.net[0]?=some g:=by
  cases hn:W1.net with
  |nil=>exact absurd hn d
  |cons x r=>exact⟨x,rfl⟩
 have q:0<(M.l.length:Int):=by
  have:W1.net.length≠0:=λe=>d (jc2 e);omega
 have B:Hid (Ca 104 #[PP b,U 0] wr λe w'=>e=.returned (jc 0)/\∃W',Hid (zy W1 0 W')/\vh w b G W' w'):=by
  obtain⟨t,c,s1,n⟩:=a.out.2.1;refine(qp6 (i:=0) wr c a.out.1 z).mono λe w' ⟨C,W',f,j⟩=>⟨C,W',f,?_⟩;obtain⟨D,p1,p2,p3⟩:=j;have s:=n.size;refine⟨D,p1,λq E=>?_,n.more p3 s1⟩;rcases p2 q E with e|e
  ·exact s1 q e
  exact .inr (by omega)
 have F:Hid (W1.net≠[]):=d
 go_wp2_with fail
 refine B.out.mono ?_;rintro e Q ⟨rfl,o,f,j⟩;rw[show jc 0=.nilIface from rfl];have R:=qjk a.out.1 f.out
 go_wp2_with fail
 go_roundg (qjh o.net)
 case measure=>omega
 exact⟨o,jcd _,a.out.1.deliver f.out,j,λW' H=>a.out.2.2 W' (.step F.out f.out H)⟩
end
section
structure qet (W W':WoS):Prop where
 n:W'.n=W.n
 c:W'.c=W.c
 wall:W'.wall=W.wall
 ses:W'.ses=W.ses
 at_:W'.at_=W.at_
theorem qet.refl (W:WoS):qet W W:=⟨rfl,rfl,rfl,rfl,rfl⟩
theorem qet.trans {A B C:WoS} (h:qet A B) (k:qet B C):qet A C:=⟨k.n.trans h.n,k.c.trans h.c,k.wall.trans h.wall,k.ses.trans h.ses,k.at_.trans h.at_⟩
variable {W W':WoS}
theorem qf9.keep (h:qf9 W W'):qet W W':=⟨h.n,h.c,h.wall,h.ses,h.at_⟩
theorem qeo.keep {g:GrS} (h:qeo W g W'):qet W W':=by
 obtain⟨a,e⟩:=g;cases e with
 |tx t=>
  obtain⟨S',_,rfl⟩:=h;exact⟨rfl,rfl,rfl,rfl,rfl⟩
 |ask site v0 v1 v2 v3=>
  have d:if 0<=site/\site<(W.n:Int)then W'=qbc W a site.toNat v0 v1 v2 v3 else W'=W:=h
  split at d
  ·rw[d];have s:=qds site.toNat (qd6 (W.S a) v0 v1 v2 v3) (setSite W a (vp (W.S a) site.toNat v0 v1 v2 v3));exact⟨s.n,s.c,s.wall,s.ses,s.at_⟩
  rw[d];exact qet.refl W
theorem zy.keep {i:Nat} (h:zy W i W'):qet W W':=by
 obtain⟨g,_,h⟩:=h;have k:=h.keep;exact⟨k.n,k.c,k.wall,k.ses,k.at_⟩
theorem qaf.keep (h:qaf W W'):qet W W':=by
 induction h with
 |none _=>exact qet.refl _
 |step _ h _ ih=>exact h.keep.trans ih
variable {m:Nat}
theorem qdo.keep {k:Nat} (h:qdo k m W W'):qet W W':=by
 induction h with
 |zero=>exact qet.refl _
 |self _ _ ih=>exact ih
 |ask _ _ h ih=>exact(ih.trans (yb _ _).keep).trans h.keep
theorem qc1.keep (h:qc1 m W W'):qet W W':=by
 induction h with
 |zero=>exact qet.refl _
 |next _ h ih=>exact ih.trans h.keep
theorem qg9.keep (h:qg9 W W'):qet W W':=by
 obtain⟨W1,a,c⟩:=h;exact a.keep.trans c.keep
variable {b:Nat} {G:Nat->Prop}
theorem PW.len0 {w:World} (h:PW w b G W):∃a cap,w.cell? (AD b 0)=some (.slice a W.n cap):=by
 obtain⟨M,g,h,_⟩:=h;obtain⟨d,e,f,r⟩:=qq h.pr;have c:=h.box.cell 0 _ rfl;rw[f]at c;exact⟨d,e,c⟩
theorem q71 (w:World) (h:PW w b G W) (D:WfW W):
 Ca 100 #[PP b] w λe w'=>e=.returned (.tuple #[])/\∃W',Hid (qg9 W W'/\WfW W')/\vh w b G W' w':=by
 have Q:=qvo w h D;have E:=hd1 D.n4;go_enter Tryz.func100,Tryz.ntmps100
 go_wp2_with fail
 refine Q.mono ?_;rintro e w1 ⟨rfl,W1,p,g⟩;have F:=hd1 g;obtain⟨G1,R⟩:=F.out.get;obtain⟨pa,pc,r⟩:=R.len0;have H:=p.out.1.keep.n;rw[H]at r;have I:=hd1 H
 go_wp2_with fail
 go_loopw [11] (λiv wr=>∃(k:Nat) (z:Int) (f:WoS),k<=W.n/\z=k/\iv=U z/\Hid (WfW f/\f.n=W.n/\qc1 k W1 f/\vh w b G f wr)) (λiv _=>W.n-(intOf iv).toNat)
 case atStart=>exact⟨0,0,W1,by omega,rfl,rfl,p.out.2,I.out,.zero,F.out⟩
 obtain⟨k,z,f,hk,S,rfl,d⟩:=hrel;have j:=hd1 S;by_cases J:k<W.n
 ·have T:z<(W.n:Int):=by omega
  have g3:0<=z:=by omega
  have g4:z<4:=by have:=E.out;omega
  obtain⟨G2,V⟩:=d.out.2.2.2.get;obtain⟨pa2,pc2,r⟩:=V.len0;rw[d.out.2.1]at r
  go_wp2_with fail
  go_loopw [19] (λt wr=>∃(m:Nat) (y:Int) (c:WoS),m<=W.n/\y=m/\t=U y/\Hid (WfW c/\c.n=W.n/\qdo k m f c/\vh w b G c wr)) (λt _=>W.n-(intOf t).toNat)
  case atStart=>exact⟨0,0,f,by omega,rfl,rfl,d.out.1,d.out.2.1,.zero,d.out.2.2.2⟩
  obtain⟨m,y,c,hm,X,rfl,a⟩:=hrel;have l:=hd1 X;by_cases K:m<W.n
  ·have f1:y<(W.n:Int):=by omega
   have f3:0<=y:=by omega
   have f4:y<4:=by have:=E.out;omega
   by_cases u:m=k
   ·have Y:y=z:=by have:=j.out;omega
    go_wp2_with fail
    go_roundw
    case rel=>exact⟨m+1,y+1,c,by omega,by have:=l.out;omega,by go_num,a.out.1,a.out.2.1,.self a.out.2.2.1 u,a.out.2.2.2⟩
    simp[intOf];have:=l.out;omega
   have Y:¬y=z:=by have:=j.out;omega
   have Z:Hid (Ca 96 #[PP b,U z,U y] wr λe w'=>e=.returned (jc 0)/\vh w b G (qme c k m) w'):=by
        obtain⟨G3,P3,s3,L⟩:=a.out.2.2.2;have:=q7k wr P3 a.out.1 (i:=k) (o:=m) (by rw[a.out.2.1];exact J) (by rw[a.out.2.1];exact K) (λe=>u e.symm);rw[<-j.out,<-l.out]at this;refine this.mono λe w' ⟨v,g⟩=>⟨v,?_⟩;obtain⟨x,p1,p2,p3⟩:=g;have s:=L.size;refine⟨x,p1,λq B=>?_,L.more p3 s3⟩;rcases p2 q B with e|e
        ·exact s3 q e
        exact .inr (by omega)
   have M:=hd3 (show m≠k from u) J K
   go_wp2_with fail
   refine Z.out.mono ?_;rintro e N ⟨rfl,hP4⟩;rw[show jc 0=.nilIface from rfl];have WA:WfW (qme c k m):=a.out.1.send (by show m<c.n;rw[a.out.2.1];exact M.out.2.2);obtain⟨G4,P4,O,P⟩:=hP4
   have BR2:Hid (Ca 146 #[PP b] N λe w'=>e=.returned (.tuple #[])/\∃W',Hid (qaf (qme c k m) W'/\WfW W')/\vh w b G W' w'):=(qvo N P4 WA).mono λe w' ⟨v,W',hB,g⟩=>⟨v,W',hB,by
        obtain⟨x,p1,p2,p3⟩:=g;have s:=P.size;refine⟨x,p1,λq B=>?_,P.more p3 O⟩;rcases p2 q B with e|e
        ·exact O q e
        exact .inr (by omega)⟩
   go_wp2_with fail
   refine BR2.out.mono ?_;rintro e w5 ⟨rfl,W5,C,hP5⟩
   go_wp2_with fail
   go_roundw
   case rel=>exact⟨m+1,y+1,W5,by omega,by have:=l.out;omega,by go_num,C.out.2,(C.out.1.keep.n.trans (yb _ _).n).trans a.out.2.1,.ask a.out.2.2.1 M.out.1 C.out.1,hP5⟩
   simp[intOf];have:=l.out;omega
  have f1:¬y<(W.n:Int):=by omega
  have e:m=W.n:=by omega
  go_wp2_with fail
  go_roundw
  case rel=>exact⟨k+1,z+1,c,by omega,by have:=j.out;omega,by go_num,a.out.1,a.out.2.1,.next d.out.2.2.1 (by rw[d.out.2.1,<-e];exact a.out.2.2.1),a.out.2.2.2⟩
  simp[intOf];have:=j.out;omega
 have T:¬z<(W.n:Int):=by omega
 have e:k=W.n:=by omega
 go_wp2_with fail
 go_end0;exact⟨rfl,f,⟨⟨W1,p.out.1,by rw[I.out,<-e];exact d.out.2.2.1⟩,d.out.1⟩,d.out.2.2.2⟩
end
section
theorem qnd (bp:Nat->Nat) (x:Nat->Int) (n:Nat):zt bp x (n+1)=zt bp x n++qum (bp n) (x n):=by
 unfold zt;rw[List.range_succ,List.flatMap_append];simp
theorem qk8 (bp:Nat->Nat) (x:Nat->Int) (y:Int) {i:Nat}:∀n,i<n->(zt bp x n).set (i*2+1) (U y)=zt bp (jj x i y) n
 |0,h=>by omega
 |n+1,h=>by
  rw[qnd,qnd];have a:=qkr bp x n;by_cases q:i=n
  ·subst q;rw[List.set_append,if_neg (by rw[a];omega),a,qt]
   have e:zt bp (jj x i y) i=zt bp x i:=by
    unfold zt;rw[List.flatMap_def,List.flatMap_def]
    congr 1
    refine List.map_congr_left (λj c=>?_);have:=List.mem_range.1 c;rw[yq _ _ (by omega)]
   rw[e,show i*2+1-i*2=1 by omega];rfl
  rw[List.set_append,if_pos (by rw[a];omega),qk8 bp x y n (by omega),yq _ _ (λe=>q e.symm)]
section
variable {w:World} {b cb cc i:Nat} {M:WoM} {W:WoS} {Gs:Nat->Nat->Prop}
theorem PWo.setAt (h:PWo w b M W Gs) (m:M.cv=.slice (PT cb) W.c cc) (hi:i<W.c) (a:Nat):PWo (w.setCell (AD cb (i*2+1)) (U a)) b M {W with at_:=jj W.at_ i a} Gs/\qc (λk=>k=cb) w (w.setCell (AD cb (i*2+1)) (U a)):=by
 have d:M.cv.ownBlock=some cb:=by rw[m];rfl
 have f:∀k,k≠cb->(w.setCell (AD cb (i*2+1)) (U a)).heap[k]?=w.heap[k]?:=λk g=>jce _ _ _ _ (λe=>g e)
 have l:(w.setCell (AD cb (i*2+1)) (U a)).heap.size=w.heap.size:=by simp[World.setCell]
 refine⟨⟨h.box.kept (f b (λe=>h.sb.2.1 (by rw[d,e]))) (by rw[l];exact jcd _),qf h.pr (λk e=>f k (λq=>((h.sr k).1 e).1 (by rw[d,q]))),?_,qf h.nr (λk e=>f k (λq=>(h.sr k).2 (by rw[d,q]) e)),h.nl,λx n=>(h.gr x n).kept (f _ (λq=>(h.sg x n).2.2.1 (by rw[d,q]))) (by rw[l];exact jcd _),h.fam.to (λj k p e=>f k (λq=>(h.fam.free k (.inr (.inr (.inl (by rw[d,q]))))).2 j p e)) (by rw[l];exact jcd _) (λk g=>⟨.inl g,by rw[l];exact h.ltF k g⟩),h.sb,h.sr,h.sg⟩,qc.setCell _ _ _ rfl⟩;have o:=h.cr;rw[m]at o ⊢;have s:=(o.stored (i*2+1) (U a)).1;rw[qk8 _ _ _ _ hi]at s
 have e:(λk=>((jj W.at_ i a k:Nat):Int))=jj (λk=>(W.at_ k:Int)) i (a:Int):=by
  funext k
  unfold jj
  split<;>rfl
 show World.ownsRow _ 0 _ 2 _ W.c (zt M.bs (λk=>((jj W.at_ i a k:Nat):Int)) W.c);rw[e];exact s
theorem PWo.setWall (h:PWo w b M W Gs) (g:M.pv=.slice (PT cb) W.n cc) (hi:i<W.n) (x:Int):PWo (w.setCell (AD cb (i*2+1)) (U x)) b M {W with wall:=jj W.wall i x} Gs/\qc (λk=>k=cb) w (w.setCell (AD cb (i*2+1)) (U x)):=by
 have a:M.pv.ownBlock=some cb:=by rw[g];rfl
 have c:∀k,k≠cb->(w.setCell (AD cb (i*2+1)) (U x)).heap[k]?=w.heap[k]?:=λk d=>jce _ _ _ _ (λe=>d e)
 have f:(w.setCell (AD cb (i*2+1)) (U x)).heap.size=w.heap.size:=by simp[World.setCell]
 refine⟨⟨h.box.kept (c b (λe=>h.sb.1 (by rw[a,e]))) (by rw[f];exact jcd _),?_,qf h.cr (λk e=>c k (λq=>((h.sr cb).1 a).1 (by rw[<-q];exact e))),qf h.nr (λk e=>c k (λq=>((h.sr cb).1 a).2 (by rw[<-q];exact e))),h.nl,λx l=>(h.gr x l).kept (c _ (λq=>(h.sg x l).2.1 (by rw[a,q]))) (by rw[f];exact jcd _),h.fam.to (λj k m e=>c k (λq=>(h.fam.free k (.inr (.inl (by rw[a,q])))).2 j m e)) (by rw[f];exact jcd _) (λk d=>⟨.inl d,by rw[f];exact h.ltF k d⟩),h.sb,h.sr,h.sg⟩,qc.setCell _ _ _ rfl⟩;have o:=h.pr;rw[g]at o ⊢;have s:=(o.stored (i*2+1) (U x)).1;rw[qk8 _ _ _ _ hi]at s;exact s
end
def qll (W:WoS) (i:Nat):Int:=if (W.ses i).opn=true then 6 else 0
def qhx (W:WoS) (i to:Nat):WoS:=if (W.ses i).opn=true then W else {W with at_:=jj W.at_ i to}
variable {i:Nat}
theorem q8o {b:Nat} {G:Nat->Prop} {W:WoS} (w:World) (h:PW w b G W) {f:Nat} (hi:i<W.c) (J:f<W.n):
 Ca 112 #[PP b,U i,U f] w λe w'=>e=.returned (jc (qll W i))/\vh w b G (qhx W i f) w':=by
 obtain⟨M,Gs,h,K⟩:=h;obtain⟨L,cc,z,r⟩:=qq h.cr
 obtain⟨cb,rfl,T,B⟩:∃g,L=some (AD g 0)/\g<w.heap.size/\∀j u,(zt M.bs (λk=>(W.at_ k:Int)) W.c)[j]?=some u->w.cell? (AD g j)=some u:=by
  rcases r.held with C|C
  ·omega
  exact C
 have x:=h.box.cell 1 _ rfl;rw[z]at x;obtain⟨V,X,N,Y,Z,y0,y1⟩:=h.place J;have x0:=B _ _ (qea hi).1;have x1:=B _ _ (qea hi).2;have D:=yf (k:=i) (v:=true) w x (by simp;omega);have E:=yi (k:=f) (v:=true) w N (by simp;omega);have t:=qmk w (h.sess hi);have hlt:=h.box.lt;have d:=hd4 h K z hi
 have o:(i:Int)<(W.c:Int):=by omega
 have hrl:=r.len;cases ho:(W.ses i).opn
 ·have s:Hid (jc (qll W i)=.nilIface/\qhx W i f={W with at_:=jj W.at_ i f}):=⟨by unfold qll;rw[ho];rfl,by unfold qhx;rw[ho];rfl⟩;rw[ho]at t;go_enter Tryz.func112,Tryz.ntmps112
  go_wp2_with fail
  refine D.mono ?_;rintro e w2 ⟨rfl,l⟩;have m:=l.symm;subst m
  go_wp2_with fail
  refine E.mono ?_;rintro e w2 ⟨rfl,l⟩;have m:=l.symm;subst m
  go_wp2_with fail
  refine t.mono ?_;rintro e F ⟨rfl,p⟩;have H:=d.out.1.later p;have I:=H.cr;rw[d.out.2.2.1]at I;have z1:=cell_later p x;have z2:=cell_later p x1
  have fz:F.frozen? (AD cb (i*2+1))=false:=by
   rcases I.2 with ⟨q,_⟩|⟨g2,cap2,cur,q,_,O,_⟩
   ·cases q
   injection q with o q2 q3;injection o with o;injection o with o;subst o;unfold World.frozen?;rw[O];simp
  obtain⟨P,Q⟩:=H.setAt d.out.2.2.1 d.out.2.2.2 f;have a:=hd3 P Q p
  go_wp2_with fail
  go_ret;refine⟨by rw[s.out.1];rfl,?_⟩;rw[s.out.2]
  have R:M.cv.ownBlock=some cb:=by rw[d.out.2.2.1];rfl
  have s3:=a.out.2.2.size;refine⟨_,⟨M,Gs,a.out.1,λ_=>jdl⟩,λk y=>.inl ((d.out.2.1 k).2 y),?_⟩;exact⟨a.out.2.1.os.trans a.out.2.2.os,a.out.2.1.tape.trans a.out.2.2.tape,a.out.2.1.output.trans a.out.2.2.output,jcn s3 a.out.2.1.size,λk y S=>(a.out.2.1.block k (by omega) (λe=>S ((d.out.2.1 k).2 (.inl (.inr (.inr (.inl (by rw[R,e])))))))).trans (a.out.2.2.block k y)⟩
 have s:Hid (jc (qll W i)=.iface 26 (U 6)/\qhx W i f=W):=⟨by unfold qll;rw[ho];rfl,by unfold qhx;rw[ho];rfl⟩;rw[ho]at t;go_enter Tryz.func112,Tryz.ntmps112
 go_wp2_with fail
 refine D.mono ?_;rintro e w2 ⟨rfl,l⟩;have m:=l.symm;subst m
 go_wp2_with fail
 refine E.mono ?_;rintro e w2 ⟨rfl,l⟩;have m:=l.symm;subst m
 go_wp2_with fail
 refine t.mono ?_;rintro e F ⟨rfl,p⟩
 go_wp2_with fail
 go_ret;refine⟨by rw[s.out.1];rfl,?_⟩;rw[s.out.2];exact vh.same ⟨M,Gs,d.out.1,d.out.2.1⟩ p
end
def qk3 (x:Int):Int:=if x<=1099511627776 then x else 1099511627776
def qm8 (W:WoS) (i:Nat) (by_:Int):WoS:={W with wall:=jj W.wall i (qk3 (W.wall i+by_))}
theorem q8u {b:Nat} {G:Nat->Prop} {W:WoS} (w:World) (h:PW w b G W) {i:Nat} (hi:i<W.n) {y:Int} (X:0<=y) (Y:y<=1099511627776) (C:0<=W.wall i) (D:W.wall i<=1099511627776):
 Ca 106 #[PP b,U i,U y] w λe w'=>e=.returned (jc 0)/\vh w b G (qm8 W i y) w':=by
 obtain⟨M,E,h,H⟩:=h;obtain⟨I,Z,l,r⟩:=qq h.pr
 obtain⟨f,rfl,aa,J⟩:∃g,I=some (AD g 0)/\g<w.heap.size/\∀j u,(zt M.bp W.wall W.n)[j]?=some u->w.cell? (AD g j)=some u:=by
  rcases r.held with o|o
  ·omega
  exact o
 have p:=h.box.cell 0 _ rfl;rw[l]at p;have x1:=J _ _ (qea hi).2;have K:=yi (k:=i) (v:=true) w p (by simp;omega);have ab:=h.box.lt;have c:=hd4 h H l hi
 have d:(i:Int)<(W.n:Int):=by omega
 have ac:=r.len
 have fz:w.frozen? (AD f (i*2+1))=false:=by
  have s:=h.pr;rw[l]at s;rcases s.2 with ⟨q,_⟩|⟨g2,cap2,cur,q,_,L,_⟩
  ·cases q
  injection q with d q2 q3;injection d with d;injection d with d;subst d;unfold World.frozen?;rw[L];simp
 obtain⟨a,x⟩:∃a,W.wall i=a:=⟨_,rfl⟩;rw[x]at x1 C D
 have hwz:wrap64 (a+y)=a+y:=by unfold wrap64;omega
 have N:Hid (qm8 W i y={W with wall:=jj W.wall i (qk3 (a+y))}):=by show _=_;unfold qm8;rw[x]
 have O:Hid (∀w',w'=w.drew.setCell (AD f (i*2+1)) (U (qk3 (a+y)))->vh w b G {W with wall:=jj W.wall i (qk3 (a+y))} w'):=λw' e=>by
  subst e;obtain⟨P,Q⟩:=(c.out.1.later (jcc _ w).drew).setWall c.out.2.2.1 c.out.2.2.2 (qk3 (a+y))
  have R:M.pv.ownBlock=some f:=by rw[c.out.2.2.1];rfl
  refine⟨_,⟨M,E,P,λ_=>jdl⟩,λk m=>.inl ((c.out.2.1 k).2 m),?_⟩;have t:=(qc.ofBelow (F:=λk=>k=f) (jcc _ w).drew).trans Q;exact⟨t.os,t.tape,t.output,t.size,λk m S=>t.block k m (λe=>S ((c.out.2.1 k).2 (.inl (.inr (.inl (by rw[R,e]))))))⟩
 by_cases z:a+y<=1099511627776;have B:Hid (qk3 (a+y)=a+y):=if_pos z
 rotate_left
 have B:Hid (qk3 (a+y)=1099511627776):=if_neg z
 all_goals
  go_enter Tryz.func106,Tryz.ntmps106
  go_wp2_with fail
  refine K.mono ?_;rintro e w2 ⟨rfl,T⟩;have V:=T.symm;subst V
  go_wp2_with fail
  go_region
  all_goals
   go_wp2_with fail
   go_ret;refine⟨rfl,?_⟩;rw[N.out];exact O.out _ (by rw[B.out];rfl)
section
open Go.Maps
variable {b:Nat} {G:Nat->Prop} {S:qe}
theorem q1v (w:World) (h:PS w b G S) (a:j3 S):
 Ca 161 #[PP b] w (Rn (U S.l.length) w):=by
 obtain⟨lv,bm,F,log,waits,c,_,_⟩:=h.mem;have d:=q2y w c.st a.many;go_enter Tryz.func161,Tryz.ntmps161
 go_wp2_with fail
 refine d.mono ?_;rintro e w2 ⟨rfl,f⟩
 go_wp2_with fail
 go_ret;exact⟨rfl,f⟩
theorem qx0 (x0 x1 x2 x3:Int) (w:World) (h:PS w b G S) (i:j3 S):
 Ca 164 #[PP b,.agg #[U x0,U x1,U x2,U x3]] w λe w'=>e=.returned (.tuple #[])/\PPo w b G {S with l:=qcr (qm x0 S.a0) (qm x1 S.a1) (qm x2 S.a2) (qm x3 S.a3) S.l} w':=by
 have q:=boxed (jcc _ w) (.cells #[U x0,U x1,U x2,U x3] 77);have s:=qd.new (w:=w) (T:=77) [U x0,U x1,U x2,U x3] rfl;obtain⟨lv,bm,F,log,waits,f,t,u,j⟩:=h;have g:=f.later q;have I:=g.box.cell 1 _ rfl;have J:=g.box.cell 2 _ rfl;have K:=g.box.cell 3 _ rfl;have L:=g.box.cell 4 _ rfl;obtain⟨M,N,O,P⟩:=s.c4;have v:Hid (∀W,Bw w W->Ca 163 #[.agg #[U x0,U x1,U x2,U x3],.agg #[U S.a0,U S.a1,U S.a2,U S.a3]] W (Rn (.agg #[U (qm x0 S.a0),U (qm x1 S.a1),U (qm x2 S.a2),U (qm x3 S.a3)]) w)):=λW a=>(qn5 x0 x1 x2 x3 S.a0 S.a1 S.a2 S.a3 W).mono λe w' ⟨n,o⟩=>⟨n,qa a o⟩
 have x:Hid (∀W,Bw w W->Ca 221 #[.pointer (some (AD b 25)),.agg #[U (qm x0 S.a0),U (qm x1 S.a1),U (qm x2 S.a2),U (qm x3 S.a3)]] W λe w'=>e=.returned (.tuple #[])/\Hid (PPo w b G {S with l:=qcr (qm x0 S.a0) (qm x1 S.a1) (qm x2 S.a2) (qm x3 S.a3) S.l} w')):=λW a=>
  (qyf (qm x0 S.a0) (qm x1 S.a1) (qm x2 S.a2) (qm x3 S.a3) W (f.later a).st i.many i.apart i.ok).mono λe w' ⟨n,o⟩=>by
   obtain⟨F',y,z,c⟩:=(f.later a).store o;have Q:∀k,(∃m∈log++waits,m.blk k)->k<w.heap.size:=λk ⟨m,B,e⟩=>(f.hold m B).1.blk_lt k e;refine⟨n,λk=>jn b lv bm F' k\/∃m∈log++waits,m.blk k,⟨lv,bm,F',log,waits,y,t,u,λk=>jdl⟩,λk d=>?_,(qc.ofBelow a).more ⟨c.os,c.tape,c.output,c.size,λk d C=>c.block k d (λe=>C ((j k).2 (.inl e)))⟩ (λk d=>.inl d)⟩;rcases d with p|p
   ·rcases z k p with r|r
    ·exact .inl ((j k).2 (.inl r))
    exact .inr (by have:=a.size;omega)
   exact .inl ((j k).2 (.inr p))
 have D:=q.drew;go_enter Tryz.func164,Tryz.ntmps164
 go_wp2_with fail
 go_region_law (first
  |(refine je rfl 163 #[.agg #[U x0,U x1,U x2,U x3],.agg #[U S.a0,U S.a1,U S.a2,U S.a3]] (by go_simp) (v.out _ D) ?_
    rintro e w2 ⟨rfl,E⟩
    refine⟨_,rfl,?_⟩)
  |(refine je rfl 221 #[.pointer (some (AD b 25)),.agg #[U (qm x0 S.a0),U (qm x1 S.a1),U (qm x2 S.a2),U (qm x3 S.a3)]] (by go_simp) (x.out _ E) ?_
    rintro e R ⟨rfl,H⟩
    refine⟨_,rfl,?_⟩))
 all_goals
  go_wp2_with fail
  go_end0;exact⟨rfl,H.out⟩
end
section
variable {w:World}
theorem qlr {tmps:Array Value} {a:Nat} {p0 p1 p2 p3:Int} {c d e f:Value} (g:qd w a [U p0,U p1,U p2,U p3]) (h:tmps[4]?=some (PP a)) (i:tmps[5]?=some c) (j:tmps[6]?=some d) (l:tmps[7]?=some e) (m:tmps[8]?=some f):
 (results Tryz.f114 tmps).run Tryz.prog w=.ok (.tuple #[.agg #[U p0,U p1,U p2,U p3],c,d,e,f]) w:=by
 obtain⟨o,p,q,r⟩:=g.c4;simp[results,Tryz.results114,go_sem,h,i,j,l,m,o,p,q,r]
variable {W:World} {b:Nat}
theorem q7m (h:qd W b [U 0,U 0,U 0,U 0]) (x0 x1 x2 x3:Int):qd ((((W.setCell (AD b 0) (U x0)).setCell (AD b 1) (U x1)).setCell (AD b 2) (U x2)).setCell (AD b 3) (U x3)) b [U x0,U x1,U x2,U x3]:=
 (((h.set 0 _ (by simp)).set 1 _ (by simp)).set 2 _ (by simp)).set 3 _ (by simp)
variable {k:Nat}
theorem qx7 (a:k≠b) (x0 x1 x2 x3:Int):((((W.setCell (AD b 0) (U x0)).setCell (AD b 1) (U x1)).setCell (AD b 2) (U x2)).setCell (AD b 3) (U x3)).heap[k]?=W.heap[k]?:=by
 have e:∀(V:World) (p:Addr) (u:Value),p.block=b->(V.setCell p u).heap[k]?=V.heap[k]?:=λV p u c=>jce _ _ _ _ (λq=>a (q.trans c));rw[e _ _ _ rfl,e _ _ _ rfl,e _ _ _ rfl,e _ _ _ rfl]
variable {n:Nat}
theorem qe8 (h:Below n w W) (a:n<=b) (x0 x1 x2 x3:Int):Below n w ((((W.setCell (AD b 0) (U x0)).setCell (AD b 1) (U x1)).setCell (AD b 2) (U x2)).setCell (AD b 3) (U x3)):=
 (((h.setCell (p:=AD b 0) a _).setCell (p:=AD b 1) a _).setCell (p:=AD b 2) a _).setCell (p:=AD b 3) a _
theorem q45 {B a:Nat} {T:TypeId} {v:Value} {xs:List Value} (h:w.ownsRow B T k v n xs) (c:a<=B):w.ownsRow a T k v n xs:=
 ⟨h.1,h.2.imp (λq=>q) (λ⟨g,cap,cur,e,d,r⟩=>⟨g,cap,cur,e,jcn c d,r⟩)⟩
theorem jab {G:Nat->Prop} {W:WoS} (w:World) (h:PW w b G W) (x:WfW W) {i:Nat} (hi:i<W.n):
 Ca 114 #[PP b,U i] w λe w'=>∃v,e=.returned (.tuple #[.agg #[U (W.S i).a0,U (W.S i).a1,U (W.S i).a2,U (W.S i).a3],U (W.S i).waits.length,v,U (W.S i).l.length,.nilIface])/\w'.ownsRow w.heap.size 9 1 v 8 (qej (W.S i).a0 (W.S i).a1 (W.S i).a2 (W.S i).a3 (W.S i).l 8)/\Bw w w':=by
 obtain⟨M,R,h,V⟩:=h;have c:=boxed (jcc _ w) (.cells #[U 0,U 0,U 0,U 0] 77);have j:=qd.new (w:=w) (T:=77) [U 0,U 0,U 0,U 0] rfl;change qd (w.alloc (.cells #[U 0,U 0,U 0,U 0] 77)) w.heap.size [U 0,U 0,U 0,U 0]at j;have m:=(h.site hi).later c;obtain⟨X,Y,y,Z,aa,y0,y1⟩:=(h.later c).place hi;have hlt:=(h.later c).box.lt;have z:=yi (k:=i) (v:=true) _ y (by simp;omega);have B:=qff _ m;have a:=hd3 m (x.inv i hi) j
 have q1:(i:Int)<(W.n:Int):=by omega
 go_enter Tryz.func114,Tryz.ntmps114
 go_wp2_with fail
 refine z.mono ?_;rintro e w2 ⟨rfl,C⟩;have D:=C.symm;subst D
 go_wp2_with fail
 refine B.mono ?_;rintro e E ⟨rfl,o⟩;have F:=q3f E (a.out.1.later o)
 go_wp2_with fail
 refine F.mono ?_;rintro e p ⟨rfl,H⟩;have f:=qa o H;have I:=q6f p (a.out.1.later f) a.out.2.1
 go_wp2_with fail
 refine I.mono ?_;rintro e J ⟨v,rfl,r,K⟩;have s:=qa f K;have L:=q1v J (a.out.1.later s) a.out.2.1
 go_wp2_with fail
 refine L.mono ?_;rintro e w6 ⟨rfl,t⟩;have u:=qa s t;have g:=a.out.2.2.later u
 have s4:w.heap.size<p.heap.size:=by have:=f.size;simp at this;omega
 have N:=qf r (λk e=>t.block k (r.lt k e).2);have d:=hd3 N g (qa c u);obtain⟨a0,a1,a2,a3⟩:=g.c4;obtain⟨f0,f1,f2,f3⟩:=g.f4
 go_wp2_with fail
 have O:=q7m d.out.2.1 (W.S i).a0 (W.S i).a1 (W.S i).a2 (W.S i).a3;have P:=qe8 d.out.2.2 (jcd _) (W.S i).a0 (W.S i).a1 (W.S i).a2 (W.S i).a3;have Q:=qf d.out.1 (λk e=>qx7 (b:=w.heap.size) (λq=>by have:=(d.out.1.lt k e).1;omega) (W.S i).a0 (W.S i).a1 (W.S i).a2 (W.S i).a3);refine bodyPost_ret (qlr O rfl rfl rfl rfl rfl) rfl ⟨v,rfl,?_,P⟩;exact q45 Q (by omega)
end
theorem qv5 {b:Nat} {G:Nat->Prop} {S:qe} (a:Int) (w:World) (h:PS w b G S):
 Ca 162 #[PP b,U a] w λe w'=>
  e=.returned (.agg #[U (qj S (jw a)).v0,U (qj S (jw a)).v1,U (qj S (jw a)).v2,U (qj S (jw a)).v3])/\Bw w w':=by
 obtain⟨lv,bm,F,log,waits,h,_,_,_⟩:=h;exact qzh a w h
section
def swV (W:WoS) (k:Nat):Nat->V4
 |0=>qj (W.S k) (jw W.n)
 |j+1=>if W.at_ j=k/\(W.ses j).opn=true then ⟨qm (swV W k j).v0 (W.ses j).s0,qm (swV W k j).v1 (W.ses j).s1,qm (swV W k j).v2 (W.ses j).s2,qm (swV W k j).v3 (W.ses j).s3⟩else swV W k j
def v4C (v:V4):List Value:=[U v.v0,U v.v1,U v.v2,U v.v3]
def qo2 (W:WoS) (k:Nat):WoS:=setSite W k {W.S k with l:=qcr (qm (swV W k W.c).v0 (W.S k).a0) (qm (swV W k W.c).v1 (W.S k).a1) (qm (swV W k W.c).v2 (W.S k).a2) (qm (swV W k W.c).v3 (W.S k).a3) (W.S k).l}
variable {b:Nat}
theorem qmu {W:World} {a c d e:Int} (h:qd W b [U a,U c,U d,U e]) (x0 x1 x2 x3:Int):qd ((((W.setCell (AD b 0) (U x0)).setCell (AD b 1) (U x1)).setCell (AD b 2) (U x2)).setCell (AD b 3) (U x3)) b (v4C ⟨x0,x1,x2,x3⟩):=
 (((h.set 0 _ (by simp)).set 1 _ (by simp)).set 2 _ (by simp)).set 3 _ (by simp)
theorem q5f {G:Nat->Prop} {W:WoS} (w:World) (h:PW w b G W) (O:WfW W) {i:Nat} (hi:i<W.n):
 Ca 115 #[PP b,U i] w λe w'=>e=.returned (jc 0)/\vh w b G (qo2 W i) w':=by
 obtain⟨M,Gs,h,hG⟩:=h;have a:=hd4 h hG O hi;obtain⟨pb,pc,c0,hpc,hpb,y0,y1⟩:=h.place hi;have hlt:=h.box.lt;have IS:=yi (k:=i) (v:=true) w c0 (by simp;omega);have ST:=qv5 (W.n:Int) w (h.site hi)
 have q1:(i:Int)<(W.n:Int):=by omega
 have HC6:=hd1 O.c6;go_enter Tryz.func115,Tryz.ntmps115
 go_wp2_with fail
 refine IS.mono ?_;rintro e w2 ⟨rfl,hw2⟩;have hw3:=hw2.symm;subst hw3
 go_wp2_with fail
 refine ST.mono ?_;rintro e o ⟨rfl,P⟩;obtain⟨V,Q⟩:∃V,qj (W.S i) (jw W.n)=V:=⟨_,rfl⟩;rw[Q];have bz:=boxed (jcc _ o) (.cells #[U V.v0,U V.v1,U V.v2,U V.v3] 77);have y:=qd.new (w:=o) (T:=77) [U V.v0,U V.v1,U V.v2,U V.v3] rfl;change qd (o.alloc (.cells #[U V.v0,U V.v1,U V.v2,U V.v3] 77)) o.heap.size [U V.v0,U V.v1,U V.v2,U V.v3]at y;have B:=qa P bz;obtain⟨ca,cc,hcv,r⟩:=qq a.out.1.cr;have c1:=cell_later B (a.out.1.box.cell 1 _ rfl);rw[hcv]at c1;have hlt4:=jci hlt B.size;have hrl:=r.len;have HR:=hd1 r;have HV:=hd1 Q
 go_wp2_with fail
 obtain⟨C,hw4⟩:∃C,o.alloc (.cells #[U V.v0,U V.v1,U V.v2,U V.v3] 77)=C:=⟨_,rfl⟩;rw[hw4]at y B ⊢;obtain⟨d,R⟩:∃d,o.heap.size=d:=⟨_,rfl⟩
 have hvw:w.heap.size<=d:=by rw[<-R];exact P.size
 rw[R]at y ⊢;have J:=hd3 (show qd C d (v4C (swV W i 0))from by show qd C d (v4C (qj (W.S i) (jw W.n)));rw[HV.out];exact y) B hvw
 go_loopw [34] (λiv wr=>∃(j:Nat) (z:Int),j<=W.c/\z=j/\iv=U z/\Hid (qd wr d (v4C (swV W i j))/\Bw w wr)) (λiv _=>W.c-(intOf iv).toNat)
 case atStart=>exact⟨0,0,by omega,rfl,rfl,J.out.1,J.out.2.1⟩
 obtain⟨j,z,hj,hz,rfl,f⟩:=hrel;have p:=hd1 hz;by_cases D:j<W.c
 ·have g1:z<(W.c:Int):=by omega
  have g2:z.toNat=j:=by omega
  have g3:0<=z:=by omega
  have g4:z<6:=by have:=HC6.out;omega
  obtain⟨cb,hca,hcb,X⟩:∃g,ca=some (AD g 0)/\g<w.heap.size/\∀j u,(zt M.bs (λk=>(W.at_ k:Int)) W.c)[j]?=some u->w.cell? (AD g j)=some u:=by
   rcases HR.out.held with Y|Y
   ·omega
   exact Y
  subst hca;have x0:=cell_later f.out.2 (X _ _ (qea D).1);have x1o:=cell_later f.out.2 (X _ _ (qea D).2);obtain⟨l,Z⟩:∃l:Int,(W.at_ j:Int)=l:=⟨_,rfl⟩
  have x1:wr.cell? (AD cb (j*2+1))=some (U l):=by rw[<-Z];exact x1o
  have aa:=hd1 Z;have bx:=boxed (jcc _ wr) (.cells #[PP (M.bs j),U l] 171);have hbx:=qa f.out.2 bx;have E:=qmk _ ((a.out.1.sess D).later hbx);have RB:=f.out.1.later bx;have m:=hd3 RB hbx (qd.new (w:=wr) (T:=171) [PP (M.bs j),U l] rfl);by_cases F:l=(i:Int)
  ·subst F
   have HAI:Hid (W.at_ j=i):=by have:=aa.out;show _=_;omega
   cases ho:(W.ses j).opn
   ·have s:Hid (swV W i (j+1)=swV W i j):=if_neg (λq=>by rw[ho]at q;cases q.2);rw[ho]at E
    go_wp2_with fail
    refine E.mono ?_;rintro e H ⟨rfl,t⟩
    go_wp2_with fail
    go_roundw
    case rel=>exact⟨j+1,z+1,by omega,by have:=p.out;omega,by go_num,by rw[s.out];exact m.out.1.later t,qa m.out.2.1 t⟩
    simp[intOf];have:=p.out;omega
   have s:Hid (swV W i (j+1)=⟨qm (swV W i j).v0 (W.ses j).s0,qm (swV W i j).v1 (W.ses j).s1,qm (swV W i j).v2 (W.ses j).s2,qm (swV W i j).v3 (W.ses j).s3⟩):=if_pos ⟨HAI.out,ho⟩;rw[ho]at E
   go_wp2_with fail
   refine E.mono ?_;rintro e H ⟨rfl,t⟩;obtain⟨v,hv⟩:∃v,swV W i j=v:=⟨_,rfl⟩
   have K:qd H d [U v.v0,U v.v1,U v.v2,U v.v3]:=by have:=m.out.1.later t;rw[hv]at this;exact this
   have L:=m.out.2.2.later t;have hbw5:=qa m.out.2.1 t;have SN:=hd1 (qrq _ ((a.out.1.sess D).later hbw5.drew));have MI:Hid (∀w',Ca 163 #[.agg #[U v.v0,U v.v1,U v.v2,U v.v3],.agg #[U (W.ses j).s0,U (W.ses j).s1,U (W.ses j).s2,U (W.ses j).s3]] w' λe w''=>e=.returned (.agg #[U (qm v.v0 (W.ses j).s0),U (qm v.v1 (W.ses j).s1),U (qm v.v2 (W.ses j).s2),U (qm v.v3 (W.ses j).s3)])/\Bw w' w''):=λw'=>qn5 _ _ _ _ _ _ _ _ w';rw[hv]at s;have N:=hd3 K hbw5 L;obtain⟨a0,a1,a2,a3⟩:=K.c4;have k0:=L.cell 0 _ rfl;have lv:=K.lt;have lc:=L.lt
   go_wp2_with fail
   go_region_law (first
        |(refine qah rfl 148 rfl #[PP (M.bs j)] (by go_simp) SN.out ?_
          rintro e w6 ⟨rfl,hb6⟩;refine⟨_,rfl,?_⟩;have I:=N.out.1.later (qa (jcc _ H).drew hb6);have b0:=I.cell 0 _ rfl;have b1:=I.cell 1 _ rfl;have b2:=I.cell 2 _ rfl
          have b3:=I.cell 3 _ rfl)
        |(refine qah rfl 163 rfl #[.agg #[U v.v0,U v.v1,U v.v2,U v.v3],.agg #[U (W.ses j).s0,U (W.ses j).s1,U (W.ses j).s2,U (W.ses j).s3]] (by go_simp) (MI.out w6) ?_
          rintro e w7 ⟨rfl,hb7⟩;refine⟨_,rfl,?_⟩;have hb57:=qa (qa (jcc _ H).drew hb6) hb7;have x:=N.out.1.later hb57;obtain⟨d0,d1,d2,d3⟩:=x.c4;have f0:=x.free 0 (by simp);have f1:=x.free 1 (by simp);have f2:=x.free 2 (by simp)
          have f3:=x.free 3 (by simp)))
   all_goals
        go_wp2_with fail
        go_roundw
        case rel=>exact⟨j+1,z+1,by omega,by have:=p.out;omega,by go_num,by rw[s.out];exact qmu x _ _ _ _,qe8 (qa N.out.2.1 hb57) J.out.2.2 _ _ _ _⟩
        simp[intOf];have:=p.out;omega
  have s:Hid (swV W i (j+1)=swV W i j):=if_neg (λq=>F (by have:=aa.out;have:=q.1;omega))
  have hq1:(l==(i:Int))=false:=by simp[F]
  have hq2:=decide_eq_false F
  go_wp2_with fail
  go_roundw
  case rel=>exact⟨j+1,z+1,by omega,by have:=p.out;omega,by go_num,by rw[s.out];exact m.out.1,m.out.2.1⟩
  simp[intOf];have:=p.out;omega
 have g1:¬z<(W.c:Int):=by omega
 have e:j=W.c:=by omega
 subst e;have R9:=f.out.1;have H9:=a.out.1.later f.out.2;have SW:=qx0 (swV W i W.c).v0 (swV W i W.c).v1 (swV W i W.c).v2 (swV W i W.c).v3 wr (H9.site a.out.2.2.2) (a.out.2.2.1.inv i a.out.2.2.2);obtain⟨z0,z1,z2,z3⟩:=R9.c4
 go_wp2_with fail
 refine SW.mono ?_;rintro e w9 ⟨rfl,hp⟩
 go_wp2_with fail
 go_ret;exact⟨rfl,vh.from f.out.2 (H9.stepS a.out.2.1 a.out.2.2.2 hp)⟩
end
section
variable {S:qe}
theorem qis {now c d e f:Int} {ws:List Wr} (a:j3 S) (l:qfl S now c d e f ws=0):okT (zv S now c d e f ws)=true:=by
 obtain⟨m,b,t,u,n⟩:=qip l;obtain⟨o,p,v⟩:=q43 n;have w:=a.own
 have x:qoz S S.id<=200:=by have:=a.log;show qp S.id _ _ _ _<=200;omega
 have q:0<=qoz S S.id:=(a.dep S.id).1
 have r:jb (qch S.id (qoz S S.id) c) (qcl S.id (qoz S S.id) d) (qck S.id (qoz S S.id) e) (qcj S.id (qoz S S.id) f)=true:=by
  have h:=qf7 q (by omega);simp only[jb,jct]at b ⊢;refine⟨⟨⟨?_,?_⟩,?_⟩,?_⟩
  ·unfold qch;split;exact h;exact b.1.1.1
  ·unfold qcl;split;exact h;exact b.1.1.2
  ·unfold qck;split;exact h;exact b.1.2
  unfold qcj;split;exact h;exact b.2
 show jt S.id (qoz S S.id+1) (qcp S.lw S.lc now).1 (qcp S.lw S.lc now).2.1 (qch S.id (qoz S S.id) c) (qcl S.id (qoz S S.id) d) (qck S.id (qoz S S.id) e) (qcj S.id (qoz S S.id) f) ws=true;unfold jt;simp only[jct,jk,decide_eq_true_eq];refine⟨⟨⟨⟨⟨⟨a.id0,a.id3⟩,⟨by omega,by omega⟩⟩,⟨o,p⟩⟩,r⟩,?_⟩,m⟩;rw[q3w _ _ _ _ _ _ S.id a.id0 a.id3,if_pos rfl];omega
variable {s:qy}
theorem qxy {now:Int} (h:0<(qce S s now).seq):qfl S now s.s0 s.s1 s.s2 s.s3 (jh s.ws)=0/\qce S s now=zv S now s.s0 s.s1 s.s2 s.s3 (jh s.ws):=by
 unfold qce at h ⊢;by_cases q:s.opn=false\/(jh s.ws).length=0
 ·rw[if_pos q]at h;exact absurd h (by decide)
 rw[if_neg q]at h ⊢;unfold qha at h ⊢;by_cases e:qfl S now s.s0 s.s1 s.s2 s.s3 (jh s.ws)=0
 ·rw[if_pos e];exact⟨e,rfl⟩
 rw[if_neg e]at h;exact absurd h (by decide)
theorem qju {a b:Int} (h:0<=a):0<=jd a b:=by unfold jd;split<;>omega
theorem q8n {now:Int} (h:0<=s.p0):0<=(j0 S s now).p0:=by
 unfold j0;split
 ·exact h
 split
 ·exact qju h
 show 0<=(if _ then jd (jd s.p0 s.s0) _ else jd s.p0 s.s0);split
 ·exact qju (qju h)
 exact qju h
theorem q24 {now:Int} (a:j3 S) (h:∀x∈S.log,okT x=true):(∀x∈(qcc S s now).log,okT x=true)/\(qcc S s now).id=S.id/\(qcc S s now).waits=S.waits:=by
 unfold qcc;split
 ·exact⟨h,rfl,rfl⟩
 unfold qf3;split
 ·rename_i e;refine⟨λx b=>?_,rfl,rfl⟩;rcases jcf.1 (show x∈S.log++[_]from b)with q|q
  ·exact h x q
  rw[jcj.1 q];exact qis a e
 exact⟨h,rfl,rfl⟩
structure PlI (j:Nat) (W:WoS):Prop where
 wf:WfW W
 nt:qeq W
 ps:∀k,k<W.c->0<=(W.ses k).p0
 wl:∀i,i<W.n->0<=W.wall i/\W.wall i<=1099511627776
 ln:∀k,k<W.c->(W.ses k).ws.length<=j
section
variable {W W':WoS} {g:GrS} {k i j:Nat}
theorem PlI.mono (h:PlI j W) {m:Nat} (a:j<=m):PlI m W:=⟨h.wf,h.nt,h.ps,h.wl,λk b=>jcn (h.ln k b) a⟩
theorem PlI.new {n c:Nat} (b:1<=n) (d:n<=4) (e:c<=6):PlI 0 (qcb n c):=
 ⟨⟨b,d,e,λk _=>(show (0:Nat)<n by omega),λi hi=>j3.new (show (0:Int)<=(i:Int) by omega) (show (i:Int)<=3 by have:i<n:=hi;omega),λi _=>rfl,(jcw _:0<=300),λi _=>(jcw _:0<=40),λi _ x f=>(by cases f),λg a=>(by cases a)⟩,λg a=>(by cases a),λk _=>(Int.le_refl 0),λi _=>⟨Int.le_refl 0,(by show (0:Int)<=_;decide)⟩,λk _=>jcd 0⟩
theorem PlI.keep (h:PlI j W) (a:WfW W') (b:qeq W') (k:qet W W'):PlI j W':=⟨a,b,by rw[k.c,k.ses];exact h.ps,by rw[k.n,k.wall];exact h.wl,by rw[k.c,k.ses];exact h.ln⟩
theorem WfW.sessions (h:WfW W) (f:Nat->qy):WfW {W with ses:=f}:=⟨h.n1,h.n4,h.c6,h.at_,h.inv,h.id,h.net,h.wt,h.lok,h.to⟩
theorem PlI.ses (h:PlI j W) {a:qy} (b:0<=a.p0) (c:a.ws.length<=j):PlI j (vf W k a):=by
 refine⟨h.wf.sessions _,h.nt,λi hi=>?_,h.wl,λi hi=>?_⟩<;>show (_:Prop)<;>by_cases q:i=k
 ·show 0<=(jj W.ses k a i).p0;rw[q,qt];exact b
 ·show 0<=(jj W.ses k a i).p0;rw[yq _ _ q];exact h.ps i hi
 ·show (jj W.ses k a i).ws.length<=j;rw[q,qt];exact c
 show (jj W.ses k a i).ws.length<=j;rw[yq _ _ q];exact h.ln i hi
theorem PlI.begin (h:PlI j W) (a:k<W.c):PlI j (vf W k (qhd (W.S (W.at_ k)) (W.ses k))):=by
 unfold qhd;split
 ·exact h.ses (h.ps k a) (jcw _)
 exact h.ses (h.ps k a) (h.ln k a)
theorem PlI.write (h:PlI j W) (a:k<W.c) (x:Wr):PlI (j+1) (vf W k (qd2 (W.ses k) x)):=by
 have:=h.ln k a;unfold qd2;split
 ·exact(h.mono (Nat.le_succ j)).ses (h.ps k a) (by simp;omega)
 exact(h.mono (Nat.le_succ j)).ses (h.ps k a) (by omega)
theorem PlI.abort (h:PlI j W) (a:k<W.c):PlI j (vf W k (qhh (W.ses k))):=by
 unfold qhh;split
 ·exact h.ses (h.ps k a) (h.ln k a)
 exact h.ses (qju (h.ps k a)) (jcw _)
theorem q6a {now:Int}:(j0 S s now).ws.length<=s.ws.length:=by
 unfold j0;split
 ·exact jcd _
 split
 ·exact jcw _
 exact jcw _
theorem PlI.told (h:PlI j W) (b:k<W.c) (d:0<(wcT W k).seq):okT (wcT W k)=true/\(wcT W k).site=(W.at_ k:Int):=by
 have a:=h.wf.at_ k b;obtain⟨f,l⟩:=qxy d;have e:wcT W k=_:=l;rw[e];exact⟨qis (h.wf.inv _ a) f,h.wf.id _ a⟩
theorem PlI.commit (h:PlI j W) (b:k<W.c):PlI j (wcW W k):=by
 have a:=h.wf.at_ k b;have d:=q24 (s:=W.ses k) (now:=W.wall (W.at_ k)) (h.wf.inv _ a) (h.wf.lok _ a);have w0:=h.wf.setSite (h.wf.inv _ a).scom (d.2.1.trans (h.wf.id _ a)) (by rw[d.2.2];exact h.wf.wt _ a) d.1;have p0:PlI j (setSite W (W.at_ k) (qcc (W.S (W.at_ k)) (W.ses k) (W.wall (W.at_ k)))):=⟨w0,h.nt,h.ps,h.wl,h.ln⟩;have p1:PlI j (qd4 W k):=p0.ses (q8n (h.ps k b)) (jcn q6a (h.ln k b));unfold wcW;split
 ·rename_i q;exact p1.keep (WfW.tell _ _ p1.wf (jcd _)) (p1.nt.tell (h.told b q).1 _) (zx _ _ _).keep
 exact p1
theorem PlI.move (h:PlI j W) {a:Nat} (b:a<W.n):PlI j (qhx W k a):=by
 unfold qhx;split
 ·exact h
 refine⟨⟨h.wf.n1,h.wf.n4,h.wf.c6,λi hi=>?_,h.wf.inv,h.wf.id,h.wf.net,h.wf.wt,h.wf.lok,h.wf.to⟩,h.nt,h.ps,h.wl,h.ln⟩;show jj W.at_ k a i<W.n;by_cases q:i=k
 ·rw[q,qt];exact b
 rw[yq _ _ q];exact h.wf.at_ i hi
theorem PlI.goes (h:PlI j W) {y:Int} (b:0<=y) (hi:i<W.n):PlI j (qm8 W i y):=by
 refine⟨⟨h.wf.n1,h.wf.n4,h.wf.c6,h.wf.at_,h.wf.inv,h.wf.id,h.wf.net,h.wf.wt,h.wf.lok,h.wf.to⟩,h.nt,h.ps,λm a=>?_,h.ln⟩;show 0<=jj W.wall i (qk3 (W.wall i+y)) m/\jj W.wall i (qk3 (W.wall i+y)) m<=_;by_cases q:m=i
 ·rw[q,qt];have:=h.wl i hi;unfold qk3
  split<;>omega
 rw[yq _ _ q];exact h.wl m a
theorem PlI.send (h:PlI j W) (a:g.to<W.n) (b:q69 W.n g):PlI j (zk W g):=h.keep (h.wf.send a) (h.nt.send b) (yb _ _).keep
theorem PlI.deliver (h:PlI j W) (a:zy W i W'):PlI j W':=h.keep (h.wf.deliver a) (h.nt.deliver h.wf a) a.keep
theorem PlI.drop (h:PlI j W) (i:Nat):PlI j (qai W i):=⟨h.wf.drop i,h.nt.drop i,h.ps,h.wl,h.ln⟩
theorem PlI.sweep (h:PlI j W) (hi:i<W.n):PlI j (qo2 W i):=⟨h.wf.setSite ((h.wf.inv i hi).swept _ _ _ _) (h.wf.id i hi) (h.wf.wt i hi) (h.wf.lok i hi),h.nt,h.ps,h.wl,h.ln⟩
end
end
section
theorem qjo {tmps:Array Value} {w:World} {a c:Nat} {p0 p1 p2 p3 s0 s1 s2 s3:Int} {d e f:Value} (g:qd w a [U p0,U p1,U p2,U p3]) (h:qd w c [U s0,U s1,U s2,U s3]) (i:tmps[4]?=some d) (j:tmps[5]?=some (PP a)) (k:tmps[6]?=some (PP c)) (l:tmps[7]?=some e) (m:tmps[8]?=some f):
 (results Tryz.f101 tmps).run Tryz.prog w=.ok (.tuple #[d,.agg #[U p0,U p1,U p2,U p3],.agg #[U s0,U s1,U s2,U s3],e,f]) w:=by
 obtain⟨n,o,p,q⟩:=g.c4;obtain⟨r,s,t,u⟩:=h.c4;simp[results,Tryz.results101,go_sem,i,j,k,l,m,n,o,p,q,r,s,t,u]
variable {W:World} {b:Nat} {xs:List Value}
theorem qwb (h:qd W b xs) (e:xs.length=4) (x0 x1 x2 x3:Int):qd ((((W.setCell (AD b 0) (U x0)).setCell (AD b 1) (U x1)).setCell (AD b 2) (U x2)).setCell (AD b 3) (U x3)) b [U x0,U x1,U x2,U x3]:=by
 obtain⟨a,f,c,d,rfl⟩:∃a b c d,xs=[a,b,c,d]:=by
  match xs,e with
  |[a,b,c,d],_=>exact⟨a,b,c,d,rfl⟩
 exact(((h.set 0 _ (by simp)).set 1 _ (by simp)).set 2 _ (by simp)).set 3 _ (by simp)
theorem qpq {q:Nat} (h:qd W b xs) (a:q≠b) (x0 x1 x2 x3:Int):qd ((((W.setCell (AD q 0) (U x0)).setCell (AD q 1) (U x1)).setCell (AD q 2) (U x2)).setCell (AD q 3) (U x3)) b xs:=
 (((h.far _ _ a).far _ _ a).far _ _ a).far _ _ a
theorem q26 {G:Nat->Prop} {W:WoS} (w:World) (h:PW w b G W) {i:Nat} (hi:i<W.c):
 Ca 101 #[PP b,U i] w (Rn (.tuple #[U (W.at_ i),.agg #[U (W.ses i).p0,U (W.ses i).p1,U (W.ses i).p2,U (W.ses i).p3],.agg #[U (W.ses i).s0,U (W.ses i).s1,U (W.ses i).s2,U (W.ses i).s3],.bool (W.ses i).opn,.nilIface]) w):=by
 obtain⟨M,Q,h,R⟩:=h;have l:=boxed (boxed (jcc _ w) (.cells #[U 0,U 0,U 0,U 0] 77)) (.cells #[U 0,U 0,U 0,U 0] 77);obtain⟨cb,S,s,V,X,x0,x1⟩:=(h.later l).client hi;have t:=yf (k:=i) (v:=true) _ s (by simp;omega);have g:=(boxed l (.cells #[PP (M.bs i),U (W.at_ i)] 171)).drew;have u:=hd1 (λw' f=>q00 w' ((h.sess hi).later f));have x:=hd1 (λw' f=>qrq w' ((h.sess hi).later f));have y:=hd1 (λw' f=>qmk w' ((h.sess hi).later f));have z:qd ((w.alloc (.cells #[U 0,U 0,U 0,U 0] 77)).alloc (.cells #[U 0,U 0,U 0,U 0] 77)) w.heap.size [U 0,U 0,U 0,U 0]:=(qd.new (w:=w) (T:=77) [U 0,U 0,U 0,U 0] rfl).boxed _;have B:qd ((w.alloc (.cells #[U 0,U 0,U 0,U 0] 77)).alloc (.cells #[U 0,U 0,U 0,U 0] 77)) (w.heap.size+1) [U 0,U 0,U 0,U 0]:=qd.new (T:=77) [U 0,U 0,U 0,U 0] (by simp)
 have Y:(i:Int)<(W.c:Int):=by omega
 have Z:=(h.later l).box.lt;have o:=hd2 z B;have p:=(boxed (jcc _ ((w.alloc (.cells #[U 0,U 0,U 0,U 0] 77)).alloc (.cells #[U 0,U 0,U 0,U 0] 77))) (.cells #[PP (M.bs i),U (W.at_ i)] 171)).drew;have C:qd (((w.alloc (.cells #[U 0,U 0,U 0,U 0] 77)).alloc (.cells #[U 0,U 0,U 0,U 0] 77)).alloc (.cells #[PP (M.bs i),U (W.at_ i)] 171)).drew (w.heap.size+1+1) [PP (M.bs i),U (W.at_ i)]:=(qd.new (T:=171) [PP (M.bs i),U (W.at_ i)] (by simp)).drew;have D:=C;have Y0:=λ(w':World) (h:qd w' (w.heap.size+1+1) [PP (M.bs i),U (W.at_ i)])=>h.cell 0 _ rfl;have Y1:=λ(w':World) (h:qd w' (w.heap.size+1+1) [PP (M.bs i),U (W.at_ i)])=>h.cell 1 _ rfl;go_enter Tryz.func101,Tryz.ntmps101
 go_wp2_with fail
 refine t.mono ?_;rintro e w2 ⟨rfl,E⟩;have F:=E.symm;subst F
 go_wp2_with fail
 go_region_held3 (λw'=>qd w' (w.heap.size+1+1) [PP (M.bs i),U (W.at_ i)]) (first|with_reducible assumption|(with_reducible refine qpq ?_ (by omega) _ _ _ _;with_reducible assumption))
  (first
    |(go_at_call 147;(with_reducible refine(u.out _ g).mono ?_);rintro e w3 ⟨rfl,j⟩;have H:=D.later j)
    |(go_at_call 148;(with_reducible refine(x.out _ (qa g j)).mono ?_);rintro e w4 ⟨rfl,m⟩;have I:=H.later m)
    |(go_at_call 149;(with_reducible refine(y.out _ (qa (qa g j) m)).mono ?_);rintro e w5 ⟨rfl,r⟩;have C5:=I.later r;have n:=qa (qa j m) r;have a:=(o.out.1.later p).later n;have d:=(o.out.2.later p).later n;have a0:=a.cell 0 _ rfl;have a1:=a.cell 1 _ rfl;have a2:=a.cell 2 _ rfl;have a3:=a.cell 3 _ rfl;have f0:=a.free 0 (by simp);have f1:=a.free 1 (by simp);have f2:=a.free 2 (by simp);have f3:=a.free 3 (by simp);have d0:=d.cell 0 _ rfl;have d1:=d.cell 1 _ rfl;have d2:=d.cell 2 _ rfl;have d3:=d.cell 3 _ rfl;have e0:=d.free 0 (by simp);have e1:=d.free 1 (by simp);have e2:=d.free 2 (by simp);have e3:=d.free 3 (by simp);have J:=qa g n))
 all_goals
  go_wp2_with fail
  have K:=qwb a rfl (W.ses i).p0 (W.ses i).p1 (W.ses i).p2 (W.ses i).p3;have L:=qpq (q:=w.heap.size) d (by omega) (W.ses i).p0 (W.ses i).p1 (W.ses i).p2 (W.ses i).p3;have N:=qpq (q:=w.heap.size+1) K (by omega) (W.ses i).s0 (W.ses i).s1 (W.ses i).s2 (W.ses i).s3;have O:=qwb L rfl (W.ses i).s0 (W.ses i).s1 (W.ses i).s2 (W.ses i).s3;have P:=qe8 (b:=w.heap.size+1) (qe8 (b:=w.heap.size) J (by omega) (W.ses i).p0 (W.ses i).p1 (W.ses i).p2 (W.ses i).p3) (by omega) (W.ses i).s0 (W.ses i).s1 (W.ses i).s2 (W.ses i).s3;refine bodyPost_ret (qjo N O rfl rfl rfl rfl rfl) rfl ⟨rfl,P⟩
end
section
abbrev bya (l:List UInt8):ByteArray:=⟨l.toArray⟩
def qbw (s:ByteArray):Option Int:=
 match Lib.parseIntB 64 s.data.toList with
 |.ok v=>if bya (Lib.itoa v)=s then some v else none
 |_=>none
def qb0:List ByteArray->Option (List Int)
 |[]=>some []
 |s::l=>match qbw s with
  |none=>none
  |some v=>match qb0 l with
   |none=>none
   |some r=>some (v::r)
def ju (m:Nat) (l:List ByteArray):Option (List Int):=if l.length=m then qb0 l else none
def qv (l:List Int):List UInt8:=Lib.join (l.map Lib.itoa) [32]
abbrev ye (k:Int) (n:Nat):Prop:=0<=k/\k<(n:Int)
def qc9:List (List UInt8):=[[97,98,111,114,116],[97,115,107],[98,101,103,105,110],[99,97,108,109],[99,108,105,101,110,116],[99,111,109,109,105,116],[100,101,108,105,118,101,114],[100,114,111,112],[103,111,101,115],[104,101,108,112],[108,111,115,101],[109,97,110,121],[109,111,118,101],[114,101,97,100],[115,105,116,101],[115,119,101,101,112],[116,119,105,99,101],[119,111,114,108,100],[119,114,105,116,101]]
def qn (i:Nat):List UInt8:=qc9.getD i []
def qqi (i:Nat):Nat:=[1,2,1,0,1,1,1,2,2,0,1,0,2,2,1,1,1,2,2].getD i 0
def qgx (W:WoS) (k:Nat):List UInt8:=if (wcT W k).seq=0 then [110,111,116,104,105,110,103]else qv [(wcT W k).site,(wcT W k).seq,(wcT W k).wall,(wcT W k).count]++[58,32]++qv [(wcT W k).d0,(wcT W k).d1,(wcT W k).d2,(wcT W k).d3]
def qsi (W:WoS) (k:Nat):List UInt8:=qv [(W.at_ k:Int)]++[44,32]++qv [(W.ses k).p0,(W.ses k).p1,(W.ses k).p2,(W.ses k).p3]++if (W.ses k).opn=true then [44,32]++qv [(W.ses k).s0,(W.ses k).s1,(W.ses k).s2,(W.ses k).s3]else []
def qc0 (S:qe):List (List UInt8):=(List.range 8).map λ(i:Nat)=>(qdf S.a0 S.a1 S.a2 S.a3 S.l i).data.toList
def qmb (S:qe):List UInt8:=qv [S.a0,S.a1,S.a2,S.a3]++[44,32]++qv [(S.waits.length:Int),(S.l.length:Int)]++[44,32]++Lib.join (qc0 S) [32]
def qaa (i:Nat) (W:WoS) (l:List Int) (d:ByteArray) (W':WoS) (er:Int) (told:List UInt8):Prop:=
 match i,l with
 |0,[k]=>told=qn 0/\if ye k W.c then W'=vf W k.toNat (qhh (W.ses k.toNat))/\er=qi5 (W.ses k.toNat)else W'=W/\er=2
 |1,[k,o]=>told=qn 1/\if ye k W.n/\ye o W.n/\k≠o then W'=qme W k.toNat o.toNat/\er=0 else W'=W/\er=2
 |2,[k]=>told=qn 2/\if ye k W.c then W'=vf W k.toNat (qhd (W.S (W.at_ k.toNat)) (W.ses k.toNat))/\er=qhl (W.S (W.at_ k.toNat)) (W.ses k.toNat)else W'=W/\er=2
 |3,[]=>told=qn 3/\qg9 W W'/\er=0
 |4,[k]=>W'=W/\if ye k W.c then told=qsi W k.toNat/\er=0 else told=[]/\er=2
 |5,[k]=>if ye k W.c then told=qgx W k.toNat/\W'=wcW W k.toNat/\er=wcE W k.toNat else told=[]/\W'=W/\er=2
 |6,[k]=>told=qn 6/\if ye k W.net.length then zy W k.toNat W'/\er=0 else W'=W/\er=2
 |7,[k,key]=>told=qn 7/\if ye k W.c then W'=vf W k.toNat (qd2 (W.ses k.toNat) ⟨key,⟨#[]⟩,true⟩)/\er=qaj (W.ses k.toNat) ⟨key,⟨#[]⟩,true⟩else W'=W/\er=2
 |8,[k,y]=>told=qn 8/\if ye k W.n/\0<=y/\y<=1099511627776 then W'=qm8 W k.toNat y/\er=0 else W'=W/\er=2
 |9,[]=>told=Lib.join qc9 [32]/\W'=W/\er=0
 |10,[k]=>told=qn 10/\if ye k W.net.length then W'=qai W k.toNat/\er=0 else W'=W/\er=2
 |11,[]=>told=qv [(W.net.length:Int),W.lost]/\W'=W/\er=0
 |12,[k,to]=>told=qn 12/\if ye k W.c/\ye to W.n then W'=qhx W k.toNat to.toNat/\er=qll W k.toNat else W'=W/\er=2
 |13,[k,key]=>W'=W/\if ye k W.c then told=[105,115,32]++(vi (W.S (W.at_ k.toNat)) (W.ses k.toNat) key).1.data.toList/\er=(vi (W.S (W.at_ k.toNat)) (W.ses k.toNat) key).2 else told=[]/\er=2
 |14,[k]=>W'=W/\if ye k W.n then told=qmb (W.S k.toNat)/\er=0 else told=[]/\er=2
 |15,[k]=>told=qn 15/\if ye k W.n then W'=qo2 W k.toNat/\er=0 else W'=W/\er=2
 |16,[k]=>told=qn 16/\if ye k W.net.length then (∃g,W.net[k.toNat]?=some g/\W'=zk W g)/\er=0 else W'=W/\er=2
 |17,[n,c]=>told=qn 17/\if (1<=n/\n<=4)/\(0<=c/\c<=6)then W'=qcb n.toNat c.toNat/\er=0 else W'=W/\er=2
 |18,[k,key]=>told=qn 18/\if ye k W.c then W'=vf W k.toNat (qd2 (W.ses k.toNat) ⟨key,d,false⟩)/\er=qaj (W.ses k.toNat) ⟨key,d,false⟩else W'=W/\er=2
 |_,_=>False
def qc2 (i:Nat) (W:WoS) (rest:List ByteArray) (W':WoS) (er:Int) (told:List UInt8):Prop:=
 match (if i=18 then (if rest.length=3 then ju 2 (rest.take 2)else none)else ju (qqi i) rest)with
 |none=>W'=W/\er=3/\told=[]
 |some l=>qaa i W l (rest.getD 2 ⟨#[]⟩) W' er told
def qa9 (s:ByteArray):List ByteArray:=Lib.goFieldsP (λr=>decide (r=32)) s
def qgt (n:Int):List UInt8:=[101,114,114,111,114,32]++Lib.itoa n
def qas (W:WoS) (line:ByteArray) (W':WoS) (told:List UInt8):Prop:=
 match qa9 line with
 |[]=>W'=W/\told=[111,107]
 |x::rest=>match qc9.idxOf? x.data.toList with
  |none=>W'=W/\told=qgt 3
  |some i=>∃er t,qc2 i W rest W' er t/\told=if er=0 then t else qgt er
inductive qd8:WoS->List ByteArray->List UInt8->WoS->Prop
 |nil {W:WoS}:qd8 W [] [] W
 |snoc {W W1 W2:WoS} {l:List ByteArray} {out told:List UInt8} {x:ByteArray}:qd8 W l out W1->qas W1 x W2 told->qd8 W (l++[x]) (out++told++[10]) W2
variable {i:Nat} {W A B:WoS} {e f:Int} {s t:List UInt8}
theorem qaa.det {l:List Int} {d:ByteArray} (h:qaa i W l d A e s) (k:qaa i W l d B f t):A=B/\e=f/\s=t:=by
 unfold qaa at h k
 split at h<;>simp only at k
 case h_4=>exact⟨h.2.1.det k.2.1,h.2.2.trans k.2.2.symm,h.1.trans k.1.symm⟩
 case h_7=>
  refine(λ(x:A=B/\e=f)=>⟨x.1,x.2,h.1.trans k.1.symm⟩) ?_;replace h:=h.2;replace k:=k.2
  split at h<;>rename_i q
  ·rw[if_pos q]at k;exact⟨h.1.det k.1,h.2.trans k.2.symm⟩
  rw[if_neg q]at k;exact⟨h.1.trans k.1.symm,h.2.trans k.2.symm⟩
 case h_17=>
  refine(λ(x:A=B/\e=f)=>⟨x.1,x.2,h.1.trans k.1.symm⟩) ?_;replace h:=h.2;replace k:=k.2
  split at h<;>rename_i q
  ·rw[if_pos q]at k;obtain⟨⟨g,j,rfl⟩,b⟩:=h;obtain⟨⟨g',c,rfl⟩,a⟩:=k;rw[j]at c;injection c with c;rw[c,b,a];exact⟨rfl,rfl⟩
  rw[if_neg q]at k;exact⟨h.1.trans k.1.symm,h.2.trans k.2.symm⟩
 all_goals first
  |exact h.elim
  |(obtain⟨m,b⟩:=h;obtain⟨n,a⟩:=k;split at b<;>rename_i q<;>first|rw[if_pos q]at a|rw[if_neg q]at a)<;>simp only[m,n,b.1,b.2,a.1,a.2,and_self]
  |(split at h<;>rename_i q<;>first|rw[if_pos q]at k|rw[if_neg q]at k)<;>simp only[h.1,k.1,h.2.1,h.2.2,k.2.1,k.2.2,and_self]
  |simp only[h.1,k.1,h.2.1,h.2.2,k.2.1,k.2.2,and_self]
theorem qc2.det {rest:List ByteArray} (h:qc2 i W rest A e s) (k:qc2 i W rest B f t):A=B/\e=f/\s=t:=by
 unfold qc2 at h k
 split at h<;>rename_i q<;>rw[q]at k
 ·exact⟨h.1.trans k.1.symm,h.2.1.trans k.2.1.symm,h.2.2.trans k.2.2.symm⟩
 exact h.det k
theorem qas.det {a:ByteArray} (h:qas W a A s) (k:qas W a B t):A=B/\s=t:=by
 unfold qas at h k
 split at h<;>rename_i q<;>rw[q]at k
 ·exact⟨h.1.trans k.1.symm,h.2.trans k.2.symm⟩
 split at h<;>rename_i r<;>simp only[r]at k
 ·exact⟨h.1.trans k.1.symm,h.2.trans k.2.symm⟩
 obtain⟨e,x,b,rfl⟩:=h;obtain⟨f,y,c,rfl⟩:=k;obtain⟨rfl,rfl,rfl⟩:=b.det c;exact⟨rfl,rfl⟩
theorem qd8.det {l:List ByteArray} (h:qd8 W l s A):∀{B:WoS},qd8 W l t B->A=B/\s=t:=by
 induction h with
 |nil=>
  intro B t k
  generalize a:([]:List ByteArray)=l at k
  cases k with
  |nil=>exact⟨rfl,rfl⟩
  |snoc=>simp at a
 |@snoc W1 W2 l out told x h1 h2 ih=>
  intro B t k
  generalize a:l++[x]=m at k
  cases k with
  |nil=>simp at a
  |snoc k1 k2=>
   obtain⟨b,c⟩:=List.append_inj' a rfl;cases c;subst b;obtain⟨rfl,rfl⟩:=ih k1;obtain⟨rfl,rfl⟩:=h2.det k2;exact⟨rfl,rfl⟩
end
theorem qkp (a0 a1 a2 a3 a b c d:Int) (w:World):
 Ca 77 #[.agg #[U a0,U a1,U a2,U a3],.agg #[U a,U b,U c,U d]] w (Rn (.bool (qa8 a0 a1 a2 a3 a b c d)) w):=by
 by_cases f:a0<a
 ·have e:qa8 a0 a1 a2 a3 a b c d=false:=by simp[qa8];omega
  rw[e];go_enter Tryz.func77,Tryz.ntmps77
  go_wp2
  refine wp_loop_rounds 5 ?_;rw[rounds_succ]
  go_wp2
  go_quiet (fail)
  go_wp2
  go_ret;exact⟨rfl,by repeat (first|exact jcc _ _|apply jy|apply boxed)⟩
 by_cases g:a1<b
 ·have e:qa8 a0 a1 a2 a3 a b c d=false:=by simp[qa8];omega
  rw[e];go_enter Tryz.func77,Tryz.ntmps77
  go_wp2
  refine wp_loop_rounds 5 ?_;rw[rounds_succ]
  go_wp2
  go_quiet (fail)
  go_wp2
  rw[rounds_succ]
  go_wp2
  go_quiet (fail)
  go_wp2
  go_ret;exact⟨rfl,by repeat (first|exact jcc _ _|apply jy|apply boxed)⟩
 by_cases h:a2<c
 ·have e:qa8 a0 a1 a2 a3 a b c d=false:=by simp[qa8];omega
  rw[e];go_enter Tryz.func77,Tryz.ntmps77
  go_wp2
  refine wp_loop_rounds 5 ?_;rw[rounds_succ]
  go_wp2
  go_quiet (fail)
  go_wp2
  rw[rounds_succ]
  go_wp2
  go_quiet (fail)
  go_wp2
  rw[rounds_succ]
  go_wp2
  go_quiet (fail)
  go_wp2
  go_ret;exact⟨rfl,by repeat (first|exact jcc _ _|apply jy|apply boxed)⟩
 by_cases i:a3<d
 ·have e:qa8 a0 a1 a2 a3 a b c d=false:=by simp[qa8];omega
  rw[e];go_enter Tryz.func77,Tryz.ntmps77
  go_wp2
  refine wp_loop_rounds 5 ?_;rw[rounds_succ]
  go_wp2
  go_quiet (fail)
  go_wp2
  rw[rounds_succ]
  go_wp2
  go_quiet (fail)
  go_wp2
  rw[rounds_succ]
  go_wp2
  go_quiet (fail)
  go_wp2
  rw[rounds_succ]
  go_wp2
  go_quiet (fail)
  go_wp2
  go_ret;exact⟨rfl,by repeat (first|exact jcc _ _|apply jy|apply boxed)⟩
 have e:qa8 a0 a1 a2 a3 a b c d=true:=by simp[qa8];omega
 rw[e];go_enter Tryz.func77,Tryz.ntmps77
 go_wp2
 refine wp_loop_rounds 5 ?_;rw[rounds_succ]
 go_wp2
 go_quiet (fail)
 go_wp2
 rw[rounds_succ]
 go_wp2
 go_quiet (fail)
 go_wp2
 rw[rounds_succ]
 go_wp2
 go_quiet (fail)
 go_wp2
 rw[rounds_succ]
 go_wp2
 go_quiet (fail)
 go_wp2
 rw[rounds_succ]
 go_wp2
 go_ret;exact⟨rfl,by repeat (first|exact jcc _ _|apply jy|apply boxed)⟩
end Go.Proofs.YtoanjdndmlffdaaGreatDoor
