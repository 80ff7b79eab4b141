import Derived.Test.YtemiamjnhoeniaaGreatDoorSiteD
import Derived.Test.YtemiamjnhoeniaaGreatDoorPSesCom
set_option maxHeartbeats 8000000
set_option maxRecDepth 100000
namespace Go.Proofs.YtemiamjnhoeniaaGreatDoor
open Go.RowKit
def qsu (x:Int):Int:=if x<=1099511627776 then x else 1099511627776
def qlr (W:WoS) (i:Nat) (by_:Int):WoS:={W with wall:=qb2 W.wall i (qsu (W.wall i+by_))}
theorem qxd {b:Nat} {G:Nat->Prop} {W:WoS} (w:World) (h:PW w b G W) {i:Nat} (D:i<W.n) {y:Int} (Y:0<=y) (Z:y<=1099511627776) (O:0<=W.wall i) (P:W.wall i<=1099511627776):
 Calls Tryz.prog 42 #[.pointer (some ⟨b,0,none⟩),.int .i64 i,.int .i64 y] w λe w'=>e=.returned (qa9 0)/\qgq w b G (qlr W i y) w':=by
 obtain⟨M,s,h,E⟩:=h;obtain⟨Q,R,o,r⟩:=qan h.pr
 obtain⟨l,rfl,aa,H⟩:∃g,Q=some ⟨g,0,none⟩/\g<w.heap.size/\∀j u,(qci M.bp W.wall W.n)[j]?=some u->w.cell? ⟨g,j,none⟩=some u:=by
  rcases r.held with I|I
  ·omega
  ·exact I
 have c0:=h.box.cell 0 _ rfl;rw[o]at c0;have x1:=H _ _ (qeu D).2;have p:=qbd (k:=i) (v:=true) w c0 (by simp;omega);have ab:=h.box.lt;have a:Hid (PWo w b M W s/\(∀k,G k↔qj4 b M (W.n+W.c) s k)/\M.pv=.slice (some ⟨l,0,none⟩) W.n R/\i<W.n):=⟨h,E,o,D⟩
 have d:(i:Int)<(W.n:Int):=by omega
 have ac:=r.len
 have fz:w.frozen? ⟨l,i*2+1,none⟩=false:=by
  have J:=h.pr;rw[o]at J;rcases J.2 with ⟨q,_⟩|⟨g2,cap2,cur,q,_,S,_⟩
  ·cases q
  ·injection q with d q2 q3;injection d with d;injection d with d;subst d;unfold World.frozen?;rw[S];simp
 obtain⟨wl,x⟩:∃wl,W.wall i=wl:=⟨_,rfl⟩;rw[x]at x1 O P
 have hwz:wrap64 (wl+y)=wl+y:=by unfold wrap64;omega
 have K:Hid (qlr W i y={W with wall:=qb2 W.wall i (qsu (wl+y))}):=by show _=_;unfold qlr;rw[x]
 have L:Hid (∀w',w'=w.drew.setCell ⟨l,i*2+1,none⟩ (.int .i64 (qsu (wl+y)))->qgq w b G {W with wall:=qb2 W.wall i (qsu (wl+y))} w'):=λw' e=>by
  subst e;obtain⟨T,U⟩:=(a.out.1.later (Below.refl _ w).drew).setWall a.out.2.2.1 a.out.2.2.2 (qsu (wl+y))
  have V:M.pv.ownBlock=some l:=by rw[a.out.2.2.1];rfl
  refine⟨_,⟨M,s,T,λ_=>Iff.rfl⟩,λk z=>.inl ((a.out.2.1 k).2 z),?_⟩;have t:=(qae.ofBelow (F:=λk=>k=l) (Below.refl _ w).drew).trans U;exact⟨t.os,t.tape,t.output,t.size,λk z X=>t.block k z (λe=>X ((a.out.2.1 k).2 (.inl (.inr (.inl (by rw[V,e]))))))⟩
 clear h E H r o x;by_cases N:wl+y<=1099511627776
 ·have B:Hid (qsu (wl+y)=wl+y):=if_pos N;go_enter Tryz.func42,Tryz.ntmps42
  go_wp2_with fail
  refine p.mono ?_;rintro e w2 ⟨rfl,m⟩;have C:=m.symm;clear m p;subst C
  go_wp2_with fail
  go_region
  all_goals
   go_wp2_with fail
   go_ret;refine⟨rfl,?_⟩;rw[K.out];exact L.out _ (by rw[B.out];rfl)
 ·have B:Hid (qsu (wl+y)=1099511627776):=if_neg N;go_enter Tryz.func42,Tryz.ntmps42
  go_wp2_with fail
  refine p.mono ?_;rintro e w2 ⟨rfl,m⟩;have C:=m.symm;clear m p;subst C
  go_wp2_with fail
  go_region
  all_goals
   go_wp2_with fail
   go_ret;refine⟨rfl,?_⟩;rw[K.out];exact L.out _ (by rw[B.out];rfl)
section
open Go.Maps
variable {b:Nat} {G:Nat->Prop} {S:qaf}
theorem qzq (w:World) (h:PS w b G S):
 Calls Tryz.prog 56 #[.pointer (some ⟨b,0,none⟩)] w λe w'=>e=.returned (.int .i64 S.waits.length)/\Below w.heap.size w w':=by
 obtain⟨lv,bm,F,log,waits,a,_,d⟩:=h.mem;have j:=a.box.cell 8 _ rfl;obtain⟨_,_,k,g,i⟩:=a.map
 have l:∀c,(Builtin.len_ #[141] c #[.map (some bm)]).run Tryz.prog w=.ok (.int .i64 S.waits.length) w:=λc=>by
  have:=g.len Tryz.underlying141 c;rw[i.size,d]at this;exact this
 clear a h g i d;go_enter Tryz.func56,Tryz.ntmps56
 go_wp2_with fail
 go_ret;exact⟨rfl,Below.refl _ _⟩
theorem q03 (w:World) (h:PS w b G S) (c:qcr S):
 Calls Tryz.prog 57 #[.pointer (some ⟨b,0,none⟩)] w λe w'=>∃v,e=.returned v/\w'.ownsRow w.heap.size 9 1 v 8 (qfj S.a0 S.a1 S.a2 S.a3 S.l 8)/\Below w.heap.size w w':=by
 obtain⟨lv,bm,F,log,waits,a,_,_⟩:=h.mem;have m:=a.box.cell 1 _ rfl;have n:=a.box.cell 2 _ rfl;have o:=a.box.cell 3 _ rfl;have p:=a.box.cell 4 _ rfl
 have g:Hid (Calls Tryz.prog 96 #[.pointer (some ⟨b,25,none⟩),.agg #[.int .i64 S.a0,.int .i64 S.a1,.int .i64 S.a2,.int .i64 S.a3]] w.drew λe w'=>∃v,e=.returned v/\Hid (w'.ownsRow w.heap.size 9 1 v 8 (qfj S.a0 S.a1 S.a2 S.a3 S.l 8)/\Below w.heap.size w w')):=
  (q0z S.a0 S.a1 S.a2 S.a3 w.drew (a.later (Below.refl _ w).drew).st c.many c.apart c.ok).mono λe w' ⟨v,i,j,k⟩=>⟨v,i,j,qac (Below.refl _ w).drew k⟩
 clear a h c;go_enter Tryz.func57,Tryz.ntmps57
 go_wp2_with fail
 go_region_law (refine qas rfl 96 #[.pointer (some ⟨b,25,none⟩),.agg #[.int .i64 S.a0,.int .i64 S.a1,.int .i64 S.a2,.int .i64 S.a3]] (by go_simp) g.out ?_
                rintro e w2 ⟨v,rfl,d⟩
                refine⟨_,rfl,?_⟩)
 all_goals
  go_wp2_with fail
  go_ret;exact⟨_,rfl,d.out.1,d.out.2⟩
end
section
open Go.Value Go.IntKind Go.Maps
variable {b:Nat} {G:Nat->Prop} {S:qaf}
theorem qyc (w:World) (h:PS w b G S) (a:qcr S):
 Calls Tryz.prog 58 #[.pointer (some ⟨b,0,none⟩)] w λe w'=>e=.returned (int i64 S.l.length)/\Below w.heap.size w w':=by
 obtain⟨lv,bm,F,log,waits,c,_,_⟩:=h.mem;have d:=qyl w c.st a.many;clear c h a;go_enter Tryz.func58,Tryz.ntmps58
 go_wp2_with fail
 refine d.mono ?_;rintro e w2 ⟨rfl,g⟩
 go_wp2_with fail
 go_ret;exact⟨rfl,g⟩
theorem quy (x0 x1 x2 x3:Int) (w:World) (h:PS w b G S) (j:qcr S):
 Calls Tryz.prog 94 #[.pointer (some ⟨b,0,none⟩),.agg #[int i64 x0,int i64 x1,int i64 x2,int i64 x3]] w λe w'=>e=.returned (.tuple #[])/\PPo w b G {S with l:=qel (qaz x0 S.a0) (qaz x1 S.a1) (qaz x2 S.a2) (qaz x3 S.a3) S.l} w':=by
 have hb:=boxed (Below.refl _ w) (.cells #[int i64 x0,int i64 x1,int i64 x2,int i64 x3] 47);have v:=qag.new (w:=w) (T:=47) [int i64 x0,int i64 x1,int i64 x2,int i64 x3] rfl;obtain⟨lv,bm,F,log,waits,c,r,s,n⟩:=h;have d:=c.later hb;have J:=d.box.cell 1 _ rfl;have K:=d.box.cell 2 _ rfl;have L:=d.box.cell 3 _ rfl;have M:=d.box.cell 4 _ rfl;obtain⟨N,O,P,Q⟩:=v.c4;have x:Hid (∀W,Below w.heap.size w W->Calls Tryz.prog 93 #[.agg #[int i64 x0,int i64 x1,int i64 x2,int i64 x3],.agg #[int i64 S.a0,int i64 S.a1,int i64 S.a2,int i64 S.a3]] W λe w'=>e=.returned (.agg #[int i64 (qaz x0 S.a0),int i64 (qaz x1 S.a1),int i64 (qaz x2 S.a2),int i64 (qaz x3 S.a3)])/\Below w.heap.size w w'):=λW a=>(qo2 x0 x1 x2 x3 S.a0 S.a1 S.a2 S.a3 W).mono λe w' ⟨o,p⟩=>⟨o,qac a p⟩
 have y:Hid (∀W,Below w.heap.size w W->Calls Tryz.prog 123 #[.pointer (some ⟨b,25,none⟩),.agg #[int i64 (qaz x0 S.a0),int i64 (qaz x1 S.a1),int i64 (qaz x2 S.a2),int i64 (qaz x3 S.a3)]] W λe w'=>e=.returned (.tuple #[])/\Hid (PPo w b G {S with l:=qel (qaz x0 S.a0) (qaz x1 S.a1) (qaz x2 S.a2) (qaz x3 S.a3) S.l} w')):=λW a=>
  (qv8 (qaz x0 S.a0) (qaz x1 S.a1) (qaz x2 S.a2) (qaz x3 S.a3) W (c.later a).st j.many j.apart j.ok).mono λe w' ⟨o,p⟩=>by
   obtain⟨F',z,B,g⟩:=(c.later a).store p;have R:∀k,(∃m∈log++waits,m.blk k)->k<w.heap.size:=λk ⟨m,C,e⟩=>(c.hold m C).1.blk_lt k e;refine⟨o,λk=>qa4 b lv bm F' k\/∃m∈log++waits,m.blk k,⟨lv,bm,F',log,waits,z,r,s,λk=>Iff.rfl⟩,λk i=>?_,(qae.ofBelow a).more ⟨g.os,g.tape,g.output,g.size,λk i D=>g.block k i (λe=>D ((n k).2 (.inl e)))⟩ (λk i=>.inl i)⟩;rcases i with q|q
   ·rcases B k q with u|u
    ·exact .inl ((n k).2 (.inl u))
    ·exact .inr (by have:=a.size;omega)
   ·exact .inl ((n k).2 (.inr q))
 have E:=hb.drew;clear c d j r s n;go_enter Tryz.func94,Tryz.ntmps94
 go_wp2_with fail
 go_region_law (first
  |(refine qas rfl 93 #[.agg #[int i64 x0,int i64 x1,int i64 x2,int i64 x3],.agg #[int i64 S.a0,int i64 S.a1,int i64 S.a2,int i64 S.a3]] (by go_simp) (x.out _ E) ?_
    rintro e w2 ⟨rfl,H⟩
    refine⟨_,rfl,?_⟩)
  |(refine qas rfl 123 #[.pointer (some ⟨b,25,none⟩),.agg #[int i64 (qaz x0 S.a0),int i64 (qaz x1 S.a1),int i64 (qaz x2 S.a2),int i64 (qaz x3 S.a3)]] (by go_simp) (y.out _ H) ?_
    rintro e U ⟨rfl,I⟩
    refine⟨_,rfl,?_⟩))
 all_goals
  go_wp2_with fail
  go_end0;exact⟨rfl,I.out⟩
end
section
open Go.Value Go.IntKind
variable {w:World}
theorem qk4 {tmps:Array Value} {a:Nat} {p0 p1 p2 p3:Int} {c d e g:Value} (h:qag w a [int i64 p0,int i64 p1,int i64 p2,int i64 p3]) (i:tmps[4]?=some (.pointer (some ⟨a,0,none⟩))) (j:tmps[5]?=some c) (l:tmps[6]?=some d) (m:tmps[7]?=some e) (o:tmps[8]?=some g):
 (results Tryz.f14 tmps).run Tryz.prog w=.ok (.tuple #[.agg #[int i64 p0,int i64 p1,int i64 p2,int i64 p3],c,d,e,g]) w:=by
 obtain⟨p,q,r,s⟩:=h.c4;simp[results,Tryz.results14,go_sem,i,j,l,m,o,p,q,r,s]
variable {W:World} {b:Nat}
theorem q1h (h:qag W b [int i64 0,int i64 0,int i64 0,int i64 0]) (x0 x1 x2 x3:Int):qag ((((W.setCell ⟨b,0,none⟩ (int i64 x0)).setCell ⟨b,1,none⟩ (int i64 x1)).setCell ⟨b,2,none⟩ (int i64 x2)).setCell ⟨b,3,none⟩ (int i64 x3)) b [int i64 x0,int i64 x1,int i64 x2,int i64 x3]:=
 (((h.set 0 _ (by simp)).set 1 _ (by simp)).set 2 _ (by simp)).set 3 _ (by simp)
variable {k:Nat}
theorem qvw (a:k≠b) (x0 x1 x2 x3:Int):((((W.setCell ⟨b,0,none⟩ (int i64 x0)).setCell ⟨b,1,none⟩ (int i64 x1)).setCell ⟨b,2,none⟩ (int i64 x2)).setCell ⟨b,3,none⟩ (int i64 x3)).heap[k]?=W.heap[k]?:=by
 have e:∀(V:World) (p:Addr) (u:Value),p.block=b->(V.setCell p u).heap[k]?=V.heap[k]?:=λV p u c=>Below.heap_setCell _ _ _ _ (λq=>a (q.trans c));rw[e _ _ _ rfl,e _ _ _ rfl,e _ _ _ rfl,e _ _ _ rfl]
variable {n:Nat}
theorem qe1 (h:Below n w W) (hb:n<=b) (x0 x1 x2 x3:Int):Below n w ((((W.setCell ⟨b,0,none⟩ (int i64 x0)).setCell ⟨b,1,none⟩ (int i64 x1)).setCell ⟨b,2,none⟩ (int i64 x2)).setCell ⟨b,3,none⟩ (int i64 x3)):=
 (((h.setCell (p:=⟨b,0,none⟩) hb _).setCell (p:=⟨b,1,none⟩) hb _).setCell (p:=⟨b,2,none⟩) hb _).setCell (p:=⟨b,3,none⟩) hb _
theorem q08 {B a:Nat} {T:TypeId} {v:Value} {xs:List Value} (h:w.ownsRow B T k v n xs) (c:a<=B):w.ownsRow a T k v n xs:=
 ⟨h.1,h.2.imp (λq=>q) (λ⟨g,cap,cur,e,hb,r⟩=>⟨g,cap,cur,e,Nat.le_trans c hb,r⟩)⟩
theorem q43 {G:Nat->Prop} {W:WoS} (w:World) (h:PW w b G W) (x:WfW W) {i:Nat} (j:i<W.n):
 Calls Tryz.prog 14 #[.pointer (some ⟨b,0,none⟩),int i64 i] w λe w'=>∃v,e=.returned (.tuple #[.agg #[int i64 (W.S i).a0,int i64 (W.S i).a1,int i64 (W.S i).a2,int i64 (W.S i).a3],int i64 (W.S i).waits.length,v,int i64 (W.S i).l.length,.nilIface])/\w'.ownsRow w.heap.size 9 1 v 8 (qfj (W.S i).a0 (W.S i).a1 (W.S i).a2 (W.S i).a3 (W.S i).l 8)/\Below w.heap.size w w':=by
 obtain⟨M,L,h,N⟩:=h;have c:=boxed (Below.refl _ w) (.cells #[int i64 0,int i64 0,int i64 0,int i64 0] 47);have m:=qag.new (w:=w) (T:=47) [int i64 0,int i64 0,int i64 0,int i64 0] rfl;change qag (w.alloc (.cells #[int i64 0,int i64 0,int i64 0,int i64 0] 47)) w.heap.size [int i64 0,int i64 0,int i64 0,int i64 0]at m;have o:=(h.site j).later c;obtain⟨Z,pc,c0,hpc,hpb,y0,y1⟩:=(h.later c).place j;have hlt:=(h.later c).box.lt;have y:=qbd (k:=i) (v:=true) _ c0 (by simp;omega);have z:=qfa _ o;have a:Hid (PS (w.alloc (.cells #[int i64 0,int i64 0,int i64 0,int i64 0] 47)) (M.bp i) (L i) (W.S i)/\qcr (W.S i)/\qag (w.alloc (.cells #[int i64 0,int i64 0,int i64 0,int i64 0] 47)) w.heap.size [int i64 0,int i64 0,int i64 0,int i64 0]):=⟨o,x.inv i j,m⟩
 have q1:(i:Int)<(W.n:Int):=by omega
 clear h N x o m;go_enter Tryz.func14,Tryz.ntmps14
 go_wp2_with fail
 refine y.mono ?_;rintro e w2 ⟨rfl,B⟩;have O:=B.symm;clear B y;subst O
 go_wp2_with fail
 refine z.mono ?_;rintro e P ⟨rfl,C⟩;have D:=qzq P (a.out.1.later C);clear z
 go_wp2_with fail
 refine D.mono ?_;rintro e p ⟨rfl,Q⟩;have r:=qac C Q;have E:=q03 p (a.out.1.later r) a.out.2.1;clear D
 go_wp2_with fail
 refine E.mono ?_;rintro e R ⟨v,rfl,s,U⟩;have F:=qac r U;have H:=qyc R (a.out.1.later F) a.out.2.1;clear E
 go_wp2_with fail
 refine H.mono ?_;rintro e u ⟨rfl,I⟩;have J:=qac F I;have d:=a.out.2.2.later J
 have s4:w.heap.size<p.heap.size:=by have:=r.size;simp at this;omega
 have K:=qad s (λk e=>I.block k (s.lt k e).2);have g:Hid (u.ownsRow p.heap.size 9 1 v 8 (qfj (W.S i).a0 (W.S i).a1 (W.S i).a2 (W.S i).a3 (W.S i).l 8)/\qag u w.heap.size [int i64 0,int i64 0,int i64 0,int i64 0]/\Below w.heap.size w u):=⟨K,d,qac c J⟩;obtain⟨a0,a1,a2,a3⟩:=d.c4;obtain⟨f0,f1,f2,f3⟩:=d.f4;clear H s K d
 go_wp2_with fail
 have V:=q1h g.out.2.1 (W.S i).a0 (W.S i).a1 (W.S i).a2 (W.S i).a3;have X:=qe1 g.out.2.2 (Nat.le_refl _) (W.S i).a0 (W.S i).a1 (W.S i).a2 (W.S i).a3;have Y:=qad g.out.1 (λk e=>qvw (b:=w.heap.size) (λq=>by have:=(g.out.1.lt k e).1;omega) (W.S i).a0 (W.S i).a1 (W.S i).a2 (W.S i).a3);refine bodyPost_ret (qk4 V rfl rfl rfl rfl rfl) rfl ⟨v,rfl,?_,X⟩;exact q08 Y (by omega)
end
theorem qtg {b:Nat} {G:Nat->Prop} {S:qaf} (a:Int) (w:World) (h:PS w b G S):
 Calls Tryz.prog 92 #[.pointer (some ⟨b,0,none⟩),.int .i64 a] w λe w'=>
  e=.returned (.agg #[.int .i64 (qak S (qcz a)).v0,.int .i64 (qak S (qcz a)).v1,.int .i64 (qak S (qcz a)).v2,.int .i64 (qak S (qcz a)).v3])/\Below w.heap.size w w':=by
 obtain⟨lv,bm,F,log,waits,h,_,_,_⟩:=h;exact qvl a w h
section
open Go.Value Go.IntKind
def swV (W:WoS) (k:Nat):Nat->V4
 |0=>qak (W.S k) (qcz W.n)
 |j+1=>if W.at_ j=k/\(W.ses j).opn=true then ⟨qaz (swV W k j).v0 (W.ses j).s0,qaz (swV W k j).v1 (W.ses j).s1,qaz (swV W k j).v2 (W.ses j).s2,qaz (swV W k j).v3 (W.ses j).s3⟩else swV W k j
def v4C (v:V4):List Value:=[int i64 v.v0,int i64 v.v1,int i64 v.v2,int i64 v.v3]
def qmk (W:WoS) (k:Nat):WoS:=setSite W k {W.S k with l:=qel (qaz (swV W k W.c).v0 (W.S k).a0) (qaz (swV W k W.c).v1 (W.S k).a1) (qaz (swV W k W.c).v2 (W.S k).a2) (qaz (swV W k W.c).v3 (W.S k).a3) (W.S k).l}
variable {b:Nat}
theorem qmn {W:World} {a c d e:Int} (h:qag W b [int i64 a,int i64 c,int i64 d,int i64 e]) (x0 x1 x2 x3:Int):qag ((((W.setCell ⟨b,0,none⟩ (int i64 x0)).setCell ⟨b,1,none⟩ (int i64 x1)).setCell ⟨b,2,none⟩ (int i64 x2)).setCell ⟨b,3,none⟩ (int i64 x3)) b (v4C ⟨x0,x1,x2,x3⟩):=
 (((h.set 0 _ (by simp)).set 1 _ (by simp)).set 2 _ (by simp)).set 3 _ (by simp)
theorem q15 {G:Nat->Prop} {W:WoS} (w:World) (h:PW w b G W) (O:WfW W) {i:Nat} (P:i<W.n):
 Calls Tryz.prog 52 #[.pointer (some ⟨b,0,none⟩),int i64 i] w λe w'=>e=.returned (qa9 0)/\qgq w b G (qmk W i) w':=by
 obtain⟨M,Gs,h,hG⟩:=h;have d:Hid (PWo w b M W Gs/\(∀k,G k↔qj4 b M (W.n+W.c) Gs k)/\WfW W/\i<W.n):=⟨h,hG,O,P⟩;obtain⟨pb,pc,c0,hpc,hpb,y0,y1⟩:=h.place P;have hlt:=h.box.lt;have IS:=qbd (k:=i) (v:=true) w c0 (by simp;omega);have ST:=qtg (W.n:Int) w (h.site P)
 have q1:(i:Int)<(W.n:Int):=by omega
 have HC6:Hid _:=O.c6;clear h hG O;go_enter Tryz.func52,Tryz.ntmps52
 go_wp2_with fail
 refine IS.mono ?_;rintro e w2 ⟨rfl,hw2⟩;have hw3:=hw2.symm;clear hw2 IS;subst hw3
 go_wp2_with fail
 refine ST.mono ?_;rintro e o ⟨rfl,Q⟩;obtain⟨V,R⟩:∃V,qak (W.S i) (qcz W.n)=V:=⟨_,rfl⟩;rw[R];have bz:=boxed (Below.refl _ o) (.cells #[int i64 V.v0,int i64 V.v1,int i64 V.v2,int i64 V.v3] 47);have E:=qag.new (w:=o) (T:=47) [int i64 V.v0,int i64 V.v1,int i64 V.v2,int i64 V.v3] rfl;change qag (o.alloc (.cells #[int i64 V.v0,int i64 V.v1,int i64 V.v2,int i64 V.v3] 47)) o.heap.size [int i64 V.v0,int i64 V.v1,int i64 V.v2,int i64 V.v3]at E;have F:=qac Q bz;obtain⟨ca,cc,hcv,r⟩:=qan d.out.1.cr;have c1:=cell_later F (d.out.1.box.cell 1 _ rfl);rw[hcv]at c1;have hlt4:b<(o.alloc (.cells #[int i64 V.v0,int i64 V.v1,int i64 V.v2,int i64 V.v3] 47)).heap.size:=Nat.lt_of_lt_of_le hlt F.size;have hrl:=r.len;have HR:Hid _:=r;have HV:Hid _:=R;clear ST c0 y0 y1 r hcv R
 go_wp2_with fail
 obtain⟨H,hw4⟩:∃H,o.alloc (.cells #[int i64 V.v0,int i64 V.v1,int i64 V.v2,int i64 V.v3] 47)=H:=⟨_,rfl⟩;rw[hw4]at E F ⊢;obtain⟨l,U⟩:∃l,o.heap.size=l:=⟨_,rfl⟩
 have hvw:w.heap.size<=l:=by rw[<-U];exact Q.size
 rw[U]at E ⊢;have X:Hid (qag H l (v4C (swV W i 0))/\Below w.heap.size w H/\w.heap.size<=l):=⟨by show qag H l (v4C (qak (W.S i) (qcz W.n)));rw[HV.out];exact E,F,hvw⟩;clear hw4 U bz E Q c1 hlt4 F
 go_loopw [34] (λiv wr=>∃(j:Nat) (z:Int),j<=W.c/\z=j/\iv=int i64 z/\Hid (qag wr l (v4C (swV W i j))/\Below w.heap.size w wr)) (λiv _=>W.c-(intOf iv).toNat)
 case atStart=>exact⟨0,0,by omega,rfl,rfl,X.out.1,X.out.2.1⟩
 case round=>
  obtain⟨j,z,hj,Y,rfl,p⟩:=hrel;have x:Hid _:=Y;by_cases I:j<W.c
  ·have g1:z<(W.c:Int):=by omega
   have g2:z.toNat=j:=by omega
   have g3:0<=z:=by omega
   have g4:z<6:=by have:=HC6.out;omega
   clear Y
   obtain⟨cb,hca,hcb,Z⟩:∃g,ca=some ⟨g,0,none⟩/\g<w.heap.size/\∀j u,(qci M.bs (λk=>(W.at_ k:Int)) W.c)[j]?=some u->w.cell? ⟨g,j,none⟩=some u:=by
        rcases HR.out.held with h0|h0
        ·omega
        ·exact h0
   subst hca;have x0:=cell_later p.out.2 (Z _ _ (qeu I).1);have x1o:=cell_later p.out.2 (Z _ _ (qeu I).2);obtain⟨a,aa⟩:∃a:Int,(W.at_ j:Int)=a:=⟨_,rfl⟩
   have x1:wr.cell? ⟨cb,j*2+1,none⟩=some (int i64 a):=by rw[<-aa];exact x1o
   have HAJ:Hid _:=aa;clear aa x1o;have bx:=boxed (Below.refl _ wr) (.cells #[.pointer (some ⟨M.bs j,0,none⟩),int i64 a] 103);have hbx:=qac p.out.2 bx;have y:=ql0 _ ((d.out.1.sess I).later hbx);have RB:=p.out.1.later bx;have s:Hid (qag (wr.alloc (.cells #[.pointer (some ⟨M.bs j,0,none⟩),int i64 a] 103)) l (v4C (swV W i j))/\Below w.heap.size w (wr.alloc (.cells #[.pointer (some ⟨M.bs j,0,none⟩),int i64 a] 103))/\qag (wr.alloc (.cells #[.pointer (some ⟨M.bs j,0,none⟩),int i64 a] 103)) wr.heap.size [.pointer (some ⟨M.bs j,0,none⟩),int i64 a]):=⟨RB,hbx,qag.new (w:=wr) (T:=103) [.pointer (some ⟨M.bs j,0,none⟩),int i64 a] rfl⟩;clear Z RB;by_cases J:a=(i:Int)
   ·subst J
    have HAI:Hid (W.at_ j=i):=by have:=HAJ.out;show _=_;omega
    cases ho:(W.ses j).opn
    ·have B:Hid (swV W i (j+1)=swV W i j):=if_neg (λq=>by rw[ho]at q;cases q.2);rw[ho]at y;clear ho
     go_wp2_with fail
     refine y.mono ?_;rintro e m ⟨rfl,C⟩
     go_wp2_with fail
     go_roundw
     case rel=>exact⟨j+1,z+1,by omega,by have:=x.out;omega,by go_num,by rw[B.out];exact s.out.1.later C,qac s.out.2.1 C⟩
     case measure=>simp[intOf];have:=x.out;omega
    ·have B:Hid (swV W i (j+1)=⟨qaz (swV W i j).v0 (W.ses j).s0,qaz (swV W i j).v1 (W.ses j).s1,qaz (swV W i j).v2 (W.ses j).s2,qaz (swV W i j).v3 (W.ses j).s3⟩):=if_pos ⟨HAI.out,ho⟩;rw[ho]at y;clear ho
     go_wp2_with fail
     refine y.mono ?_;rintro e m ⟨rfl,C⟩;obtain⟨v,hv⟩:∃v,swV W i j=v:=⟨_,rfl⟩
     have K:qag m l [int i64 v.v0,int i64 v.v1,int i64 v.v2,int i64 v.v3]:=by have:=s.out.1.later C;rw[hv]at this;exact this
     have L:=s.out.2.2.later C;have hbw5:=qac s.out.2.1 C;have SN:Hid (Calls Tryz.prog 62 #[.pointer (some ⟨M.bs j,0,none⟩)] m.drew λe w''=>e=.returned (.agg #[int i64 (W.ses j).s0,int i64 (W.ses j).s1,int i64 (W.ses j).s2,int i64 (W.ses j).s3])/\Below m.drew.heap.size m.drew w''):=qrr _ ((d.out.1.sess I).later hbw5.drew);have MI:Hid (∀w',Calls Tryz.prog 93 #[.agg #[int i64 v.v0,int i64 v.v1,int i64 v.v2,int i64 v.v3],.agg #[int i64 (W.ses j).s0,int i64 (W.ses j).s1,int i64 (W.ses j).s2,int i64 (W.ses j).s3]] w' λe w''=>e=.returned (.agg #[int i64 (qaz v.v0 (W.ses j).s0),int i64 (qaz v.v1 (W.ses j).s1),int i64 (qaz v.v2 (W.ses j).s2),int i64 (qaz v.v3 (W.ses j).s3)])/\Below w'.heap.size w' w''):=λw'=>qo2 _ _ _ _ _ _ _ _ w';rw[hv]at B;have HF:Hid (qag m l [int i64 v.v0,int i64 v.v1,int i64 v.v2,int i64 v.v3]/\Below w.heap.size w m/\qag m wr.heap.size [.pointer (some ⟨M.bs j,0,none⟩),int i64 i]):=⟨K,hbw5,L⟩;obtain⟨a0,a1,a2,a3⟩:=K.c4;have k0:=L.cell 0 _ rfl;have lv:=K.lt;have lc:=L.lt;clear y K L x0 x1 hv bx hbx
     go_wp2_with fail
     go_region_law (first
      |(refine qb7 rfl 62 rfl #[.pointer (some ⟨M.bs j,0,none⟩)] (by go_simp) SN.out ?_
        rintro e w6 ⟨rfl,hb6⟩;refine⟨_,rfl,?_⟩;have N:=HF.out.1.later (qac (Below.refl _ m).drew hb6);have b0:=N.cell 0 _ rfl;have b1:=N.cell 1 _ rfl;have b2:=N.cell 2 _ rfl
        have b3:=N.cell 3 _ rfl)
      |(refine qb7 rfl 93 rfl #[.agg #[int i64 v.v0,int i64 v.v1,int i64 v.v2,int i64 v.v3],.agg #[int i64 (W.ses j).s0,int i64 (W.ses j).s1,int i64 (W.ses j).s2,int i64 (W.ses j).s3]] (by go_simp) (MI.out w6) ?_
        rintro e w7 ⟨rfl,hb7⟩;refine⟨_,rfl,?_⟩;have hb57:=qac (qac (Below.refl _ m).drew hb6) hb7;have D:=HF.out.1.later hb57;obtain⟨d0,d1,d2,d3⟩:=D.c4;have f0:=D.free 0 (by simp);have f1:=D.free 1 (by simp);have f2:=D.free 2 (by simp)
        have f3:=D.free 3 (by simp)))
     all_goals
      go_wp2_with fail
      go_roundw
      case rel=>exact⟨j+1,z+1,by omega,by have:=x.out;omega,by go_num,by rw[B.out];exact qmn D _ _ _ _,qe1 (qac HF.out.2.1 hb57) X.out.2.2 _ _ _ _⟩
      case measure=>simp[intOf];have:=x.out;omega
   ·have B:Hid (swV W i (j+1)=swV W i j):=if_neg (λq=>J (by have:=HAJ.out;have:=q.1;omega))
    have hq1:(a==(i:Int))=false:=by simp[J]
    have hq2:decide (a=(i:Int))=false:=decide_eq_false J;clear y
    go_wp2_with fail
    go_roundw
    case rel=>exact⟨j+1,z+1,by omega,by have:=x.out;omega,by go_num,by rw[B.out];exact s.out.1,s.out.2.1⟩
    case measure=>simp[intOf];have:=x.out;omega
  ·have g1:¬z<(W.c:Int):=by omega
   have e:j=W.c:=by omega
   subst e;have R9:=p.out.1;have H9:=d.out.1.later p.out.2;have SW:=quy (swV W i W.c).v0 (swV W i W.c).v1 (swV W i W.c).v2 (swV W i W.c).v3 wr (H9.site d.out.2.2.2) (d.out.2.2.1.inv i d.out.2.2.2);obtain⟨z0,z1,z2,z3⟩:=R9.c4;clear Y R9
   go_wp2_with fail
   refine SW.mono ?_;rintro e w9 ⟨rfl,hp⟩
   go_wp2_with fail
   go_ret;exact⟨rfl,qgq.from p.out.2 (H9.stepS d.out.2.1 d.out.2.2.2 hp)⟩
end
section
variable {S:qaf}
theorem qol {now d0 d1 d2 d3:Int} {ws:List Wr} (a:qcr S) (d:qk9 S now d0 d1 d2 d3 ws=0):okT (qbt S now d0 d1 d2 d3 ws)=true:=by
 obtain⟨e,b,n,o,f⟩:=qhh d;obtain⟨n1,h,p⟩:=q1d f;have q:=a.own
 have r:qwt S S.id<=200:=by have:=a.log;show qao S.id _ _ _ _<=200;omega
 have l:0<=qwt S S.id:=(a.dep S.id).1
 have m:qau (qf8 S.id (qwt S S.id) d0) (qf7 S.id (qwt S S.id) d1) (qgf S.id (qwt S S.id) d2) (qf5 S.id (qwt S S.id) d3)=true:=by
  have c:qai (qwt S S.id)=true:=qgj l (by omega);simp only[qau,Bool.and_eq_true]at b ⊢;refine⟨⟨⟨?_,?_⟩,?_⟩,?_⟩
  ·unfold qf8;split;exact c;exact b.1.1.1
  ·unfold qf7;split;exact c;exact b.1.1.2
  ·unfold qgf;split;exact c;exact b.1.2
  ·unfold qf5;split;exact c;exact b.2
 show qc7 S.id (qwt S S.id+1) (qeo S.lw S.lc now).1 (qeo S.lw S.lc now).2.1 (qf8 S.id (qwt S S.id) d0) (qf7 S.id (qwt S S.id) d1) (qgf S.id (qwt S S.id) d2) (qf5 S.id (qwt S S.id) d3) ws=true;unfold qc7;simp only[Bool.and_eq_true,qa5,decide_eq_true_eq];refine⟨⟨⟨⟨⟨⟨a.id0,a.id3⟩,⟨by omega,by omega⟩⟩,⟨n1,h⟩⟩,m⟩,?_⟩,e⟩;rw[qzu _ _ _ _ _ _ S.id a.id0 a.id3,if_pos rfl];omega
variable {s:qbp}
theorem qv4 {now:Int} (h:0<(qem S s now).seq):qk9 S now s.s0 s.s1 s.s2 s.s3 (qbs s.ws)=0/\qem S s now=qbt S now s.s0 s.s1 s.s2 s.s3 (qbs s.ws):=by
 unfold qem at h ⊢;by_cases q:s.opn=false\/(qbs s.ws).length=0
 ·rw[if_pos q]at h;exact absurd h (by decide)
 ·rw[if_neg q]at h ⊢;unfold qna at h ⊢;by_cases e:qk9 S now s.s0 s.s1 s.s2 s.s3 (qbs s.ws)=0
  ·rw[if_pos e];exact⟨e,rfl⟩
  ·rw[if_neg e]at h;exact absurd h (by decide)
theorem qkc {a b:Int} (h:0<=a):0<=qb1 a b:=by unfold qb1;split<;>omega
theorem q3c {now:Int} (h:0<=s.p0):0<=(qbf S s now).p0:=by
 unfold qbf;split
 ·exact h
 ·split
  ·exact qkc h
  ·show 0<=(if _ then qb1 (qb1 s.p0 s.s0) _ else qb1 s.p0 s.s0);split
   ·exact qkc (qkc h)
   ·exact qkc h
theorem qw0 {now:Int} (a:qcr S) (h:∀x∈S.log,okT x=true):(∀x∈(qd9 S s now).log,okT x=true)/\(qd9 S s now).id=S.id/\(qd9 S s now).waits=S.waits:=by
 unfold qd9;split
 ·exact⟨h,rfl,rfl⟩
 ·unfold qkq;split
  ·rename_i e;refine⟨λx b=>?_,rfl,rfl⟩;rcases List.mem_append.1 (show x∈S.log++[_]from b)with q|q
   ·exact h x q
   ·rw[List.mem_singleton.1 q];exact qol a e
  ·exact⟨h,rfl,rfl⟩
structure PlI (j:Nat) (W:WoS):Prop where
 wf:WfW W
 nt:qjj W
 ps:∀k,k<W.c->0<=(W.ses k).p0
 wl:∀i,i<W.n->0<=W.wall i/\W.wall i<=1099511627776
 ln:∀k,k<W.c->(W.ses k).ws.length<=j
section
variable {W W':WoS} {g:GrS} {k i j:Nat}
theorem PlI.mono (h:PlI j W) {m:Nat} (a:j<=m):PlI m W:=⟨h.wf,h.nt,h.ps,h.wl,λk b=>Nat.le_trans (h.ln k b) a⟩
theorem PlI.new {n c:Nat} (b:1<=n) (d:n<=4) (e:c<=6):PlI 0 (ql4 n c):=
 ⟨⟨b,d,e,λk _=>(show (0:Nat)<n by omega),λi f=>qcr.new (show (0:Int)<=(i:Int) by omega) (show (i:Int)<=3 by have:i<n:=f;omega),λi _=>rfl,(Nat.zero_le _:0<=300),λi _=>(Nat.zero_le _:0<=40),λi _ x h=>(by cases h),λg a=>(by cases a)⟩,λg a=>(by cases a),λk _=>(Int.le_refl 0),λi _=>⟨Int.le_refl 0,(by show (0:Int)<=_;decide)⟩,λk _=>Nat.le_refl 0⟩
theorem PlI.keep (h:PlI j W) (a:WfW W') (b:qjj W') (k:qg6 W W'):PlI j W':=⟨a,b,by rw[k.c,k.ses];exact h.ps,by rw[k.n,k.wall];exact h.wl,by rw[k.c,k.ses];exact h.ln⟩
theorem WfW.sessions (h:WfW W) (f:Nat->qbp):WfW {W with ses:=f}:=⟨h.n1,h.n4,h.c6,h.at_,h.inv,h.id,h.net,h.wt,h.lok,h.to⟩
theorem PlI.ses (h:PlI j W) {a:qbp} (c:0<=a.p0) (d:a.ws.length<=j):PlI j (qb0 W k a):=by
 refine⟨h.wf.sessions _,h.nt,λi b=>?_,h.wl,λi b=>?_⟩<;>show (_:Prop)<;>by_cases q:i=k
 ·show 0<=(qb2 W.ses k a i).p0;rw[q,qal];exact c
 ·show 0<=(qb2 W.ses k a i).p0;rw[qbq _ _ q];exact h.ps i b
 ·show (qb2 W.ses k a i).ws.length<=j;rw[q,qal];exact d
 ·show (qb2 W.ses k a i).ws.length<=j;rw[qbq _ _ q];exact h.ln i b
theorem PlI.begin (h:PlI j W) (a:k<W.c):PlI j (qb0 W k (qne (W.S (W.at_ k)) (W.ses k))):=by
 unfold qne;split
 ·exact h.ses (h.ps k a) (Nat.zero_le _)
 ·exact h.ses (h.ps k a) (h.ln k a)
theorem PlI.write (h:PlI j W) (a:k<W.c) (x:Wr):PlI (j+1) (qb0 W k (qk2 (W.ses k) x)):=by
 have:=h.ln k a;unfold qk2;split
 ·exact(h.mono (Nat.le_succ j)).ses (h.ps k a) (by simp;omega)
 ·exact(h.mono (Nat.le_succ j)).ses (h.ps k a) (by omega)
theorem PlI.abort (h:PlI j W) (a:k<W.c):PlI j (qb0 W k (qnz (W.ses k))):=by
 unfold qnz;split
 ·exact h.ses (h.ps k a) (h.ln k a)
 ·exact h.ses (qkc (h.ps k a)) (Nat.zero_le _)
theorem q2u {now:Int}:(qbf S s now).ws.length<=s.ws.length:=by
 unfold qbf;split
 ·exact Nat.le_refl _
 ·split
  ·exact Nat.zero_le _
  ·exact Nat.zero_le _
theorem PlI.told (h:PlI j W) (b:k<W.c) (d:0<(wcT W k).seq):okT (wcT W k)=true/\(wcT W k).site=(W.at_ k:Int):=by
 have a:=h.wf.at_ k b;obtain⟨f,l⟩:=qv4 d;have e:wcT W k=_:=l;rw[e];exact⟨qol (h.wf.inv _ a) f,h.wf.id _ a⟩
theorem PlI.commit (h:PlI j W) (b:k<W.c):PlI j (wcW W k):=by
 have a:=h.wf.at_ k b;have d:=qw0 (s:=W.ses k) (now:=W.wall (W.at_ k)) (h.wf.inv _ a) (h.wf.lok _ a);have e:WfW (setSite W (W.at_ k) (qd9 (W.S (W.at_ k)) (W.ses k) (W.wall (W.at_ k)))):=h.wf.setSite (h.wf.inv _ a).scom (d.2.1.trans (h.wf.id _ a)) (by rw[d.2.2];exact h.wf.wt _ a) d.1;have p0:PlI j (setSite W (W.at_ k) (qd9 (W.S (W.at_ k)) (W.ses k) (W.wall (W.at_ k)))):=⟨e,h.nt,h.ps,h.wl,h.ln⟩;have p1:PlI j (qi7 W k):=p0.ses (q3c (h.ps k b)) (Nat.le_trans q2u (h.ln k b));unfold wcW;split
 ·rename_i q;exact p1.keep (WfW.tell _ _ p1.wf (Nat.le_refl _)) (p1.nt.tell (h.told b q).1 _) (qcp _ _ _).keep
 ·exact p1
theorem PlI.move (h:PlI j W) {to:Nat} (a:to<W.n):PlI j (qjz W k to):=by
 unfold qjz;split
 ·exact h
 ·refine⟨⟨h.wf.n1,h.wf.n4,h.wf.c6,λi b=>?_,h.wf.inv,h.wf.id,h.wf.net,h.wf.wt,h.wf.lok,h.wf.to⟩,h.nt,h.ps,h.wl,h.ln⟩;show qb2 W.at_ k to i<W.n;by_cases q:i=k
  ·rw[q,qal];exact a
  ·rw[qbq _ _ q];exact h.wf.at_ i b
theorem PlI.goes (h:PlI j W) {y:Int} (c:0<=y) (a:i<W.n):PlI j (qlr W i y):=by
 refine⟨⟨h.wf.n1,h.wf.n4,h.wf.c6,h.wf.at_,h.wf.inv,h.wf.id,h.wf.net,h.wf.wt,h.wf.lok,h.wf.to⟩,h.nt,h.ps,λm b=>?_,h.ln⟩;show 0<=qb2 W.wall i (qsu (W.wall i+y)) m/\qb2 W.wall i (qsu (W.wall i+y)) m<=_;by_cases q:m=i
 ·rw[q,qal];have:=h.wl i a;unfold qsu
  split<;>omega
 ·rw[qbq _ _ q];exact h.wl m b
theorem PlI.send (h:PlI j W) (a:g.to<W.n) (b:q5f W.n g):PlI j (qcq W g):=h.keep (h.wf.send a) (h.nt.send b) (qbv _ _).keep
theorem PlI.deliver (h:PlI j W) (a:qcc W i W'):PlI j W':=h.keep (h.wf.deliver a) (h.nt.deliver h.wf a) a.keep
theorem PlI.drop (h:PlI j W) (i:Nat):PlI j (qb3 W i):=⟨h.wf.drop i,h.nt.drop i,h.ps,h.wl,h.ln⟩
theorem PlI.sweep (h:PlI j W) (a:i<W.n):PlI j (qmk W i):=⟨h.wf.setSite ((h.wf.inv i a).swept _ _ _ _) (h.wf.id i a) (h.wf.wt i a) (h.wf.lok i a),h.nt,h.ps,h.wl,h.ln⟩
end
end
section
open Go.Value Go.IntKind
variable {b:Nat}
theorem qd1 {tmps:Array Value} {w:World} {x0 x1 x2 x3 d e g i:Int} {ev:Value} {a:Option Addr} {n c:Nat} (h:qag w b [int i64 x0,int i64 x1,int i64 x2,int i64 x3,int i64 d,int i64 e,int i64 g,int i64 i,.slice a n c]) (j:tmps[4]?=some (.pointer (some ⟨b,0,none⟩))) (k:tmps[5]?=some ev):
 (results Tryz.f38 tmps).run Tryz.prog w=.ok (.tuple #[.agg #[int i64 x0,int i64 x1,int i64 x2,int i64 x3,int i64 d,int i64 e,int i64 g,int i64 i,.slice a n c],ev]) w:=by
 obtain⟨l,m,o,p,q,r,s,t,u⟩:=h.c9;simp[results,Tryz.results38,go_sem,j,k,l,m,o,p,q,r,s,t,u]
theorem qz6 {G:Nat->Prop} {W:WoS} (w:World) (h:PW w b G W) (hw:WfW W) {i:Nat} (hi:i<W.c) (hok:0<(wcT W i).seq->okT (wcT W i)=true):
 Calls Tryz.prog 38 #[.pointer (some ⟨b,0,none⟩),int i64 i] w (q3j w b G W i):=by
 obtain⟨M,I,h,hG⟩:=h;have ha:=hw.at_ i hi;have x:Hid (PWo w b M W I/\(∀k,G k↔qj4 b M (W.n+W.c) I k)/\i<W.c/\W.at_ i<W.n/\W.n<=4/\(0<(wcT W i).seq->okT (wcT W i)=true)):=⟨h,hG,hi,ha,hw.n4,hok⟩;have hb0:=boxed (Below.refl _ w) (.cells #[int i64 0,int i64 0,int i64 0,int i64 0,int i64 0,int i64 0,int i64 0,int i64 0,.slice none 0 0] 80);have RT:=qag.new (w:=w) (T:=80) [int i64 0,int i64 0,int i64 0,int i64 0,int i64 0,int i64 0,int i64 0,int i64 0,.slice none 0 0] rfl;change qag (w.alloc (.cells #[int i64 0,int i64 0,int i64 0,int i64 0,int i64 0,int i64 0,int i64 0,int i64 0,.slice none 0 0] 80)) w.heap.size [int i64 0,int i64 0,int i64 0,int i64 0,int i64 0,int i64 0,int i64 0,int i64 0,.slice none 0 0]at RT;obtain⟨cb,cc,c1,hcc,hcb,x0,x1⟩:=h.client hi;obtain⟨pb,pc,c0,hpc,hpb,y0,y1⟩:=h.place ha;have hlt:=h.box.lt;have IC:=qa7 (k:=i) (v:=true) _ (cell_later hb0 c1) (by simp;omega)
 have BG:Hid (∀w':World,Below w.heap.size w w'->Calls Tryz.prog 78 #[.pointer (some ⟨M.bs i,0,none⟩),.pointer (some ⟨M.bp (W.at_ i),0,none⟩),int i64 (W.wall (W.at_ i))] w' λe z=>∃(l j o p q r s u:Int) (a:List Wr) (d:Option Addr) (g:Nat),e=.returned (.tuple #[.agg #[int i64 l,int i64 j,int i64 o,int i64 p,int i64 q,int i64 r,int i64 s,int i64 u,.slice d a.length g],qa9 (wcE W i)])/\Hid (⟨l,j,o,p,q,r,s,u,a⟩=wcT W i/\qat z d g a/\Below w.heap.size w w'/\qin (qpn (M.bs i) (qbf (W.S (W.at_ i)) (W.ses i) (W.wall (W.at_ i)))) (qg9 (M.bp (W.at_ i)) (qd9 (W.S (W.at_ i)) (W.ses i) (W.wall (W.at_ i))) (⟨⟨l,j,o,p,q,r,s,u,a⟩,d,g⟩:TxM).blk) w' (I (W.n+i)) (I (W.at_ i)) (⟨⟨l,j,o,p,q,r,s,u,a⟩,d,g⟩:TxM).blk z)/\(∀k,w.heap.size<=k->k<w'.heap.size->z.heap[k]?=w'.heap[k]?)/\w'.heap.size<=z.heap.size):=λw' hb=>by
  refine(qnc (W.wall (W.at_ i)) w' ((h.sess hi).later hb) ((h.site ha).later hb) (hw.inv _ ha) (λk h1 h2=>h.fam.apart _ _ k (by omega) (by omega) (by omega) h1 h2)).mono ?_;rintro e z ⟨⟨⟨l,j,o,p,q,r,s,u,a⟩,d,g⟩,rfl,O,U⟩;have h2:=U.out.2;obtain⟨_,_,_,_,_,_,_,_,tt⟩:=h2
  exact⟨l,j,o,p,q,r,s,u,a,d,g,rfl,⟨O,U.out.1,hb,U.out.2⟩,λk h1 h2=>tt.block k h2 (λe=>by
   rcases e with e|e
   ·have:k<w.heap.size:=h.ltG (by omega) e;omega
   ·have:k<w.heap.size:=h.ltG (by omega) e
    omega),tt.size⟩
 have q1:(i:Int)<(W.c:Int):=by omega
 have q2:(W.at_ i:Int)<(W.n:Int):=by omega
 have hbc:=boxed hb0 (.cells #[.pointer (some ⟨M.bs i,0,none⟩),int i64 (W.at_ i)] 103);have RC:=qag.new (w:=w.alloc (.cells #[int i64 0,int i64 0,int i64 0,int i64 0,int i64 0,int i64 0,int i64 0,int i64 0,.slice none 0 0] 80)) (T:=103) (n:=w.heap.size+1) [.pointer (some ⟨M.bs i,0,none⟩),int i64 (W.at_ i)] (by simp);have RT1:=RT.boxed (.cells #[.pointer (some ⟨M.bs i,0,none⟩),int i64 (W.at_ i)] 103);obtain⟨F,hw1⟩:∃F,(w.alloc (.cells #[int i64 0,int i64 0,int i64 0,int i64 0,int i64 0,int i64 0,int i64 0,int i64 0,.slice none 0 0] 80)).alloc (.cells #[.pointer (some ⟨M.bs i,0,none⟩),int i64 (W.at_ i)] 103)=F:=⟨_,rfl⟩
 have sz1:F.heap.size=w.heap.size+2:=by rw[<-hw1];simp
 have RC1:qag F (w.heap.size+1) [.pointer (some ⟨M.bs i,0,none⟩),int i64 (W.at_ i)]:=by rw[<-hw1];exact RC
 have HR:Hid (qag F w.heap.size [int i64 0,int i64 0,int i64 0,int i64 0,int i64 0,int i64 0,int i64 0,int i64 0,.slice none 0 0]/\Below w.heap.size w F/\F.heap.size=w.heap.size+2):=by
  rw[hw1]at RT1 hbc;exact⟨RT1,hbc,sz1⟩
 have d0:=cell_later HR.out.2.1 c0;have e0:=cell_later HR.out.2.1 y0;have e1:=cell_later HR.out.2.1 y1;have f0:=RC1.cell 0 _ rfl;have f1:=RC1.cell 1 _ rfl
 have hlt1:b<F.heap.size:=by omega
 have hpb1:pb<F.heap.size:=by omega
 have hc1:w.heap.size+1<F.heap.size:=by omega
 clear RT RC RT1 sz1 RC1 hbc;clear h hG hw hok;go_enter Tryz.func38,Tryz.ntmps38
 go_wp2_with fail
 refine IC.mono ?_;rintro e w2 ⟨rfl,hw2⟩;have hw3:=hw2.symm;clear hw2 IC;subst hw3
 go_wp2_with fail
 try rw[hw1]
 clear hw1 c0 c1 x0 x1 y0 y1 hcb hpb hlt hb0
 go_region
 have hbp:=(boxed (Below.refl _ F) (.cells #[.pointer (some ⟨M.bp (W.at_ i),0,none⟩),int i64 (W.wall (W.at_ i))] 99)).drew;have RP:=(qag.new (w:=F) (T:=99) [.pointer (some ⟨M.bp (W.at_ i),0,none⟩),int i64 (W.wall (W.at_ i))] rfl).drew;change qag (F.alloc (.cells #[.pointer (some ⟨M.bp (W.at_ i),0,none⟩),int i64 (W.wall (W.at_ i))] 99)).drew F.heap.size [.pointer (some ⟨M.bp (W.at_ i),0,none⟩),int i64 (W.wall (W.at_ i))]at RP;have g0:=RP.cell 0 _ rfl;have g1:=RP.cell 1 _ rfl;have f0:=cell_later hbp f0;have f1:=cell_later hbp f1;have hb2:=qac HR.out.2.1 hbp;have RT2:=HR.out.1.later hbp;have CM:=BG.out _ hb2;clear BG RP
 go_wp2_with fail
 refine CM.mono ?_;rintro e z ⟨l,j,o,p,q,r,s,u,a,d,g,rfl,U,hkB,hsB⟩;have HRB:Hid _:=RT2.kept (hkB _ (Nat.le_refl _) RT2.lt) hsB;have HM:Hid _:=U.out.1;have HX:Hid (∃w',w.heap.size<w'.heap.size/\qat z d g a/\Below w.heap.size w w'/\qin (qpn (M.bs i) (qbf (W.S (W.at_ i)) (W.ses i) (W.wall (W.at_ i)))) (qg9 (M.bp (W.at_ i)) (qd9 (W.S (W.at_ i)) (W.ses i) (W.wall (W.at_ i))) (⟨⟨l,j,o,p,q,r,s,u,a⟩,d,g⟩:TxM).blk) w' (I (W.n+i)) (I (W.at_ i)) (⟨⟨l,j,o,p,q,r,s,u,a⟩,d,g⟩:TxM).blk z):=⟨_,RT2.lt,U.out.2⟩;clear CM U hkB hsB RT2 hb2 hbp f0 f1 g0 g1 d0 e0 e1 HR hlt1 hpb1 hc1;obtain⟨ce,hce⟩:∃ce,wcE W i=ce:=⟨_,rfl⟩;rw[hce];have hbC:=boxed (Below.refl _ z) (.cells #[int i64 l,int i64 j,int i64 o,int i64 p,int i64 q,int i64 r,int i64 s,int i64 u,.slice d a.length g] 80);have V:=qag.new (w:=z) (T:=80) [int i64 l,int i64 j,int i64 o,int i64 p,int i64 q,int i64 r,int i64 s,int i64 u,.slice d a.length g] rfl;change qag (z.alloc (.cells #[int i64 l,int i64 j,int i64 o,int i64 p,int i64 q,int i64 r,int i64 s,int i64 u,.slice d a.length g] 80)) z.heap.size [int i64 l,int i64 j,int i64 o,int i64 p,int i64 q,int i64 r,int i64 s,int i64 u,.slice d a.length g]at V;have J:=HRB.out.later hbC;have htl:w.heap.size<z.heap.size:=HRB.out.lt;obtain⟨y,hWC⟩:∃y,z.alloc (.cells #[int i64 l,int i64 j,int i64 o,int i64 p,int i64 q,int i64 r,int i64 s,int i64 u,.slice d a.length g] 80)=y:=⟨_,rfl⟩
 have HWX:Hid (∃B H,w.heap.size<B/\B<=y.heap.size/\PWo y b M (qi7 W i) H/\(∀m k,H m k->I m k\/B<=k)/\qae (λk=>I (W.n+i) k\/I (W.at_ i) k) w y/\(∀m k,m<W.n+W.c->(⟨⟨l,j,o,p,q,r,s,u,a⟩,d,g⟩:TxM).blk k->B<=k/\k<z.heap.size/\¬H m k)/\qat y d g a/\z.heap.size<y.heap.size):=by
  obtain⟨w',hlw,hwi,hbw,hl2⟩:=HX.out;have hl3:=hl2;obtain⟨_,_,_,_,_,_,_,_,tt⟩:=hl3;have ts:=tt.size
  have hs4:z.heap.size<y.heap.size:=by rw[<-hWC];simp
  rw[hWC]at hbC;obtain⟨H,K,L,N,D⟩:=x.out.1.com x.out.2.2.1 x.out.2.2.2.1 hbw hl2 hbC;exact⟨w'.heap.size,H,hlw,by omega,K,L,N,D,hwi.later hbC,hs4⟩
 rw[hWC]at V J;clear hbC HX HRB;by_cases hE:ce=0
 ·subst hE;rw[show qa9 0=.nilIface from rfl];obtain⟨x0,x1,x2,x3,x4,x5,x6,x7,x8⟩:=V.c9;by_cases hsq:0<j
  ·have HT:Hid (∀H,PWo y b M (qi7 W i) H->(∀k,(⟨⟨l,j,o,p,q,r,s,u,a⟩,d,g⟩:TxM).blk k->w.heap.size<=k)->qat y d g a->Calls Tryz.prog 79 #[.pointer (some ⟨b,0,none⟩),.agg #[int i64 l,int i64 j,int i64 o,int i64 p,int i64 q,int i64 r,int i64 s,int i64 u,.slice d a.length g]] y λe w'=>e=.returned (.tuple #[])/\qgh y b M H (λk=>y.heap.size<=k) (qds ⟨l,j,o,p,q,r,s,u,a⟩ W.n (qi7 W i)) w'):=λH h1 h3 h4=>
        q00 l j o p q r s u a d g y h1 x.out.2.2.2.2.1 h4 (λk off e1 e2=>by
         have:=h3 k ⟨e1,off,e2⟩;refine⟨λe=>?_,λe=>?_⟩
         ·have:k<w.heap.size:=x.out.1.ltF k (.inl e);omega
         ·have:k<w.heap.size:=x.out.1.ltF k (.inr (.inr (.inr (.inl e))))
          omega) (by
         have:=x.out.2.2.2.2.2;rw[<-HM.out]at this
         exact this hsq)
   obtain⟨B,H,rB,rC,K,L,N,D,Q,X⟩:=HWX.out;have TL:=HT.out H K (λk C=>by have:=(D (W.at_ i) k (by omega) C).1;omega) Q
   have HF:Hid (∀P,qgh y b M H (λk=>y.heap.size<=k) (qds ⟨l,j,o,p,q,r,s,u,a⟩ W.n (qi7 W i)) P->∃E,PW P b E (wcW W i)/\(∀k,E k->G k\/B<=k)/\qae G w P/\∀k,(⟨⟨l,j,o,p,q,r,s,u,a⟩,d,g⟩:TxM).blk k->B<=k/\¬E k):=λP hs=>by
        have e:wcW W i=qds ⟨l,j,o,p,q,r,s,u,a⟩ W.n (qi7 W i):=by
         unfold wcW;rw[<-HM.out,if_pos hsq]
        rw[e];have sm:=qcp ⟨l,j,o,p,q,r,s,u,a⟩ W.n (qi7 W i);exact x.out.1.told x.out.2.1 x.out.2.2.1 x.out.2.2.2.1 sm.n sm.c (by omega) rC L N (λm k O C=>⟨(D m k O C).1,by have:=(D m k O C).2.1;omega,(D m k O C).2.2⟩) hs
   have Z:Hid (qat y d g a/\(∀k,(⟨⟨l,j,o,p,q,r,s,u,a⟩,d,g⟩:TxM).blk k->w.heap.size<=k/\k<z.heap.size)/\z.heap.size<y.heap.size):=⟨Q,λk C=>⟨by have:=(D (W.at_ i) k (by omega) C).1;omega,(D (W.at_ i) k (by omega) C).2.1⟩,X⟩;have HNO:Hid (∀k,w.heap.size<=k->k≠b/\M.nv.ownBlock≠some k):=λk C=>⟨λe=>by have:k<w.heap.size:=x.out.1.ltF k (.inl e);omega,λe=>by have:k<w.heap.size:=x.out.1.ltF k (.inr (.inr (.inr (.inl e))));omega⟩;have HBB:Hid (w.heap.size<B/\∀k,G k->k<w.heap.size):=⟨rB,PW.lt ⟨M,I,x.out.1,x.out.2.1⟩⟩;clear HT K L N D Q X HWX rB rC
   go_wp2_with (rw[hWC])
   refine TL.mono ?_;rintro e P ⟨rfl,hS⟩;have XD:=V.kept (hS.block (by have:=Z.out.2.2;omega) (HNO.out _ (by omega)).1 (HNO.out _ (by omega)).2) hS.size;have TD:=J.kept (hS.block (by have:=Z.out.2.2;omega) (HNO.out _ (Nat.le_refl _)).1 (HNO.out _ (Nat.le_refl _)).2) hS.size;have FIN:=HF.out P hS;have WD:qat P d g a:=qat.kept (m:=(⟨⟨l,j,o,p,q,r,s,u,a⟩,d,g⟩:TxM)) Z.out.1 (λk C=>hS.block (by have:=Z.out.2.1 k C;have:=Z.out.2.2;omega) (HNO.out k (Z.out.2.1 k C).1).1 (HNO.out k (Z.out.2.1 k C).1).2);have R:Hid (qat P d g a/\∃E,PW P b E (wcW W i)/\(∀k,E k->G k\/B<=k)/\qae G w P/\∀k,(⟨⟨l,j,o,p,q,r,s,u,a⟩,d,g⟩:TxM).blk k->B<=k/\¬E k):=⟨WD,FIN⟩;clear x0 x1 x2 x3 x4 x5 x6 x7 x8 TL HF hS FIN WD V J;obtain⟨x0,x1,x2,x3,x4,x5,x6,x7,x8⟩:=XD.c9;obtain⟨r0,K,L,N,D,Q,X,r7,r8⟩:=TD.c9;obtain⟨p0,p1,p2,p3,p4,p5,p6,p7,p8⟩:=TD.f9;have RZ:=qbk TD rfl l j o p q r s u (.slice d a.length g);have END:=qxn (m:=(⟨⟨l,j,o,p,q,r,s,u,a⟩,d,g⟩:TxM)) R.out HBB.out.2 HBB.out.1 l j o p q r s u (.slice d a.length g);clear R XD TD
   go_wp2_with fail
   exact bodyPost_ret (qd1 RZ rfl rfl) rfl ⟨(⟨⟨l,j,o,p,q,r,s,u,a⟩,d,g⟩:TxM),by rw[hce];rfl,HM.out,END⟩
  ·have R:Hid (∃B,w.heap.size<B/\(∀k,G k->k<w.heap.size)/\qat y d g a/\∃E,PW y b E (wcW W i)/\(∀k,E k->G k\/B<=k)/\qae G w y/\∀k,(⟨⟨l,j,o,p,q,r,s,u,a⟩,d,g⟩:TxM).blk k->B<=k/\¬E k):=by
        obtain⟨B,H,rB,rC,K,L,N,D,Q,X⟩:=HWX.out
        have e:wcW W i=qi7 W i:=by
         unfold wcW;rw[<-HM.out,if_neg hsq]
        rw[e];exact⟨B,rB,PW.lt ⟨M,I,x.out.1,x.out.2.1⟩,Q,x.out.1.told (W1:=qi7 W i) x.out.2.1 x.out.2.2.1 x.out.2.2.2.1 rfl rfl (by omega) rC L N (λm k O C=>⟨(D m k O C).1,by have:=(D m k O C).2.1;omega,(D m k O C).2.2⟩) (qgh.none K (Below.refl _ _) _)⟩
   obtain⟨r0,K,L,N,D,Q,X,r7,r8⟩:=J.c9;obtain⟨p0,p1,p2,p3,p4,p5,p6,p7,p8⟩:=J.f9;have RZ:=qbk J rfl l j o p q r s u (.slice d a.length g);obtain⟨B,hB,hGl,hF⟩:=R.out;have END:=qxn (m:=(⟨⟨l,j,o,p,q,r,s,u,a⟩,d,g⟩:TxM)) hF hGl hB l j o p q r s u (.slice d a.length g);clear R HWX V J hF hGl
   go_wp2_with (rw[hWC])
   exact bodyPost_ret (qd1 RZ rfl rfl) rfl ⟨(⟨⟨l,j,o,p,q,r,s,u,a⟩,d,g⟩:TxM),by rw[hce];rfl,HM.out,END⟩
 ·have R:Hid (∃B,w.heap.size<B/\(∀k,G k->k<w.heap.size)/\wcT W i=tx0.t/\qat y tx0.wa tx0.wc tx0.t.ws/\∃E,PW y b E (wcW W i)/\(∀k,E k->G k\/B<=k)/\qae G w y/\∀k,tx0.blk k->B<=k/\¬E k):=by
   obtain⟨B,H,rB,rC,K,L,N,D,Q,X⟩:=HWX.out;have e0:wcT W i=tx0.t:=(qtx (by have:=hce;unfold wcE at this;rw[this];exact hE)).1
   have e:wcW W i=qi7 W i:=by
        unfold wcW;rw[e0,if_neg (by decide)]
   rw[e];exact⟨B,rB,PW.lt ⟨M,I,x.out.1,x.out.2.1⟩,e0,qmy _,x.out.1.told (W1:=qi7 W i) (Y:=tx0.blk) x.out.2.1 x.out.2.2.1 x.out.2.2.2.1 rfl rfl (by omega) rC L N (λm k O C=>absurd C (qfy k)) (qgh.none K (Below.refl _ _) _)⟩
  rw[show qa9 ce=.iface 29 (int i64 ce) by unfold qa9;rw[if_neg hE]];obtain⟨r0,K,L,N,D,Q,X,r7,r8⟩:=J.c9;obtain⟨p0,p1,p2,p3,p4,p5,p6,p7,p8⟩:=J.f9;have RZ:=qbk J rfl 0 0 0 0 0 0 0 0 (.slice none 0 0);obtain⟨B,hB,hGl,e0,hF⟩:=R.out;have END:=qxn (m:=tx0) hF hGl hB 0 0 0 0 0 0 0 0 (.slice none 0 0);clear R HWX V J hF hGl
  go_wp2_with (rw[hWC])
  exact bodyPost_ret (qd1 RZ rfl rfl) rfl ⟨tx0,by rw[hce];unfold qa9;rw[if_neg hE];rfl,e0.symm,END⟩
end
section
open Go.Value Go.IntKind
theorem qiv {tmps:Array Value} {w:World} {a c:Nat} {p0 p1 p2 p3 s0 s1 s2 s3:Int} {d e g:Value} (h:qag w a [int i64 p0,int i64 p1,int i64 p2,int i64 p3]) (i:qag w c [int i64 s0,int i64 s1,int i64 s2,int i64 s3]) (j:tmps[4]?=some d) (k:tmps[5]?=some (.pointer (some ⟨a,0,none⟩))) (l:tmps[6]?=some (.pointer (some ⟨c,0,none⟩))) (m:tmps[7]?=some e) (n:tmps[8]?=some g):
 (results Tryz.f17 tmps).run Tryz.prog w=.ok (.tuple #[d,.agg #[int i64 p0,int i64 p1,int i64 p2,int i64 p3],.agg #[int i64 s0,int i64 s1,int i64 s2,int i64 s3],e,g]) w:=by
 obtain⟨o,p,q,r⟩:=h.c4;obtain⟨s,t,u,v⟩:=i.c4;simp[results,Tryz.results17,go_sem,j,k,l,m,n,o,p,q,r,s,t,u,v]
variable {W:World} {b:Nat} {xs:List Value}
theorem qt0 (h:qag W b xs) (e:xs.length=4) (x0 x1 x2 x3:Int):qag ((((W.setCell ⟨b,0,none⟩ (int i64 x0)).setCell ⟨b,1,none⟩ (int i64 x1)).setCell ⟨b,2,none⟩ (int i64 x2)).setCell ⟨b,3,none⟩ (int i64 x3)) b [int i64 x0,int i64 x1,int i64 x2,int i64 x3]:=by
 obtain⟨a,f,c,d,rfl⟩:∃a b c d,xs=[a,b,c,d]:=by
  match xs,e with
  |[a,b,c,d],_=>exact⟨a,b,c,d,rfl⟩
 exact(((h.set 0 _ (by simp)).set 1 _ (by simp)).set 2 _ (by simp)).set 3 _ (by simp)
theorem qow {q:Nat} (h:qag W b xs) (a:q≠b) (x0 x1 x2 x3:Int):qag ((((W.setCell ⟨q,0,none⟩ (int i64 x0)).setCell ⟨q,1,none⟩ (int i64 x1)).setCell ⟨q,2,none⟩ (int i64 x2)).setCell ⟨q,3,none⟩ (int i64 x3)) b xs:=
 (((h.far _ _ a).far _ _ a).far _ _ a).far _ _ a
theorem qxg {G:Nat->Prop} {W:WoS} (w:World) (h:PW w b G W) {i:Nat} (j:i<W.c):
 Calls Tryz.prog 17 #[.pointer (some ⟨b,0,none⟩),int i64 i] w λe w'=>e=.returned (.tuple #[int i64 (W.at_ i),.agg #[int i64 (W.ses i).p0,int i64 (W.ses i).p1,int i64 (W.ses i).p2,int i64 (W.ses i).p3],.agg #[int i64 (W.ses i).s0,int i64 (W.ses i).s1,int i64 (W.ses i).s2,int i64 (W.ses i).s3],.bool (W.ses i).opn,.nilIface])/\Below w.heap.size w w':=by
 obtain⟨M,U,h,D⟩:=h;have n:=boxed (boxed (Below.refl _ w) (.cells #[int i64 0,int i64 0,int i64 0,int i64 0] 47)) (.cells #[int i64 0,int i64 0,int i64 0,int i64 0] 47);obtain⟨V,X,c1,Y,Z,x0,x1⟩:=(h.later n).client j;have r:=qa7 (k:=i) (v:=true) _ c1 (by simp;omega);have l:=(boxed n (.cells #[.pointer (some ⟨M.bs i,0,none⟩),int i64 (W.at_ i)] 103)).drew;have E:Hid (∀w':World,Below w.heap.size w w'->Calls Tryz.prog 61 #[.pointer (some ⟨M.bs i,0,none⟩)] w' λe g=>e=.returned (.agg #[int i64 (W.ses i).p0,int i64 (W.ses i).p1,int i64 (W.ses i).p2,int i64 (W.ses i).p3])/\Below w'.heap.size w' g):=λw' hb=>qyg w' ((h.sess j).later hb);have F:Hid (∀w':World,Below w.heap.size w w'->Calls Tryz.prog 62 #[.pointer (some ⟨M.bs i,0,none⟩)] w' λe g=>e=.returned (.agg #[int i64 (W.ses i).s0,int i64 (W.ses i).s1,int i64 (W.ses i).s2,int i64 (W.ses i).s3])/\Below w'.heap.size w' g):=λw' hb=>qrr w' ((h.sess j).later hb);have H:Hid (∀w':World,Below w.heap.size w w'->Calls Tryz.prog 63 #[.pointer (some ⟨M.bs i,0,none⟩)] w' λe g=>e=.returned (.bool (W.ses i).opn)/\Below w'.heap.size w' g):=λw' hb=>ql0 w' ((h.sess j).later hb);have s:qag ((w.alloc (.cells #[int i64 0,int i64 0,int i64 0,int i64 0] 47)).alloc (.cells #[int i64 0,int i64 0,int i64 0,int i64 0] 47)) w.heap.size [int i64 0,int i64 0,int i64 0,int i64 0]:=(qag.new (w:=w) (T:=47) [int i64 0,int i64 0,int i64 0,int i64 0] rfl).boxed _;have u:qag ((w.alloc (.cells #[int i64 0,int i64 0,int i64 0,int i64 0] 47)).alloc (.cells #[int i64 0,int i64 0,int i64 0,int i64 0] 47)) (w.heap.size+1) [int i64 0,int i64 0,int i64 0,int i64 0]:=qag.new (T:=47) [int i64 0,int i64 0,int i64 0,int i64 0] (by simp)
 have q1:(i:Int)<(W.c:Int):=by omega
 have hlt:=(h.later n).box.lt;have x:Hid (qag ((w.alloc (.cells #[int i64 0,int i64 0,int i64 0,int i64 0] 47)).alloc (.cells #[int i64 0,int i64 0,int i64 0,int i64 0] 47)) w.heap.size [int i64 0,int i64 0,int i64 0,int i64 0]/\qag ((w.alloc (.cells #[int i64 0,int i64 0,int i64 0,int i64 0] 47)).alloc (.cells #[int i64 0,int i64 0,int i64 0,int i64 0] 47)) (w.heap.size+1) [int i64 0,int i64 0,int i64 0,int i64 0]):=⟨s,u⟩;have y:=(boxed (Below.refl _ ((w.alloc (.cells #[int i64 0,int i64 0,int i64 0,int i64 0] 47)).alloc (.cells #[int i64 0,int i64 0,int i64 0,int i64 0] 47))) (.cells #[.pointer (some ⟨M.bs i,0,none⟩),int i64 (W.at_ i)] 103)).drew;have z:qag (((w.alloc (.cells #[int i64 0,int i64 0,int i64 0,int i64 0] 47)).alloc (.cells #[int i64 0,int i64 0,int i64 0,int i64 0] 47)).alloc (.cells #[.pointer (some ⟨M.bs i,0,none⟩),int i64 (W.at_ i)] 103)).drew (w.heap.size+1+1) [.pointer (some ⟨M.bs i,0,none⟩),int i64 (W.at_ i)]:=(qag.new (T:=103) [.pointer (some ⟨M.bs i,0,none⟩),int i64 (W.at_ i)] (by simp)).drew;have I:(qag (((w.alloc (.cells #[int i64 0,int i64 0,int i64 0,int i64 0] 47)).alloc (.cells #[int i64 0,int i64 0,int i64 0,int i64 0] 47)).alloc (.cells #[.pointer (some ⟨M.bs i,0,none⟩),int i64 (W.at_ i)] 103)).drew (w.heap.size+1+1) [.pointer (some ⟨M.bs i,0,none⟩),int i64 (W.at_ i)]):=z;have Y0:=λ(w':World) (h:qag w' (w.heap.size+1+1) [.pointer (some ⟨M.bs i,0,none⟩),int i64 (W.at_ i)])=>h.cell 0 _ rfl;have Y1:=λ(w':World) (h:qag w' (w.heap.size+1+1) [.pointer (some ⟨M.bs i,0,none⟩),int i64 (W.at_ i)])=>h.cell 1 _ rfl;clear h D s u z;go_enter Tryz.func17,Tryz.ntmps17
 go_wp2_with fail
 refine r.mono ?_;rintro e w2 ⟨rfl,B⟩;have J:=B.symm;clear B r;subst J
 go_wp2_with fail
 go_region_held3 (λw'=>qag w' (w.heap.size+1+1) [.pointer (some ⟨M.bs i,0,none⟩),int i64 (W.at_ i)]) (first|with_reducible assumption|(with_reducible refine qow ?_ (by omega) _ _ _ _;with_reducible assumption))
  (first
    |(go_at_call 61;(with_reducible refine(E.out _ l).mono ?_);rintro e w3 ⟨rfl,m⟩;have K:=I.later m)
    |(go_at_call 62;(with_reducible refine(F.out _ (qac l m)).mono ?_);rintro e w4 ⟨rfl,o⟩;have L:=K.later o)
    |(go_at_call 63;(with_reducible refine(H.out _ (qac (qac l m) o)).mono ?_);rintro e w5 ⟨rfl,C⟩;have C5:=L.later C;have p:=qac (qac m o) C;have a:=(x.out.1.later y).later p;have d:=(x.out.2.later y).later p;have a0:=a.cell 0 _ rfl;have a1:=a.cell 1 _ rfl;have a2:=a.cell 2 _ rfl;have a3:=a.cell 3 _ rfl;have f0:=a.free 0 (by simp);have f1:=a.free 1 (by simp);have f2:=a.free 2 (by simp);have f3:=a.free 3 (by simp);have d0:=d.cell 0 _ rfl;have d1:=d.cell 1 _ rfl;have d2:=d.cell 2 _ rfl;have d3:=d.cell 3 _ rfl;have e0:=d.free 0 (by simp);have e1:=d.free 1 (by simp);have e2:=d.free 2 (by simp);have e3:=d.free 3 (by simp);have N:=qac l p))
 all_goals
  go_wp2_with fail
  have O:=qt0 a rfl (W.ses i).p0 (W.ses i).p1 (W.ses i).p2 (W.ses i).p3;have P:=qow (q:=w.heap.size) d (by omega) (W.ses i).p0 (W.ses i).p1 (W.ses i).p2 (W.ses i).p3;have Q:=qow (q:=w.heap.size+1) O (by omega) (W.ses i).s0 (W.ses i).s1 (W.ses i).s2 (W.ses i).s3;have R:=qt0 P rfl (W.ses i).s0 (W.ses i).s1 (W.ses i).s2 (W.ses i).s3;have S:=qe1 (b:=w.heap.size+1) (qe1 (b:=w.heap.size) N (by omega) (W.ses i).p0 (W.ses i).p1 (W.ses i).p2 (W.ses i).p3) (by omega) (W.ses i).s0 (W.ses i).s1 (W.ses i).s2 (W.ses i).s3;refine bodyPost_ret (qiv Q R rfl rfl rfl rfl rfl) rfl ⟨rfl,S⟩
end
section
open Tryz Go.Value Go.IntKind
variable {i:Nat}
section
variable {w:World} {b:Nat} {G:Nat->Prop} {W:WoS}
theorem PW.lens (h:PW w b G W):∃a0 a a1 d a2 e,w.cell? ⟨b,0,none⟩=some (.slice a0 W.n a)/\w.cell? ⟨b,1,none⟩=some (.slice a1 W.c d)/\w.cell? ⟨b,2,none⟩=some (.slice a2 W.net.length e)/\w.cell? ⟨b,3,none⟩=some (int i64 W.lost)/\b<w.heap.size:=by
 obtain⟨M,m,h,_⟩:=h;obtain⟨a0,a,f,_⟩:=qan h.pr;obtain⟨a1,d,g,_⟩:=qan h.cr;obtain⟨a2,e,j,_⟩:=qan h.nr
 have k:M.l.length=W.net.length:=by rw[<-h.nl];simp
 have c0:=h.box.cell 0 _ rfl;have c1:=h.box.cell 1 _ rfl;have c2:=h.box.cell 2 _ rfl;rw[f]at c0;rw[g]at c1;rw[j,k]at c2;exact⟨a0,a,a1,d,a2,e,c0,c1,c2,h.box.cell 3 _ rfl,h.box.lt⟩
theorem qs2 (k:Int) (w:World) (h:PW w b G W) (j:¬(0<=k/\k<(W.c:Int))):
 Calls prog 33 #[.pointer (some ⟨b,0,none⟩),int i64 k] w λe w'=>e=.returned (qa9 2)/\Below w.heap.size w w':=by
 obtain⟨a0,l,a1,m,a2,n,c0,c1,c2,c3,o⟩:=h.lens
 have a:=qa7 (k:=k) (v:=false) w c1 (by
  have q:¬(0<=k)\/¬(k<(W.c:Int)):=by omega
  rcases q with q|q<;>simp[q])
 clear h c0 c1 c2 c3;go_enter func33,ntmps33
 go_wp2_with fail
 refine a.mono ?_;rintro e w2 ⟨rfl,d⟩;have g:=d.symm;clear d a;subst g
 go_wp2_with fail
 go_ret;exact⟨rfl,Below.refl _ _⟩
theorem qvx (k:Int) (key:Int) (w:World) (h:PW w b G W) (j:¬(0<=k/\k<(W.c:Int))):
 Calls prog 25 #[.pointer (some ⟨b,0,none⟩),int i64 k,int i64 key] w λe w'=>e=.returned (.tuple #[.string ⟨#[]⟩,qa9 2])/\Below w.heap.size w w':=by
 obtain⟨a0,l,a1,m,a2,n,c0,c1,c2,c3,o⟩:=h.lens
 have a:=qa7 (k:=k) (v:=false) w c1 (by
  have q:¬(0<=k)\/¬(k<(W.c:Int)):=by omega
  rcases q with q|q<;>simp[q])
 clear h c0 c1 c2 c3;go_enter func25,ntmps25
 go_wp2_with fail
 refine a.mono ?_;rintro e w2 ⟨rfl,d⟩;have g:=d.symm;clear d a;subst g
 go_wp2_with fail
 go_ret2;exact⟨rfl,Below.refl _ _⟩
theorem qsl (k:Int) (xk:Int) (xd:ByteArray) (xg:Bool) (w:World) (h:PW w b G W) (l:¬(0<=k/\k<(W.c:Int))):
 Calls prog 36 #[.pointer (some ⟨b,0,none⟩),int i64 k,.agg #[int i64 xk,.string xd,.bool xg]] w λe w'=>e=.returned (qa9 2)/\Below w.heap.size w w':=by
 obtain⟨a0,m,a1,n,a2,o,c0,c1,c2,c3,p⟩:=h.lens;have g:=boxed (Below.refl _ w) (.cells #[int i64 xk,.string xd,.bool xg] 34)
 have a:=qa7 (k:=k) (v:=false) (w.alloc (.cells #[int i64 xk,.string xd,.bool xg] 34)) (cell_later g c1) (by
  have q:¬(0<=k)\/¬(k<(W.c:Int)):=by omega
  rcases q with q|q<;>simp[q])
 clear h c0 c1 c2 c3;go_enter func36,ntmps36
 go_wp2_with fail
 refine a.mono ?_;rintro e w2 ⟨rfl,d⟩;have j:=d.symm;clear d a;subst j
 go_wp2_with fail
 go_ret;exact⟨rfl,boxed (Below.refl _ w) _⟩
theorem qrm (k:Int) (w:World) (h:PW w b G W) (o:¬(0<=k/\k<(W.c:Int))):
 Calls prog 38 #[.pointer (some ⟨b,0,none⟩),int i64 k] w λe w'=>e=.returned (.tuple #[.agg #[int i64 0,int i64 0,int i64 0,int i64 0,int i64 0,int i64 0,int i64 0,int i64 0,.slice none 0 0],qa9 2])/\Below w.heap.size w w':=by
 obtain⟨a0,p,a1,r,a2,s,c0,c1,c2,c3,u⟩:=h.lens;have d:=boxed (Below.refl _ w) (.cells #[int i64 0,int i64 0,int i64 0,int i64 0,int i64 0,int i64 0,int i64 0,int i64 0,.slice none 0 0] 80);have a:=qag.new (w:=w) (T:=80) (n:=w.heap.size) [int i64 0,int i64 0,int i64 0,int i64 0,int i64 0,int i64 0,int i64 0,int i64 0,.slice none 0 0] rfl;have x:=a.cell 0 _ rfl;have f0:=a.free 0 (by simp);have y:=a.cell 1 _ rfl;have f1:=a.free 1 (by simp);have z:=a.cell 2 _ rfl;have f2:=a.free 2 (by simp);have B:=a.cell 3 _ rfl;have f3:=a.free 3 (by simp);have C:=a.cell 4 _ rfl;have D:=a.free 4 (by simp);have E:=a.cell 5 _ rfl;have F:=a.free 5 (by simp);have H:=a.cell 6 _ rfl;have I:=a.free 6 (by simp);have J:=a.cell 7 _ rfl;have K:=a.free 7 (by simp);have L:=a.cell 8 _ rfl;have M:=a.free 8 (by simp);have RS:=qbk a rfl 0 0 0 0 0 0 0 0 (.slice none 0 0);simp only[qbg]at RS;have l:Hid _:=a;clear a RS
 have g:=qa7 (k:=k) (v:=false) (w.alloc (.cells #[int i64 0,int i64 0,int i64 0,int i64 0,int i64 0,int i64 0,int i64 0,int i64 0,.slice none 0 0] 80)) (cell_later d c1) (by
  have q:¬(0<=k)\/¬(k<(W.c:Int)):=by omega
  rcases q with q|q<;>simp[q])
 clear h c0 c1 c2 c3;go_enter func38,ntmps38
 go_wp2_with fail
 refine g.mono ?_;rintro e w2 ⟨rfl,j⟩;have m:=j.symm;clear j g;subst m
 go_wp2_with fail
 (try simp only[Exit.inBlock,Exit.then])
 exact bodyPost_ret (qd1 l.out rfl rfl) rfl ⟨rfl,d⟩
theorem qr1 (k:Int) (w:World) (h:PW w b G W) (j:¬(0<=k/\k<(W.c:Int))):
 Calls prog 40 #[.pointer (some ⟨b,0,none⟩),int i64 k] w λe w'=>e=.returned (qa9 2)/\Below w.heap.size w w':=by
 obtain⟨a0,l,a1,m,a2,n,c0,c1,c2,c3,o⟩:=h.lens
 have a:=qa7 (k:=k) (v:=false) w c1 (by
  have q:¬(0<=k)\/¬(k<(W.c:Int)):=by omega
  rcases q with q|q<;>simp[q])
 clear h c0 c1 c2 c3;go_enter func40,ntmps40
 go_wp2_with fail
 refine a.mono ?_;rintro e w2 ⟨rfl,d⟩;have g:=d.symm;clear d a;subst g
 go_wp2_with fail
 go_ret;exact⟨rfl,Below.refl _ _⟩
theorem qm8 (k:Int) (w:World) (h:PW w b G W) (g:¬(0<=k/\k<(W.net.length:Int))):
 Calls prog 47 #[.pointer (some ⟨b,0,none⟩),int i64 k] w λe w'=>e=.returned (qa9 2)/\Below w.heap.size w w':=by
 obtain⟨a0,j,a1,l,a2,m,c0,c1,c2,c3,n⟩:=h.lens
 have a:=qe0 (k:=k) (v:=false) w c2 (by
  have q:¬(0<=k)\/¬(k<(W.net.length:Int)):=by omega
  rcases q with q|q<;>simp[q])
 clear h c0 c1 c2 c3;go_enter func47,ntmps47
 go_wp2_with fail
 refine a.mono ?_;rintro e w2 ⟨rfl,c⟩;have d:=c.symm;clear c a;subst d
 go_wp2_with fail
 go_ret;exact⟨rfl,Below.refl _ _⟩
theorem qry (k:Int) (w:World) (h:PW w b G W) (g:¬(0<=k/\k<(W.net.length:Int))):
 Calls prog 48 #[.pointer (some ⟨b,0,none⟩),int i64 k] w λe w'=>e=.returned (qa9 2)/\Below w.heap.size w w':=by
 obtain⟨a0,j,a1,l,a2,m,c0,c1,c2,c3,n⟩:=h.lens
 have a:=qe0 (k:=k) (v:=false) w c2 (by
  have q:¬(0<=k)\/¬(k<(W.net.length:Int)):=by omega
  rcases q with q|q<;>simp[q])
 clear h c0 c1 c2 c3;go_enter func48,ntmps48
 go_wp2_with fail
 refine a.mono ?_;rintro e w2 ⟨rfl,c⟩;have d:=c.symm;clear c a;subst d
 go_wp2_with fail
 go_ret;exact⟨rfl,Below.refl _ _⟩
theorem qqj (k:Int) (w:World) (h:PW w b G W) (g:¬(0<=k/\k<(W.net.length:Int))):
 Calls prog 50 #[.pointer (some ⟨b,0,none⟩),int i64 k] w λe w'=>e=.returned (qa9 2)/\Below w.heap.size w w':=by
 obtain⟨a0,j,a1,l,a2,m,c0,c1,c2,c3,n⟩:=h.lens
 have a:=qe0 (k:=k) (v:=false) w c2 (by
  have q:¬(0<=k)\/¬(k<(W.net.length:Int)):=by omega
  rcases q with q|q<;>simp[q])
 clear h c0 c1 c2 c3;go_enter func50,ntmps50
 go_wp2_with fail
 refine a.mono ?_;rintro e w2 ⟨rfl,c⟩;have d:=c.symm;clear c a;subst d
 go_wp2_with fail
 go_ret;exact⟨rfl,Below.refl _ _⟩
theorem qsm (k:Int) (w:World) (h:PW w b G W) (g:¬(0<=k/\k<(W.n:Int))):
 Calls prog 52 #[.pointer (some ⟨b,0,none⟩),int i64 k] w λe w'=>e=.returned (qa9 2)/\Below w.heap.size w w':=by
 obtain⟨a0,j,a1,l,a2,m,c0,c1,c2,c3,o⟩:=h.lens
 have a:=qbd (k:=k) (v:=false) w c0 (by
  have q:¬(0<=k)\/¬(k<(W.n:Int)):=by omega
  rcases q with q|q<;>simp[q])
 clear h c0 c1 c2 c3;go_enter func52,ntmps52
 go_wp2_with fail
 refine a.mono ?_;rintro e w2 ⟨rfl,c⟩;have d:=c.symm;clear c a;subst d
 go_wp2_with fail
 go_ret;exact⟨rfl,Below.refl _ _⟩
theorem qux (k:Int) (y:Int) (w:World) (h:PW w b G W) (g:¬(0<=k/\k<(W.n:Int))):
 Calls prog 42 #[.pointer (some ⟨b,0,none⟩),int i64 k,int i64 y] w λe w'=>e=.returned (qa9 2)/\Below w.heap.size w w':=by
 obtain⟨a0,j,a1,l,a2,m,c0,c1,c2,c3,o⟩:=h.lens
 have a:=qbd (k:=k) (v:=false) w c0 (by
  have q:¬(0<=k)\/¬(k<(W.n:Int)):=by omega
  rcases q with q|q<;>simp[q])
 clear h c0 c1 c2 c3;go_enter func42,ntmps42
 go_wp2_with fail
 refine a.mono ?_;rintro e w2 ⟨rfl,c⟩;have d:=c.symm;clear c a;subst d
 go_wp2_with fail
 go_ret;exact⟨rfl,Below.refl _ _⟩
theorem qu4 (k:Int) (y:Int) (w:World) (h:PW w b G W) (j:¬(0<=k/\k<(W.c:Int))):
 Calls prog 41 #[.pointer (some ⟨b,0,none⟩),int i64 k,int i64 y] w λe w'=>e=.returned (qa9 2)/\Below w.heap.size w w':=by
 obtain⟨a0,l,a1,m,a2,n,c0,c1,c2,c3,o⟩:=h.lens
 have a:=qa7 (k:=k) (v:=false) w c1 (by
  have q:¬(0<=k)\/¬(k<(W.c:Int)):=by omega
  rcases q with q|q<;>simp[q])
 clear h c0 c1 c2 c3;go_enter func41,ntmps41
 go_wp2_with fail
 refine a.mono ?_;rintro e w2 ⟨rfl,d⟩;have g:=d.symm;clear d a;subst g
 go_wp2_with fail
 go_ret;exact⟨rfl,Below.refl _ _⟩
theorem qr6 (y:Int) (w:World) (h:PW w b G W) (o:i<W.c) (p:¬(0<=y/\y<(W.n:Int))):
 Calls prog 41 #[.pointer (some ⟨b,0,none⟩),int i64 i,int i64 y] w λe w'=>e=.returned (qa9 2)/\Below w.heap.size w w':=by
 obtain⟨a0,r,a1,s,a2,t,c0,c1,c2,c3,u⟩:=h.lens;have a:=qa7 (k:=i) (v:=true) w c1 (by simp;omega)
 have d:=qbd (k:=y) (v:=false) w c0 (by
  have q:¬(0<=y)\/¬(y<(W.n:Int)):=by omega
  rcases q with q|q<;>simp[q])
 clear h c0 c1 c2 c3;go_enter func41,ntmps41
 go_wp2_with fail
 refine a.mono ?_;rintro e w2 ⟨rfl,g⟩;have l:=g.symm;clear g a;subst l
 go_wp2_with fail
 refine d.mono ?_;rintro e x ⟨rfl,j⟩;have m:=j.symm;clear j d;subst m
 go_wp2_with fail
 go_ret;exact⟨rfl,Below.refl _ _⟩
theorem qsn (y:Int) (w:World) (h:PW w b G W) (g:i<W.n) (j:¬(0<=y/\y<=1099511627776)):
 Calls prog 42 #[.pointer (some ⟨b,0,none⟩),int i64 i,int i64 y] w λe w'=>e=.returned (qa9 2)/\Below w.heap.size w w':=by
 obtain⟨a0,l,a1,m,a2,o,c0,c1,c2,c3,p⟩:=h.lens;have c:=qbd (k:=i) (v:=true) w c0 (by simp;omega);clear h c0 c1 c2 c3;by_cases q:y<0
 ·skip;go_enter func42,ntmps42
  go_wp2_with fail
  refine c.mono ?_;rintro e w2 ⟨rfl,a⟩;have d:=a.symm;clear a c;subst d
  go_wp2_with fail
  go_ret;exact⟨rfl,Below.refl _ _⟩
 ·have r:1099511627776<y:=by omega
  go_enter func42,ntmps42
  go_wp2_with fail
  refine c.mono ?_;rintro e w2 ⟨rfl,a⟩;have d:=a.symm;clear a c;subst d
  go_wp2_with fail
  go_ret;exact⟨rfl,Below.refl _ _⟩
theorem qyq (k:Int) (y:Int) (w:World) (h:PW w b G W) (g:¬(0<=k/\k<(W.n:Int))):
 Calls prog 44 #[.pointer (some ⟨b,0,none⟩),int i64 k,int i64 y] w λe w'=>e=.returned (qa9 2)/\Below w.heap.size w w':=by
 obtain⟨a0,j,a1,l,a2,m,c0,c1,c2,c3,o⟩:=h.lens
 have a:=qbd (k:=k) (v:=false) w c0 (by
  have q:¬(0<=k)\/¬(k<(W.n:Int)):=by omega
  rcases q with q|q<;>simp[q])
 clear h c0 c1 c2 c3;go_enter func44,ntmps44
 go_wp2_with fail
 refine a.mono ?_;rintro e w2 ⟨rfl,c⟩;have d:=c.symm;clear c a;subst d
 go_wp2_with fail
 go_ret;exact⟨rfl,Below.refl _ _⟩
theorem qv3 (y:Int) (w:World) (h:PW w b G W) (m:i<W.n) (o:¬(0<=y/\y<(W.n:Int))):
 Calls prog 44 #[.pointer (some ⟨b,0,none⟩),int i64 i,int i64 y] w λe w'=>e=.returned (qa9 2)/\Below w.heap.size w w':=by
 obtain⟨a0,p,a1,r,a2,s,c0,c1,c2,c3,t⟩:=h.lens;have a:=qbd (k:=i) (v:=true) w c0 (by simp;omega)
 have c:=qbd (k:=y) (v:=false) w c0 (by
  have q:¬(0<=y)\/¬(y<(W.n:Int)):=by omega
  rcases q with q|q<;>simp[q])
 clear h c0 c1 c2 c3;go_enter func44,ntmps44
 go_wp2_with fail
 refine a.mono ?_;rintro e w2 ⟨rfl,d⟩;have j:=d.symm;clear d a;subst j
 go_wp2_with fail
 refine c.mono ?_;rintro e u ⟨rfl,g⟩;have l:=g.symm;clear g c;subst l
 go_wp2_with fail
 go_ret;exact⟨rfl,Below.refl _ _⟩
theorem q4b (w:World) (h:PW w b G W):Calls prog 13 #[.pointer (some ⟨b,0,none⟩)] w λe w'=>e=.returned (int i64 W.lost)/\w'=w:=by
 obtain⟨a0,a,a1,c,a2,d,c0,c1,c2,c3,g⟩:=h.lens;clear h c0 c1 c2;go_enter func13,ntmps13
 go_wp2_with fail
 go_ret;exact⟨rfl,rfl⟩
theorem qvy (k:Int) (w:World) (h:PW w b G W) (m:¬(0<=k/\k<(W.n:Int))):
 Calls prog 14 #[.pointer (some ⟨b,0,none⟩),int i64 k] w λe w'=>e=.returned (.tuple #[.agg #[int i64 0,int i64 0,int i64 0,int i64 0],int i64 0,.slice none 0 0,int i64 0,qa9 2])/\Below w.heap.size w w':=by
 obtain⟨a0,o,a1,p,a2,r,c0,c1,c2,c3,s⟩:=h.lens;have c:=boxed (Below.refl _ w) (.cells #[int i64 0,int i64 0,int i64 0,int i64 0] 47);have a:=qag.new (w:=w) (T:=47) (n:=w.heap.size) [int i64 0,int i64 0,int i64 0,int i64 0] rfl;have u:=a.cell 0 _ rfl;have f0:=a.free 0 (by simp);have x:=a.cell 1 _ rfl;have f1:=a.free 1 (by simp);have y:=a.cell 2 _ rfl;have f2:=a.free 2 (by simp);have z:=a.cell 3 _ rfl;have f3:=a.free 3 (by simp);have j:Hid _:=a;clear a
 have d:=qbd (k:=k) (v:=false) (w.alloc (.cells #[int i64 0,int i64 0,int i64 0,int i64 0] 47)) (cell_later c c0) (by
  have q:¬(0<=k)\/¬(k<(W.n:Int)):=by omega
  rcases q with q|q<;>simp[q])
 clear h c0 c1 c2 c3;go_enter func14,ntmps14
 go_wp2_with fail
 refine d.mono ?_;rintro e w2 ⟨rfl,g⟩;have l:=g.symm;clear g d;subst l
 go_wp2_with fail
 (try simp only[Exit.inBlock,Exit.then])
 exact bodyPost_ret (qk4 j.out rfl rfl rfl rfl rfl) rfl ⟨rfl,c⟩
theorem qqx (k:Int) (w:World) (h:PW w b G W) (p:¬(0<=k/\k<(W.c:Int))):
 Calls prog 17 #[.pointer (some ⟨b,0,none⟩),int i64 k] w λe w'=>e=.returned (.tuple #[int i64 0,.agg #[int i64 0,int i64 0,int i64 0,int i64 0],.agg #[int i64 0,int i64 0,int i64 0,int i64 0],.bool false,qa9 2])/\Below w.heap.size w w':=by
 obtain⟨a0,r,a1,s,a2,u,c0,c1,c2,c3,x⟩:=h.lens;have g:=boxed (boxed (Below.refl _ w) (.cells #[int i64 0,int i64 0,int i64 0,int i64 0] 47)) (.cells #[int i64 0,int i64 0,int i64 0,int i64 0] 47);have a:=(qag.new (w:=w) (T:=47) (n:=w.heap.size) [int i64 0,int i64 0,int i64 0,int i64 0] rfl).later (boxed (Below.refl _ _) (.cells #[int i64 0,int i64 0,int i64 0,int i64 0] 47));have d:=qag.new (w:=w.alloc (.cells #[int i64 0,int i64 0,int i64 0,int i64 0] 47)) (T:=47) (n:=w.heap.size+1) [int i64 0,int i64 0,int i64 0,int i64 0] (by simp);have y:=a.cell 0 _ rfl;have f0:=a.free 0 (by simp);have z:=d.cell 0 _ rfl;have B:=d.free 0 (by simp);have C:=a.cell 1 _ rfl;have f1:=a.free 1 (by simp);have D:=d.cell 1 _ rfl;have E:=d.free 1 (by simp);have F:=a.cell 2 _ rfl;have f2:=a.free 2 (by simp);have H:=d.cell 2 _ rfl;have I:=d.free 2 (by simp);have J:=a.cell 3 _ rfl;have f3:=a.free 3 (by simp);have K:=d.cell 3 _ rfl;have L:=d.free 3 (by simp);have j:Hid _:=And.intro a d;clear a d
 have l:=qa7 (k:=k) (v:=false) ((w.alloc (.cells #[int i64 0,int i64 0,int i64 0,int i64 0] 47)).alloc (.cells #[int i64 0,int i64 0,int i64 0,int i64 0] 47)) (cell_later g c1) (by
  have q:¬(0<=k)\/¬(k<(W.c:Int)):=by omega
  rcases q with q|q<;>simp[q])
 clear h c0 c1 c2 c3;go_enter func17,ntmps17
 go_wp2_with fail
 refine l.mono ?_;rintro e w2 ⟨rfl,m⟩;have o:=m.symm;clear m l;subst o
 go_wp2_with fail
 (try simp only[Exit.inBlock,Exit.then])
 exact bodyPost_ret (qiv j.out.1 j.out.2 rfl rfl rfl rfl rfl) rfl ⟨rfl,g⟩
theorem qyt {n c:Int} (a:¬((1<=n/\n<=4)/\(0<=c/\c<=6))) (w:World):
 Calls prog 7 #[int i64 n,int i64 c] w λe w'=>e=.returned (.tuple #[.pointer none,qa9 2])/\Below w.heap.size w w':=by
 by_cases d:n<1
 ·skip;go_enter func7,ntmps7
  go_wp2_with fail
  go_ret2;exact⟨rfl,Below.refl _ _⟩
 by_cases g:4<n
 ·skip;go_enter func7,ntmps7
  go_wp2_with fail
  go_ret2;exact⟨rfl,Below.refl _ _⟩
 by_cases h:c<0
 ·skip;go_enter func7,ntmps7
  go_wp2_with fail
  go_ret2;exact⟨rfl,Below.refl _ _⟩
 ·have j:6<c:=by omega
  go_enter func7,ntmps7
  go_wp2_with fail
  go_ret2;exact⟨rfl,Below.refl _ _⟩
end
end
theorem qly {tmps:Array Value} {w:World} {g:Nat} {x:Wr} {v:Bool} (h:qag w g [.int .i64 x.key,.string x.data,.bool x.gone]) (a:tmps[4]?=some (.pointer (some ⟨g,0,none⟩))) (b:tmps[5]?=some (.bool v)):
 (results Tryz.f72 tmps).run Tryz.prog w=.ok (.tuple #[wrV x,.bool v]) w:=by
 have c:=h.cell 0 _ rfl;have d:=h.cell 1 _ rfl;have e:=h.cell 2 _ rfl;simp[results,Tryz.results72,go_sem,a,b,c,d,e,wrV]
theorem qki {b:Nat} {wv:Value} {s:qbp} (key:Int) (w:World) (h:qla w b wv s):
 Calls Tryz.prog 72 #[.pointer (some ⟨b,0,none⟩),.int .i64 key] w λe w'=>e=.returned (.tuple #[wrV (qdo s.ws key),.bool (qe7 s.ws key).isSome])/\Below w.heap.size w w':=by
 have hb:=boxed (Below.refl _ w) (.cells #[.int .i64 0,.string ⟨#[]⟩,.bool false] 34);have RW:=qag.new (w:=w) (T:=34) [.int .i64 0,.string ⟨#[]⟩,.bool false] rfl;change qag (w.alloc (.cells #[.int .i64 0,.string ⟨#[]⟩,.bool false] 34)) w.heap.size [.int .i64 0,.string ⟨#[]⟩,.bool false]at RW;have n:=h.later hb;obtain⟨a,cap,rfl,l⟩:=qcw n.row;have O:=n.box.cell 9 _ rfl;have P:=l.len;have Q:=l.cap;have J:Hid _:=l;have C:Hid (∀x:Wr,qag (w.alloc (.cells #[.int .i64 x.key,.string x.data,.bool x.gone] 34)) w.heap.size [.int .i64 x.key,.string x.data,.bool x.gone]):=λx=>qag.new (w:=w) (T:=34) [.int .i64 x.key,.string x.data,.bool x.gone] rfl;have D:Hid (∀x:Wr,Below w.heap.size w (w.alloc (.cells #[.int .i64 x.key,.string x.data,.bool x.gone] 34))):=λx=>boxed (Below.refl _ w) _;have R:=RW.cell 0 _ rfl;have S:=RW.cell 1 _ rfl;have U:=RW.cell 2 _ rfl;have f0:=RW.free 0 (by simp);have f1:=RW.free 1 (by simp);have f2:=RW.free 2 (by simp);clear h n l RW hb;go_enter Tryz.func72,Tryz.ntmps72
 go_wp2_with fail
 go_loopw [6] (λiv wr=>∃(k:Nat) (z:Int),k<=s.ws.length/\z=k-1/\iv=.int .i64 z/\Hid (∀j y,k<=j->s.ws[j]?=some y->y.key≠key)/\wr=w.alloc (.cells #[.int .i64 0,.string ⟨#[]⟩,.bool false] 34)) (λi _=>(intOf i+1).toNat)
 case atStart=>exact⟨s.ws.length,s.ws.length-1,Nat.le_refl _,rfl,by go_num,(λj y o c=>by rw[List.getElem?_eq_none o]at c;cases c),rfl⟩
 case round=>
  obtain⟨k,z,V,p,rfl,q,rfl⟩:=hrel;have K:Hid _:=p;cases k with
  |zero=>
   have L:¬0<=z:=by omega
   have g:Hid (qe7 s.ws key=none):=qw2 (λj y c=>q.out j y (by omega) c);clear p
   go_wp2_with fail
   refine bodyPost_ret (qly (C.out ⟨0,⟨#[]⟩,false⟩) rfl rfl) rfl ⟨?_,D.out ⟨0,⟨#[]⟩,false⟩⟩;rw[g.out,show qdo s.ws key=⟨0,⟨#[]⟩,false⟩ by unfold qdo;rw[g.out];rfl];rfl
  |succ k=>
   have L:0<=z:=by omega
   have W:z.toNat=k:=by omega
   have X:z<(s.ws.length:Int):=by omega
   have m:k<s.ws.length:=by omega
   clear p
   obtain⟨r,u,rfl,E⟩:∃r u,a=some ⟨r,u,none⟩/\qcy (w.alloc (.cells #[.int .i64 0,.string ⟨#[]⟩,.bool false] 34)) r u s.ws:=by
        rcases J.out.held with v|v
        ·rw[v]at m;simp at m
        ·exact v
   obtain⟨⟨xk,xd,xg⟩,B⟩:∃x,s.ws[k]?=some x:=⟨s.ws[k],List.getElem?_eq_getElem m⟩
   have F:qff s.ws k=⟨xk,xd,xg⟩:=by unfold qff;rw[List.getD_eq_getElem?_getD,B];rfl
   have G:=E k m;rw[F]at G;obtain⟨x0,x1,x2⟩:=G;have H:Hid _:=B;clear E F B;by_cases d:xk=key
   ·have M:(xk==key)=true:=by simp[d]
    have g:Hid (qe7 s.ws key=some ⟨xk,xd,xg⟩):=q3g H.out d (λj y o c=>q.out j y (by omega) c);clear d
    go_wp2_with fail
    refine bodyPost_ret (qly (C.out ⟨xk,xd,xg⟩) rfl rfl) rfl ⟨?_,D.out ⟨xk,xd,xg⟩⟩;rw[g.out,show qdo s.ws key=⟨xk,xd,xg⟩ by unfold qdo;rw[g.out];rfl];rfl
   ·have M:(xk==key)=false:=by simp[d]
    have N:Hid _:=d;clear d
    go_wp2_with fail
    go_roundw
    case rel=>exact⟨k,z-1,by omega,by have:=K.out;omega,by go_num,(λj y o c=>by
     rcases Nat.lt_or_ge k j with I|I
     ·exact q.out j y I c
     ·have e:j=k:=by omega
      subst e;rw[H.out]at c;injection c with c;rw[<-c]
      exact N.out),trivial⟩
    case measure=>simp[intOf];omega
theorem qoj {b:Nat} {wv:Value} {s:qbp} (w:World) (h:qla w b wv s):
 Calls Tryz.prog 74 #[.pointer (some ⟨b,0,none⟩)] w λe w'=>∃v,e=.returned v/\w'.ownsRow w.heap.size 34 3 v (qbs s.ws).length (qf4 (qbs s.ws))/\Below w.heap.size w w':=by
 have D:Hid _:=h;clear h;obtain⟨E,F,G,H,I⟩:=info_parts qmx;go_enter Tryz.func74,Tryz.ntmps74
 go_wp2_with fail
 go_loopw [3,7] (λJ iv wr=>∃(k:Nat) (z:Int),k<=8/\z=k/\iv=.int .i64 z/\wr.ownsRow w.heap.size 34 3 J (qdi s.ws k).length (qf4 (qdi s.ws k))/\Below w.heap.size w wr) (λ_ i _=>8-(intOf i).toNat)
 case atStart=>exact⟨0,0,by omega,rfl,rfl,World.ownsRow_nil _ _ _ _,Below.refl _ _⟩
 case round=>
  obtain⟨k,z,W,d,rfl,own,hb⟩:=hrel;have n:Hid _:=d;have X:=qj5 s.ws k;by_cases Y:k<8
  ·have K:z<8:=by omega
   have Z:0<=z:=by omega
   have a:=qki z wr (D.out.later hb);have o:Hid (qdi s.ws (k+1)=qdi s.ws k++(match qe7 s.ws (k:Int)with|some x=>[x]|none=>[])):=qib s.ws k;rw[d]at a;cases ho:qe7 s.ws (k:Int)with
   |none=>
    have g:qdo s.ws (k:Int)=⟨0,⟨#[]⟩,false⟩:=by unfold qdo;rw[ho];rfl
    have r:Hid (qdi s.ws (k+1)=qdi s.ws k):=by show _=_;rw[o.out,ho];simp
    rw[ho,g]at a;rw[<-d]at a;clear d ho g o
    go_wp2_with fail
    refine a.mono ?_;rintro e l ⟨rfl,c⟩;rw[show wrV ⟨0,⟨#[]⟩,false⟩=.agg #[.int .i64 0,.string ⟨#[]⟩,.bool false]from rfl,show (none:Option Wr).isSome=false from rfl];have L:=(qad own (λk e=>c.block k (own.lt k e).2)).alloc (.cells #[.int .i64 0,.string ⟨#[]⟩,.bool false] 34);have M:=boxed (qac hb c) (.cells #[.int .i64 0,.string ⟨#[]⟩,.bool false] 34);clear a own hb c
    go_wp2_with fail
    go_roundw
    case rel=>exact⟨k+1,z+1,by omega,by have:=n.out;omega,by go_num,by rw[r.out];exact L,M⟩
    case measure=>simp[intOf];have:=n.out;omega
   |some x=>
    obtain⟨xk,xd,xg⟩:=x
    have g:qdo s.ws (k:Int)=⟨xk,xd,xg⟩:=by unfold qdo;rw[ho];rfl
    have r:Hid (qdi s.ws (k+1)=qdi s.ws k++[⟨xk,xd,xg⟩]):=by show _=_;rw[o.out,ho]
    rw[ho,g]at a;rw[<-d]at a;clear d ho g o
    go_wp2_with fail
    refine a.mono ?_;rintro e l ⟨rfl,c⟩;rw[show wrV ⟨xk,xd,xg⟩=.agg #[.int .i64 xk,.string xd,.bool xg]from rfl,show (some (⟨xk,xd,xg⟩:Wr)).isSome=true from rfl];have p:=(qad own (λk e=>c.block k (own.lt k e).2)).alloc (.cells #[.int .i64 xk,.string xd,.bool xg] 34);have m:=qag.new (w:=l) (T:=34) [.int .i64 xk,.string xd,.bool xg] rfl;change qag (l.alloc (.cells #[.int .i64 xk,.string xd,.bool xg] 34)) l.heap.size [.int .i64 xk,.string xd,.bool xg]at m;have q:=boxed (qac hb c) (.cells #[.int .i64 xk,.string xd,.bool xg] 34);obtain⟨W1,B⟩:∃W1,l.alloc (.cells #[.int .i64 xk,.string xd,.bool xg] 34)=W1:=⟨_,rfl⟩;rw[B]at p m q;have y0:=m.cell 0 _ rfl;have y1:=m.cell 1 _ rfl;have y2:=m.cell 2 _ rfl;clear a own hb c;obtain⟨N,O,rfl,y⟩:=qcw p;have hcl:=y.len;have hcc:=y.cap;clear y
    go_wp2_with (first|(rw[B])|(at_builtin;refine wpList_append_lies _ rfl (.tmp 17) (.tmp 19) 65 rfl w.heap.size 34 E (.agg #[.int .i64 0,.string ⟨#[]⟩,.bool false]) 3 32 Tryz.underlying65 F G H I rfl (by decide) (.slice N (qdi s.ws k).length O) (qdi s.ws k).length (qf4 (qdi s.ws k)) rfl (p.alloc _) ⟨W1.heap.size,0,none⟩ 1 1 (wrC ⟨xk,xd,xg⟩) rfl rfl (World.news_of_block (heap_alloc_new W1 (.cells #[.int .i64 xk,.string xd,.bool xg] 34))) (by intro u C;simp[wrC]at C;rcases C with rfl|rfl|rfl<;>rfl) (by decide) (by simp only[maxLen];omega) (by omega) (by have:=q.size;simp;omega) _ rfl ?_;intro g9 cap9 P Q R egE ltE))
    have S:Below w.heap.size w P:=(boxed q (.cells #[.int .i64 xk,.string xd,.bool xg] 34)).grown R (by have:=q.size;simp;omega) (λj U=>by have:=(p.lt _ U).1;omega)
    go_roundw
    case rel=>exact⟨k+1,z+1,by omega,by have:=n.out;omega,by go_num,by rw[r.out,qkf,List.length_append];exact Q,S⟩
    case measure=>simp[intOf];have:=n.out;omega
  ·have K:¬z<8:=by omega
   have V:k=8:=by omega
   subst V
   go_wp2_with fail
   go_ret;exact⟨_,rfl,own,hb⟩
theorem qhq (n a b:Int) (w:World):
 Calls Tryz.prog 30 #[.int .i64 n,.int .i64 a,.int .i64 b] w λe w'=>e=.returned (.bool (inB n a b))/\w'=w:=by
 by_cases c:a<=n
 ·by_cases d:n<=b
  ·have e:inB n a b=true:=by simp[inB,c,d]
   rw[e];go_enter Tryz.func30,Tryz.ntmps30
   go_wp2
   go_ret;exact⟨rfl,rfl⟩
  ·have e:inB n a b=false:=by simp[inB,d]
   rw[e];go_enter Tryz.func30,Tryz.ntmps30
   go_wp2
   go_ret;exact⟨rfl,rfl⟩
 ·have e:inB n a b=false:=by simp[inB,c]
  rw[e];go_enter Tryz.func30,Tryz.ntmps30
  go_wp2
  go_ret;exact⟨rfl,rfl⟩
theorem qa1 {n a b:Int} {v:Bool} (h:inB n a b=v) (w:World):
 Calls Tryz.prog 30 #[.int .i64 n,.int .i64 a,.int .i64 b] w λe w'=>e=.returned (.bool v)/\Below w.heap.size w w':=by
 subst h;exact(qhq n a b w).mono λe w' ⟨c,d⟩=>⟨c,by rw[d];exact Below.refl _ _⟩
theorem qdk (n:Int) (w:World):
 Calls Tryz.prog 30 #[.int .i64 n,.int .i64 0,.int .i64 1099511627776] w λe w'=>e=.returned (.bool (qai n))/\w'=w:=qhq n 0 1099511627776 w
theorem qdv (x c:Int) (w:World):
 Calls Tryz.prog 140 #[.agg #[.int .i64 x,.int .i64 c]] w λe w'=>e=.returned (.bool (qai x&&qai c))/\Below w.heap.size w w':=by
 by_cases h:qai x=true
 ·rw[h];go_enter Tryz.func140,Tryz.ntmps140
  go_wp2_with (go_at_call 30;refine(qdk _ _).mono ?_;rintro e w' ⟨rfl,rfl⟩)
  go_ret;exact⟨by simp,boxed (Below.refl _ _) _⟩
 ·have a:qai x=false:=by simpa using h
  rw[a];go_enter Tryz.func140,Tryz.ntmps140
  go_wp2_with (go_at_call 30;refine(qdk _ _).mono ?_;rintro e w' ⟨rfl,rfl⟩)
  go_ret;exact⟨by simp,boxed (Below.refl _ _) _⟩
theorem qa8 {x c:Int} {v:Bool} (h:(qai x&&qai c)=v) (w:World):
 Calls Tryz.prog 140 #[.agg #[.int .i64 x,.int .i64 c]] w λe w'=>e=.returned (.bool v)/\Below w.heap.size w w':=by
 subst h;exact qdv x c w
section
open Tryz Go.Value Go.IntKind
theorem qf3 (a b c d:Int) (w:World):
 Calls prog 142 #[.agg #[int i64 a,int i64 b],.agg #[int i64 c,int i64 d]] w λe w'=>e=.returned (int i64 (qio a b c d))/\Below w.heap.size w w':=by
 have j:=qum;rcases qdw a b c d with ⟨h,e⟩|⟨⟨rfl,rfl⟩,e⟩|⟨h,e⟩
 ·have g:qko a b c d=false:=by simp[qko];omega
  rw[e];clear e;rcases h with h|⟨rfl,h⟩
  ·go_enter func142,ntmps142
   go_wp2
   go_ret;exact⟨rfl,boxed (boxed (Below.refl _ _) _) _⟩
  ·go_enter func142,ntmps142
   go_wp2
   go_ret;exact⟨rfl,boxed (boxed (Below.refl _ _) _) _⟩
 ·have g:=qvp a b;rw[e];clear e;go_enter func142,ntmps142
  go_wp2
  go_ret;exact⟨rfl,boxed (boxed (Below.refl _ _) _) _⟩
 ·have g:qko a b c d=false:=by simp[qko];omega
  rw[e];clear e;rcases h with h|⟨rfl,h⟩
  ·have i:¬a<c:=by omega
   have k:(a==c)=false:=by simp;omega
   go_enter func142,ntmps142
   go_wp2
   go_ret;exact⟨rfl,boxed (boxed (Below.refl _ _) _) _⟩
  ·have i:¬b<d:=by omega
   go_enter func142,ntmps142
   go_wp2
   go_ret;exact⟨rfl,boxed (boxed (Below.refl _ _) _) _⟩
theorem qm9 (lw lc now:Int) (w:World) (h:(qai lw&&qai lc)=false):
 Calls prog 132 #[.agg #[int i64 lw,int i64 lc],int i64 now] w λe w'=>e=.returned (.tuple #[.agg #[int i64 0,int i64 0],int i64 2])/\Below w.heap.size w w':=by
 go_enter func132,ntmps132
 go_wp2_with fail
 refine(qdv _ _ _).mono ?_;rintro e a ⟨rfl,hb⟩;obtain⟨b,c⟩:=qi6 hb
 have d:w.heap.size+1<a.heap.size:=by have:=hb.size;simp at this;omega
 go_wp2_with (go_at_call 30;refine(qdk _ _).mono ?_;rintro e w' ⟨rfl,rfl⟩)
 refine bodyPost_ret (v:=.tuple #[.agg #[int i64 0,int i64 0],int i64 2]) (by simp[results,results132,go_sem,b]) rfl ⟨rfl,?_⟩
 repeat (first|(with_reducible exact qix hb)|(with_reducible refine Below.setCell ?_ (by simp) _))
theorem qnh (lw lc now:Int) (w:World) (h:(qai lw&&qai lc)=true) (c:qai now=false):
 Calls prog 132 #[.agg #[int i64 lw,int i64 lc],int i64 now] w λe w'=>e=.returned (.tuple #[.agg #[int i64 0,int i64 0],int i64 2])/\Below w.heap.size w w':=by
 go_enter func132,ntmps132
 go_wp2_with fail
 refine(qdv _ _ _).mono ?_;rintro e a ⟨rfl,hb⟩;obtain⟨b,d⟩:=qi6 hb
 have g:w.heap.size+1<a.heap.size:=by have:=hb.size;simp at this;omega
 go_wp2_with (go_at_call 30;refine(qdk _ _).mono ?_;rintro e w' ⟨rfl,rfl⟩)
 refine bodyPost_ret (v:=.tuple #[.agg #[int i64 0,int i64 0],int i64 2]) (by simp[results,results132,go_sem,b]) rfl ⟨rfl,?_⟩
 repeat (first|(with_reducible exact qix hb)|(with_reducible refine Below.setCell ?_ (by simp) _))
theorem qrd (lw lc now:Int) (w:World) (h:(qai lw&&qai lc)=true) (c:qai now=true) (d:lw<now):
 Calls prog 132 #[.agg #[int i64 lw,int i64 lc],int i64 now] w λe w'=>e=.returned (.tuple #[.agg #[int i64 now,int i64 0],int i64 0])/\Below w.heap.size w w':=by
 go_enter func132,ntmps132
 go_wp2_with fail
 refine(qdv _ _ _).mono ?_;rintro e a ⟨rfl,hb⟩;obtain⟨b,g⟩:=qi6 hb
 have i:w.heap.size+1<a.heap.size:=by have:=hb.size;simp at this;omega
 go_wp2_with (go_at_call 30;refine(qdk _ _).mono ?_;rintro e w' ⟨rfl,rfl⟩)
 refine bodyPost_ret (v:=.tuple #[.agg #[int i64 now,int i64 0],int i64 0]) (by simp[results,results132,go_sem,b]) rfl ⟨rfl,?_⟩
 repeat (first|(with_reducible exact qix hb)|(with_reducible refine Below.setCell ?_ (by simp) _))
theorem qp6 (lw lc now:Int) (w:World) (h:(qai lw&&qai lc)=true) (b:qai now=true) (c:¬lw<now) (d:0<=lc) (g:lc<=1099511627776) (i:1099511627776<lc+1):
 Calls prog 132 #[.agg #[int i64 lw,int i64 lc],int i64 now] w λe w'=>e=.returned (.tuple #[.agg #[int i64 0,int i64 0],int i64 12])/\Below w.heap.size w w':=by
 go_enter func132,ntmps132
 go_wp2_with fail
 refine(qdv _ _ _).mono ?_;rintro e a ⟨rfl,hb⟩;obtain⟨⟨c0,c1,f0,f1⟩,⟨d0,d1,j,k⟩⟩:=q5j hb
 have l:w.heap.size+1<a.heap.size:=by have:=hb.size;simp at this;omega
 go_wp2_with (go_at_call 30;refine(qdk _ _).mono ?_;rintro e w' ⟨rfl,rfl⟩)
 refine bodyPost_ret (v:=.tuple #[.agg #[int i64 0,int i64 0],int i64 12]) (by simp[results,results132,go_sem,d0,d1]) rfl ⟨rfl,?_⟩
 repeat (first|(with_reducible exact qix hb)|(with_reducible refine Below.setCell ?_ (by simp) _))
theorem qoz (lw lc now:Int) (w:World) (h:(qai lw&&qai lc)=true) (b:qai now=true) (c:¬lw<now) (d:0<=lc) (g:lc<=1099511627776) (i:¬1099511627776<lc+1):
 Calls prog 132 #[.agg #[int i64 lw,int i64 lc],int i64 now] w λe w'=>e=.returned (.tuple #[.agg #[int i64 lw,int i64 (lc+1)],int i64 0])/\Below w.heap.size w w':=by
 go_enter func132,ntmps132
 go_wp2_with fail
 refine(qdv _ _ _).mono ?_;rintro e a ⟨rfl,hb⟩;obtain⟨⟨c0,c1,f0,f1⟩,⟨d0,d1,j,k⟩⟩:=q5j hb
 have l:w.heap.size+1<a.heap.size:=by have:=hb.size;simp at this;omega
 go_wp2_with (go_at_call 30;refine(qdk _ _).mono ?_;rintro e w' ⟨rfl,rfl⟩)
 refine bodyPost_ret (v:=.tuple #[.agg #[int i64 lw,int i64 (lc+1)],int i64 0]) (by simp[results,results132,go_sem,d0,d1]) rfl ⟨rfl,?_⟩
 repeat (first|(with_reducible exact qix hb)|(with_reducible refine Below.setCell ?_ (by simp) _))
end
section
open Go.Value Go.IntKind
theorem qk1 {a b:Ver} {v:Bool} (h:qaj a b=v) (w:World):
 Calls Tryz.prog 125 #[.agg #[int i64 a.wall,int i64 a.count,int i64 a.site,int i64 a.seq,.string a.data,.bool a.gone],.agg #[int i64 b.wall,int i64 b.count,int i64 b.site,int i64 b.seq,.string b.data,.bool b.gone]] w λe w'=>e=.returned (.bool v)/\Below w.heap.size w w':=by
 obtain⟨d,g,m,o,p,q⟩:=a;obtain⟨i,j,bs,r,s,u⟩:=b;have x:=(qag.new (w:=w) (T:=130) [int i64 d,int i64 g,int i64 m,int i64 o,.string p,.bool q] rfl).boxed (.cells #[int i64 i,int i64 j,int i64 bs,int i64 r,.string s,.bool u] 130);have y:=qag.new (w:=w.alloc (.cells #[int i64 d,int i64 g,int i64 m,int i64 o,.string p,.bool q] 130)) (T:=130) (n:=w.heap.size+1) [int i64 i,int i64 j,int i64 bs,int i64 r,.string s,.bool u] (by simp);have hb:=boxed (boxed (Below.refl _ w) (.cells #[int i64 d,int i64 g,int i64 m,int i64 o,.string p,.bool q] 130)) (.cells #[int i64 i,int i64 j,int i64 bs,int i64 r,.string s,.bool u] 130);simp only[qaj]at h;obtain⟨c,z⟩:∃c,qio d g i j=c:=⟨_,rfl⟩;rw[z]at h;have B:Hid _:=z;clear z;by_cases k:c=0
 ·rw[if_pos k]at h;subst k;have H:Hid _:=h;clear h;go_enter Tryz.func125,Tryz.ntmps125
  go_wp2_with fail
  refine(qf3 d g i j _).mono ?_;rintro e C ⟨rfl,l⟩;rw[B.out];replace x:=x.later l;replace y:=y.later l;have c2:=x.cell 2 _ rfl;have d2:=y.cell 2 _ rfl
  go_wp2_with fail
  go_ret;exact⟨by rw[<-H.out];rfl,qac hb l⟩
 ·rw[if_neg k]at h;have D:(c==0)=false:=beq_eq_false_iff_ne.2 k;clear k;have H:Hid _:=h;clear h;go_enter Tryz.func125,Tryz.ntmps125
  go_wp2_with fail
  refine(qf3 d g i j _).mono ?_;rintro e C ⟨rfl,l⟩;rw[B.out]
  go_wp2_with fail
  go_ret;exact⟨by rw[<-H.out];rfl,qac hb l⟩
theorem qqh {tmps:Array Value} {w:World} {b:Nat} {v:Ver} {sv:Bool} (h:qag w b (qah v)) (a:tmps[6]?=some (.pointer (some ⟨b,0,none⟩))) (c:tmps[7]?=some (.bool sv)):
 (results Tryz.f98 tmps).run Tryz.prog w=.ok (.tuple #[.agg (qah v).toArray,.bool sv]) w:=by
 obtain⟨d,e,g,i,j,k⟩:=h.c6;simp[results,Tryz.results98,go_sem,a,c,d,e,g,i,j,k,qah]
end
theorem qfo {tmps:Array Value} {w:World} {b:Nat} {v:Ver} {ev:Int} (h:qag w b (qah v)) (a:tmps[6]?=some (.pointer (some ⟨b,0,none⟩))) (c:tmps[7]?=some (.int .i64 ev)):
 (results Tryz.f59 tmps).run Tryz.prog w=.ok (.tuple #[.agg (qah v).toArray,.int .i64 ev]) w:=by
 obtain⟨d,e,g,i,j,k⟩:=h.c6;simp[results,Tryz.results59,go_sem,a,c,d,e,g,i,j,k,qah]
section
section
variable {w w2 w3 wE:World} {b g cap p q:Nat} {M:WoM} {W:WoS} {Gs:Nat->Nat->Prop}
theorem qbx.snoc {n:Nat} {ps ps':Nat->qm0} {X X' G:Nat->Prop} {w w':World} (h:qbx w n ps Gs X n NoY) (y:∀j k,j<n->Gs j k->w'.heap[k]?=w.heap[k]?) (z:w.heap.size<=w'.heap.size) (A:(ps' n).is w' G) (u:∀k,G k->w.heap.size<=k) (B:∀i,i<n->ps' i=ps i) (s:∀k,X' k->(X k\/w.heap.size<=k)/\k<w'.heap.size/\¬G k):qbx w' (n+1) ps' (λj=>if j=n then G else Gs j) X' (n+1) NoY:=by
 refine⟨λj C=>?_,λa c k E F v l d=>?_,λk e=>⟨(s k e).2.1,λj C m=>?_⟩,λk e=>e.elim⟩
 ·by_cases e:j=n
  ·rw[if_pos e,e];exact A
  ·have f:j<n:=by omega
   rw[if_neg e,B j f];exact(ps j).kept _ _ _ (h.is j f) (λk D=>y j k f D) z
 ·by_cases t:a=n
  ·rw[if_pos t]at l;have o:c≠n:=λe=>v (t.trans e.symm);rw[if_neg o]at d;have:=(ps c).lt _ _ (h.is c (by omega)) k d;have:=u k l;omega
  ·rw[if_neg t]at l;by_cases o:c=n
   ·rw[if_pos o]at d;have:=(ps a).lt _ _ (h.is a (by omega)) k l;have:=u k d;omega
   ·rw[if_neg o]at d;exact h.apart a c k (by omega) (by omega) v l d
 ·by_cases x:j=n
  ·rw[if_pos x]at m;exact(s k e).2.2 m
  ·rw[if_neg x]at m
   have f:j<n:=by omega
   rcases(s k e).1 with r|r
   ·exact(h.free k r).2 j f m
   ·have:=(ps j).lt _ _ (h.is j f) k m;omega
theorem qmg (bp:Nat->Nat) (x:Nat->Int) (n p:Nat) (y:Int) (a:x n=y):qci (λj=>if j=n then p else bp j) x (n+1)=qci bp x n++[.pointer (some ⟨p,0,none⟩),.int .i64 y]:=by
 unfold qci;rw[List.range_succ,List.flatMap_append]
 congr 1
 ·rw[List.flatMap_def,List.flatMap_def]
  congr 1
  refine List.map_congr_left (λj c=>?_);have:=List.mem_range.1 c;show qy4 (if j=n then p else bp j) (x j)=_;rw[if_neg (by omega)]
 ·simp[qy4,a]
theorem PWo.addSite (h:PWo w b M W Gs) (C:W.c=0) (v:PS w2 p (λk=>k=p\/k=q) (W.S W.n)) (K:w.heap.size<=p) (L:w.heap.size<=q) (F:W.wall W.n=0) (y:Below w.heap.size w w2) (m:Below w2.heap.size w2 w3)
 (own:wE.ownsRow 0 99 2 (.slice (some ⟨g,0,none⟩) (W.n+1) cap) (W.n+1) (qci M.bp W.wall W.n++[.pointer (some ⟨p,0,none⟩),.int .i64 0])) (gr:w3.grownBy wE M.pv.ownBlock) (D:M.pv.ownBlock=some g\/g=w3.heap.size) (N:g<wE.heap.size):
 PWo (wE.setCell ⟨b,0,none⟩ (.slice (some ⟨g,0,none⟩) (W.n+1) cap)) b {M with pv:=.slice (some ⟨g,0,none⟩) (W.n+1) cap,bp:=λj=>if j=W.n then p else M.bp j} {W with n:=W.n+1} (λj=>if j=W.n then (λk=>k=p\/k=q)else Gs j):=by
 have s2:=y.size;have s3:=m.size;have O:=gr.size;have P:=v.lt p (.inl rfl);have Q:=v.lt q (.inr rfl);have R:=h.box.lt;have f:(Value.slice (some ⟨g,0,none⟩) (W.n+1) cap).ownBlock=some g:=rfl
 have i:(wE.setCell ⟨b,0,none⟩ (.slice (some ⟨g,0,none⟩) (W.n+1) cap)).heap.size=wE.heap.size:=by simp[World.setCell]
 have E:g≠b:=by
  rcases D with e|e
  ·exact λr=>h.sb.1 (by rw[e,r])
  ·omega
 have G:∀k,k<w.heap.size->M.pv.ownBlock≠some k->wE.heap[k]?=w.heap[k]?:=λk z A=>(gr.block k (by omega) (λe=>A e.symm)).trans ((m.block k (by omega)).trans (y.block k z));have o:∀k,k<w.heap.size->M.pv.ownBlock≠some k->k≠b->(wE.setCell ⟨b,0,none⟩ (.slice (some ⟨g,0,none⟩) (W.n+1) cap)).heap[k]?=w.heap[k]?:=λk z A H=>(Below.heap_setCell _ _ _ _ (λe=>H e)).trans (G k z A);have I:∀k,M.pv.ownBlock=some k->k<w.heap.size:=λk e=>(h.pr.lt k e).2
 have B:∀k,g=k->(M.pv.ownBlock=some k\/w2.heap.size<=k):=λk e=>by
  rcases D with r|r
  ·exact .inl (by rw[r,e])
  ·exact .inr (by omega)
 have fam:=h.fam;rw[C,Nat.add_zero]at fam;refine⟨?_,?_,?_,?_,h.nl,λx a=>?_,?_,⟨λe=>E (by rw[f]at e;injection e),h.sb.2⟩,λk=>⟨λe=>?_,(h.sr k).2⟩,λx a=>?_⟩
 ·have J:=(((h.box.later y).later m)).grown gr (λe=>h.sb.1 e.symm);exact J.set 0 _ (by simp)
 ·show World.ownsRow _ 0 _ 2 _ (W.n+1) (qci _ W.wall (W.n+1));rw[qmg M.bp W.wall W.n p 0 F];exact qad own (λk e=>Below.heap_setCell _ _ _ _ (λr=>E (by rw[f]at e;injection e with e;exact e.trans r)))
 ·exact qad h.cr (λk e=>o k (h.cr.lt k e).2 (λd=>((h.sr k).1 d).1 e) (λr=>h.sb.2.1 (by rw[e,r])))
 ·exact qad h.nr (λk e=>o k (h.nr.lt k e).2 (λd=>((h.sr k).1 d).2 e) (λr=>h.sb.2.2 (by rw[e,r])))
 ·have s:=h.sg x a;exact(h.gr x a).kept (o _ (h.gr x a).own.lt s.2.1 s.1) (by rw[i];omega)
 ·show qbx _ (W.n+1+W.c) _ _ _ (W.n+1+W.c) NoY;rw[C,Nat.add_zero];refine fam.snoc (λj k u e=>o k (h.ltG (by omega) e) (λr=>(fam.free k (.inr (.inl r))).2 j u e) (λr=>(fam.free k (.inl r)).2 j u e)) (by rw[i];omega) ?_ (λk e=>by rcases e with e|e<;>omega) (λj u=>?_) (λk e=>?_)
  ·show (if W.n<W.n+1 then qhw (if W.n=W.n then p else M.bp W.n) (W.S W.n)else _).is _ _;rw[if_pos (by omega),if_pos rfl];exact v.kept (λk e=>(Below.heap_setCell _ _ _ _ (λr=>by rcases e with e|e<;>(have:k=b:=r;omega))).trans ((gr.block k (by rcases e with e|e<;>omega) (λr=>by have:=I k r.symm;rcases e with e|e<;>omega)).trans (m.block k (by rcases e with e|e<;>omega)))) (by rw[i];omega)
  ·show (if j<W.n+1 then qhw (if j=W.n then p else M.bp j) (W.S j)else _)=(if j<W.n then _ else _);rw[if_pos (by omega),if_pos u,if_neg (by omega)]
  ·have l:qg8 b M k->(qg8 b M k\/w.heap.size<=k)/\k<(wE.setCell ⟨b,0,none⟩ (.slice (some ⟨g,0,none⟩) (W.n+1) cap)).heap.size/\¬(k=p\/k=q):=λe=>by
        have:=h.ltF k e;exact⟨.inl e,by rw[i];omega,by omega⟩
   rcases e with e|e|e|e|⟨x,a,e⟩
   ·exact l (.inl e)
   ·rw[f]at e;injection e with e;rcases B k e with r|r
    ·exact l (.inr (.inl r))
    ·exact⟨.inr (by omega),by rw[i];omega,by omega⟩
   ·exact l (.inr (.inr (.inl e)))
   ·exact l (.inr (.inr (.inr (.inl e))))
   ·exact l (.inr (.inr (.inr (.inr ⟨x,a,e⟩))))
 ·rw[f]at e;injection e with e;rcases B k e with r|r
  ·exact(h.sr k).1 r
  ·exact⟨λd=>by have:=(h.cr.lt k d).2;omega,λd=>by have:=(h.nr.lt k d).2;omega⟩
 ·have s:=h.sg x a;refine⟨s.1,λe=>?_,s.2.2⟩;rw[f]at e;injection e with e;rcases B x.blk e with r|r
  ·exact s.2.1 r
  ·have:=(h.gr x a).own.lt;omega
theorem PWo.addSes (h:PWo w b M W Gs) (B:PSe w2 p (λk=>k=p) (W.ses W.c)) (J:w.heap.size<=p) (E:W.at_ W.c=0) (y:Below w.heap.size w w2) (m:Below w2.heap.size w2 w3)
 (own:wE.ownsRow 0 103 2 (.slice (some ⟨g,0,none⟩) (W.c+1) cap) (W.c+1) (qci M.bs (λk=>(W.at_ k:Int)) W.c++[.pointer (some ⟨p,0,none⟩),.int .i64 0])) (gr:w3.grownBy wE M.cv.ownBlock) (C:M.cv.ownBlock=some g\/g=w3.heap.size) (K:g<wE.heap.size):
 PWo (wE.setCell ⟨b,1,none⟩ (.slice (some ⟨g,0,none⟩) (W.c+1) cap)) b {M with cv:=.slice (some ⟨g,0,none⟩) (W.c+1) cap,bs:=λj=>if j=W.c then p else M.bs j} {W with c:=W.c+1} (λj=>if j=W.n+W.c then (λk=>k=p)else Gs j):=by
 have s2:=y.size;have s3:=m.size;have L:=gr.size;have N:=B.lt p rfl;have O:=h.box.lt;have f:(Value.slice (some ⟨g,0,none⟩) (W.c+1) cap).ownBlock=some g:=rfl
 have i:(wE.setCell ⟨b,1,none⟩ (.slice (some ⟨g,0,none⟩) (W.c+1) cap)).heap.size=wE.heap.size:=by simp[World.setCell]
 have D:g≠b:=by
  rcases C with e|e
  ·exact λr=>h.sb.2.1 (by rw[e,r])
  ·omega
 have F:∀k,k<w.heap.size->M.cv.ownBlock≠some k->wE.heap[k]?=w.heap[k]?:=λk z A=>(gr.block k (by omega) (λe=>A e.symm)).trans ((m.block k (by omega)).trans (y.block k z));have o:∀k,k<w.heap.size->M.cv.ownBlock≠some k->k≠b->(wE.setCell ⟨b,1,none⟩ (.slice (some ⟨g,0,none⟩) (W.c+1) cap)).heap[k]?=w.heap[k]?:=λk z A G=>(Below.heap_setCell _ _ _ _ (λe=>G e)).trans (F k z A);have H:∀k,M.cv.ownBlock=some k->k<w.heap.size:=λk e=>(h.cr.lt k e).2
 have u:∀k,g=k->(M.cv.ownBlock=some k\/w2.heap.size<=k):=λk e=>by
  rcases C with r|r
  ·exact .inl (by rw[r,e])
  ·exact .inr (by omega)
 have fam:=h.fam;refine⟨?_,?_,?_,?_,h.nl,λx a=>?_,?_,⟨h.sb.1,λe=>D (by rw[f]at e;injection e),h.sb.2.2⟩,λk=>⟨λe=>⟨λd=>?_,((h.sr k).1 e).2⟩,λe=>?_⟩,λx a=>?_⟩
 ·have I:=(((h.box.later y).later m)).grown gr (λe=>h.sb.2.1 e.symm);exact I.set 1 _ (by simp)
 ·exact qad h.pr (λk e=>o k (h.pr.lt k e).2 ((h.sr k).1 e).1 (λr=>h.sb.1 (by rw[e,r])))
 ·show World.ownsRow _ 0 _ 2 _ (W.c+1) (qci _ (λk=>(W.at_ k:Int)) (W.c+1));rw[qmg M.bs (λk=>(W.at_ k:Int)) W.c p 0 (by show (W.at_ W.c:Int)=0;rw[E];rfl)];exact qad own (λk e=>Below.heap_setCell _ _ _ _ (λr=>D (by rw[f]at e;injection e with e;exact e.trans r)))
 ·exact qad h.nr (λk e=>o k (h.nr.lt k e).2 (λd=>(h.sr k).2 d e) (λr=>h.sb.2.2 (by rw[e,r])))
 ·have s:=h.sg x a;exact(h.gr x a).kept (o _ (h.gr x a).own.lt s.2.2.1 s.1) (by rw[i];omega)
 ·show qbx _ (W.n+W.c+1) _ _ _ (W.n+W.c+1) NoY;refine fam.snoc (λj k v e=>o k (h.ltG v e) (λr=>(fam.free k (.inr (.inr (.inl r)))).2 j v e) (λr=>(fam.free k (.inl r)).2 j v e)) (by rw[i];omega) ?_ (λk e=>by omega) (λj v=>?_) (λk e=>?_)
  ·show (if W.n+W.c<W.n then _ else qpn (if W.n+W.c-W.n=W.c then p else M.bs (W.n+W.c-W.n)) (W.ses (W.n+W.c-W.n))).is _ _;rw[if_neg (by omega),show W.n+W.c-W.n=W.c by omega,if_pos rfl];exact B.kept (λk e=>(Below.heap_setCell _ _ _ _ (λr=>by have:k=b:=r;omega)).trans ((gr.block k (by omega) (λr=>by have:=H k r.symm;omega)).trans (m.block k (by omega)))) (by rw[i];omega)
  ·show (if j<W.n then _ else qpn (if j-W.n=W.c then p else M.bs (j-W.n)) (W.ses (j-W.n)))=(if j<W.n then _ else _);by_cases r:j<W.n
   ·rw[if_pos r,if_pos r]
   ·rw[if_neg r,if_neg r,if_neg (by omega)]
  ·have l:qg8 b M k->(qg8 b M k\/w.heap.size<=k)/\k<(wE.setCell ⟨b,1,none⟩ (.slice (some ⟨g,0,none⟩) (W.c+1) cap)).heap.size/\¬(k=p):=λe=>by
        have:=h.ltF k e;exact⟨.inl e,by rw[i];omega,by omega⟩
   rcases e with e|e|e|e|⟨x,a,e⟩
   ·exact l (.inl e)
   ·exact l (.inr (.inl e))
   ·rw[f]at e;injection e with e;rcases u k e with r|r
    ·exact l (.inr (.inr (.inl r)))
    ·exact⟨.inr (by omega),by rw[i];omega,by omega⟩
   ·exact l (.inr (.inr (.inr (.inl e))))
   ·exact l (.inr (.inr (.inr (.inr ⟨x,a,e⟩))))
 ·rw[f]at d;injection d with d;rcases u k d with r|r
  ·exact((h.sr k).1 e).1 r
  ·have:=(h.pr.lt k e).2;omega
 ·rw[f]at e;injection e with e;rcases u k e with r|r
  ·exact(h.sr k).2 r
  ·exact λd=>by have:=(h.nr.lt k d).2;omega
 ·have s:=h.sg x a;refine⟨s.1,s.2.1,λe=>?_,s.2.2.2⟩;rw[f]at e;injection e with e;rcases u x.blk e with r|r
  ·exact s.2.2.1 r
  ·have:=(h.gr x a).own.lt;omega
end
end
structure qss (w:World) (a:Option Addr) (cap:Nat) (L:List ByteArray):Prop where
 len:L.length<=cap
 cap:cap<=9223372036854775807
 held:L=[]\/∃b off,a=some ⟨b,off,none⟩/\∀i u,L[i]?=some u->w.cell? ⟨b,off+i,none⟩=some (.string u)
variable {w:World} {a:Option Addr} {L:List ByteArray}
theorem qss.later {w':World} {cap:Nat} (hb:Below w.heap.size w w') (h:qss w a cap L):qss w' a cap L:=
 ⟨h.len,h.cap,h.held.elim .inl λ⟨b,d,e,c⟩=>.inr ⟨b,d,e,λi u f=>cell_later hb (c i u f)⟩⟩
theorem qxb {B:Nat} {T:TypeId} {v:Value} (h:w.ownsRow B T 1 v L.length (L.map Value.string)):∃a cap,v=.slice a L.length cap/\qss w a cap L:=by
 rcases h.2 with ⟨rfl,b⟩|⟨g,cap,cur,rfl,hb,j,d,e,k,l⟩
 ·exact⟨none,0,by rw[b],⟨by omega,by omega,.inl (List.eq_nil_of_length_eq_zero b)⟩⟩
 ·refine⟨_,cap,rfl,⟨d,by simp only[maxLen]at e;omega,.inr ⟨g,0,rfl,λi u f=>?_⟩⟩⟩;have c:=h.cells (g:=g) rfl i (.string u) (by rw[List.getElem?_map,f];rfl);rw[qb8]at c;rw[Nat.zero_add];exact c
theorem qpc {a2:Option Addr} {cap l:Nat} (w:World) (q:qss w a cap L) (r:qss w a2 l L) (v:L.length<=1000000):
 Calls Tryz.prog 15 #[.slice a L.length cap,.slice a2 L.length l] w λe w'=>e=.returned (.bool true)/\Below w.heap.size w w':=by
 have x:=Later.one;go_enter Tryz.func15,Tryz.ntmps15
 go_wp2_with fail
 go_loopw [5] (λiv wr=>∃(k:Nat) (z:Int),k<=L.length/\z=k/\iv=.int .i64 z/\Below w.heap.size w wr) (λi _=>L.length-(intOf i).toNat)
 case atStart=>exact⟨0,0,by omega,rfl,rfl,Below.refl _ _⟩
 case round=>
  obtain⟨k,z,y,h,rfl,hb⟩:=hrel;by_cases g:k<L.length
  ·have B:z<(L.length:Int):=by omega
   have C:z.toNat=k:=by omega
   have D:0<=z:=by omega
   have s:Hid _:=h;clear h;have m:=q.later hb;have n:=r.later hb
   obtain⟨b,d,rfl,o⟩:∃b d,a=some ⟨b,d,none⟩/\∀i u,L[i]?=some u->wr.cell? ⟨b,d+i,none⟩=some (.string u):=by
        rcases m.held with c|c
        ·rw[c]at g;simp at g
        ·exact c
   obtain⟨E,F,rfl,p⟩:∃b d,a2=some ⟨b,d,none⟩/\∀i u,L[i]?=some u->wr.cell? ⟨b,d+i,none⟩=some (.string u):=by
        rcases n.held with c|c
        ·rw[c]at g;simp at g
        ·exact c
   obtain⟨u,j⟩:∃u,L[k]?=some u:=⟨L[k],List.getElem?_eq_getElem g⟩;have x0:=Later.cell (o k u j);have G:=Later.cell (p k u j);clear o p m n j
   go_wp2_with fail
   refine qaa (by kernel_rfl) (by kernel_rfl) ?_
   repeat (go_big_quiet_step (fail))
   refine wpQuiet_nil ?_;rintro H ⟨⟨_,t⟩,rfl⟩
   go_wp2_with fail
   go_roundw
   case rel=>exact⟨k+1,z+1,by omega,by have:=s.out;omega,by go_num,qac hb t⟩
   case measure=>simp[intOf];omega
  ·have I:¬z<(L.length:Int):=by omega
   clear h
   go_wp2_with fail
   go_ret;exact⟨rfl,hb⟩
end Go.Proofs.YtemiamjnhoeniaaGreatDoor
