import Derived.Test.YtemiamjnhoeniaaGreatDoorRWoF
set_option maxHeartbeats 16000000
set_option maxRecDepth 1000000
namespace Go.Proofs.YtemiamjnhoeniaaGreatDoor
open Go.RowKit
section
open Go.Value Go.IntKind
variable {G:Nat->Prop}
section
variable {w:World} {b:Nat} {M:RoM} {W:WoS} {Gs:Nat->Nat->Prop}
theorem RWo.clientsAt (h:RWo w b M W Gs):∃a e d f,w.cell? ⟨b,2,none⟩=some (.slice a W.c e)/\W.c<=e/\w.cell? ⟨b,3,none⟩=some (.slice d W.c f)/\W.c<=f/\(0<W.c->∃g g',a=some ⟨g,0,none⟩/\d=some ⟨g',0,none⟩/\g<w.heap.size/\g'<w.heap.size/\∀j,j<W.c->w.cell? ⟨g,j,none⟩=some (.pointer (some ⟨M.bs j,0,none⟩))/\w.cell? ⟨g',j,none⟩=some (int i64 (W.at_ j))):=by
 obtain⟨a,e,n,r⟩:=qan h.cr;obtain⟨d,f,o,i⟩:=qan h.ar;have k:=h.box.cell 2 _ rfl;have l:=h.box.cell 3 _ rfl;rw[n]at k;rw[o]at l;refine⟨a,e,d,f,k,r.len,l,i.len,λv=>?_⟩;rcases r.held with q|⟨g,rfl,p,s⟩
 ·omega
 ·rcases i.held with q|⟨g',rfl,t,u⟩
  ·omega
  ·exact⟨g,g',rfl,rfl,p,t,λj m=>⟨s j _ (qzs m),u j _ (qkx m)⟩⟩
theorem RSe.snap {s:qbp} (h:RSe w b G s):w.cell? ⟨b,4,none⟩=some (int i64 s.s0)/\w.cell? ⟨b,5,none⟩=some (int i64 s.s1)/\w.cell? ⟨b,6,none⟩=some (int i64 s.s2)/\w.cell? ⟨b,7,none⟩=some (int i64 s.s3)/\w.cell? ⟨b,8,none⟩=some (.bool s.opn)/\b<w.heap.size:=by
 obtain⟨wv,h,_⟩:=h;exact⟨h.box.cell 4 _ rfl,h.box.cell 5 _ rfl,h.box.cell 6 _ rfl,h.box.cell 7 _ rfl,h.box.cell 8 _ rfl,h.box.lt⟩
end
theorem q2i {b:Nat} {W:WoS} (w:World) (h:RW w b G W) (D:WfW W) {i:Nat} (y:i<W.n):
 Calls Tryz.prog 51 #[.pointer (some ⟨b,0,none⟩),int i64 i] w λe w'=>e=.returned (.tuple #[])/\qgi w b G (qmk W i) w':=by
 obtain⟨M,Gs,h,P⟩:=h;have d:Hid (RWo w b M W Gs/\(∀k,G k↔qli b M (W.n+W.c) Gs k)/\WfW W/\i<W.n):=⟨h,P,D,y⟩;obtain⟨g,cap,c0,hcap,hg,Q⟩:=h.sitesAt y;have c1:=Q i y;have R:=h.box.lt
 have q1:(i:Int)<(W.n:Int):=by omega
 have HC6:Hid _:=D.c6;obtain⟨T,cca,U,dda,V,hcl,E,hdl,p⟩:=h.clientsAt;have H:Hid (w.cell? ⟨b,2,none⟩=some (.slice T W.c cca)/\w.cell? ⟨b,3,none⟩=some (.slice U W.c dda)/\(0<W.c->∃g g',T=some ⟨g,0,none⟩/\U=some ⟨g',0,none⟩/\g<w.heap.size/\g'<w.heap.size/\∀j,j<W.c->w.cell? ⟨g,j,none⟩=some (.pointer (some ⟨M.bs j,0,none⟩))/\w.cell? ⟨g',j,none⟩=some (int i64 (W.at_ j)))):=⟨V,E,p⟩;clear h P D Q V E p y;go_enter Tryz.func51,Tryz.ntmps51
 go_wp2_with fail
 refine qkl (qr5 w d.out.1 d.out.2.2.2 _ ?_);rintro u15 u16 u17 u18 u19 u20 u21 u22 u23 u24 u25 u26 x I X B Y;have J:Hid (qag I x (v4C (dwV W i 0))/\Below w.heap.size w I/\w.heap.size<=x):=⟨X,B,Y⟩;have c2:=cell_later B H.out.1;have hlt4:b<I.heap.size:=Nat.lt_of_lt_of_le R B.size;clear X B Y c0 c1
 go_wp2_with fail
 clear c2
 go_loopw [32] (λiv wr=>∃(j:Nat) (z:Int),j<=W.c/\z=j/\iv=int i64 z/\Hid (qag wr x (v4C (dwV W i j))/\Below w.heap.size w wr)) (λiv _=>W.c-(intOf iv).toNat)
 case atStart=>exact⟨0,0,by omega,rfl,rfl,J.out.1,J.out.2.1⟩
 case round=>
  obtain⟨j,z,hj,K,rfl,a⟩:=hrel;have r:Hid _:=K;by_cases L:j<W.c
  ·have g1:z<(W.c:Int):=by omega
   have g2:z.toNat=j:=by omega
   have g3:0<=z:=by omega
   have g4:z<6:=by have:=HC6.out;omega
   clear K;obtain⟨cg,cg',hca,hda,hcg,hcg',p⟩:=H.out.2.2 (by omega);subst hca;subst hda;have x0:=cell_later a.out.2 (p j L).1;have Z:=cell_later a.out.2 (p j L).2;obtain⟨s,N⟩:∃s:Int,(W.at_ j:Int)=s:=⟨_,rfl⟩
   have x1:wr.cell? ⟨cg',j,none⟩=some (int i64 s):=by rw[<-N];exact Z
   have aa:Hid _:=N;have E:=cell_later a.out.2 H.out.2.1;have ltr:b<wr.heap.size:=Nat.lt_of_lt_of_le R a.out.2.size;obtain⟨s0,s1,s2,s3,so,sl⟩:=((d.out.1.later a.out.2).sess L).snap;clear N Z p;cases ho:(W.ses j).opn
   ·have t:Hid (dwV W i (j+1)=dwV W i j):=q27 (λq=>by rw[ho]at q;cases q.2);rw[ho]at so;clear ho
    go_wp2_with fail
    go_roundw
    case rel=>exact⟨j+1,z+1,by omega,by have:=r.out;omega,by go_num,by rw[t.out];exact a.out.1,a.out.2⟩
    case measure=>simp[intOf];have:=r.out;omega
   ·rw[ho]at so;by_cases C:s=(i:Int)
    ·subst C;have t:Hid (dwV W i (j+1)=⟨qaz (dwV W i j).v0 (W.ses j).s0,qaz (dwV W i j).v1 (W.ses j).s1,qaz (dwV W i j).v2 (W.ses j).s2,qaz (dwV W i j).v3 (W.ses j).s3⟩):=q3y ⟨by have:=aa.out;omega,ho⟩;obtain⟨v,m⟩:∃v,dwV W i j=v:=⟨_,rfl⟩;rw[m]at t
     have o:qag wr x [int i64 v.v0,int i64 v.v1,int i64 v.v2,int i64 v.v3]:=by have:=a.out.1;rw[m]at this;exact this
     have HF:Hid _:=o;obtain⟨a0,a1,a2,a3⟩:=o.c4;have lv:=o.lt;have MI:Hid (∀w',Calls Tryz.prog 89 #[.agg #[int i64 v.v0,int i64 v.v1,int i64 v.v2,int i64 v.v3],.agg #[int i64 (W.ses j).s0,int i64 (W.ses j).s1,int i64 (W.ses j).s2,int i64 (W.ses j).s3]] w' λe w''=>e=.returned (.agg #[int i64 (qaz v.v0 (W.ses j).s0),int i64 (qaz v.v1 (W.ses j).s1),int i64 (qaz v.v2 (W.ses j).s2),int i64 (qaz v.v3 (W.ses j).s3)])/\Below w'.heap.size w' w''):=λw'=>qgk _ _ _ _ _ _ _ _ w';clear ho o m
     go_wp2_with fail
     go_region_law (refine qb7 rfl 89 rfl #[.agg #[int i64 v.v0,int i64 v.v1,int i64 v.v2,int i64 v.v3],.agg #[int i64 (W.ses j).s0,int i64 (W.ses j).s1,int i64 (W.ses j).s2,int i64 (W.ses j).s3]] (by go_simp) (MI.out wr.drew) ?_
                    rintro e w7 ⟨rfl,hb7⟩;refine⟨_,rfl,?_⟩;have hb57:=qac (Below.refl _ wr).drew hb7;have u:=HF.out.later hb57;obtain⟨d0,d1,d2,d3⟩:=u.c4;have f0:=u.free 0 (by simp);have f1:=u.free 1 (by simp);have f2:=u.free 2 (by simp)
                    have f3:=u.free 3 (by simp))
     all_goals
       go_wp2_with fail
       go_roundw
       case rel=>exact⟨j+1,z+1,by omega,by have:=r.out;omega,by go_num,by rw[t.out];exact qmn u _ _ _ _,qe1 (qac a.out.2 hb57) J.out.2.2 _ _ _ _⟩
       case measure=>simp[intOf];have:=r.out;omega
    ·have t:Hid (dwV W i (j+1)=dwV W i j):=q27 (λq=>C (by have:=aa.out;have:=q.1;omega))
     have hq1:(s==(i:Int))=false:=by simp[C]
     have hq2:decide (s=(i:Int))=false:=decide_eq_false C;clear ho
     go_wp2_with fail
     go_roundw
     case rel=>exact⟨j+1,z+1,by omega,by have:=r.out;omega,by go_num,by rw[t.out];exact a.out.1,a.out.2⟩
     case measure=>simp[intOf];have:=r.out;omega
  ·have g1:¬z<(W.c:Int):=by omega
   have e:j=W.c:=by omega
   subst e;have R9:=a.out.1;have O:Hid (RWo wr.drew b M W Gs/\Below w.heap.size w wr.drew):=⟨d.out.1.later a.out.2.drew,a.out.2.drew⟩;obtain⟨v,m⟩:∃v,dwV W i W.c=v:=⟨_,rfl⟩
   have o:qag wr x [int i64 v.v0,int i64 v.v1,int i64 v.v2,int i64 v.v3]:=by have:=a.out.1;rw[m]at this;exact this
   have SW:Hid (Calls Tryz.prog 91 #[.pointer (some ⟨M.bp i,9,none⟩),.agg #[int i64 v.v0,int i64 v.v1,int i64 v.v2,int i64 v.v3]] wr.drew λe w'=>e=.returned (.tuple #[])/\RPo wr.drew (M.bp i) (Gs i) (M.F i) {W.S i with l:=qel v.v0 v.v1 v.v2 v.v3 (W.S i).l} w'):=qvj v.v0 v.v1 v.v2 v.v3 wr.drew (O.out.1.site d.out.2.2.2) (d.out.2.2.1.inv i d.out.2.2.2)
   have HW:Hid (qmk W i=setSite W i {W.S i with l:=qel v.v0 v.v1 v.v2 v.v3 (W.S i).l}):=by show _=_;rw[<-m];rfl
   obtain⟨z0,z1,z2,z3⟩:=o.c4;clear K R9 o m
   go_wp2_with fail
   go_region_law (refine qb7 rfl 91 rfl #[.pointer (some ⟨M.bp i,9,none⟩),.agg #[int i64 v.v0,int i64 v.v1,int i64 v.v2,int i64 v.v3]] (by go_simp) SW.out ?_
                  rintro e w8 ⟨rfl,hp⟩
                  refine⟨_,rfl,?_⟩)
   all_goals
        go_wp2_with fail
        go_end0;refine⟨rfl,?_⟩;rw[HW.out];exact qgi.from O.out.2 (O.out.1.stepS d.out.2.1 d.out.2.2.2 hp)
end
section
open Go.Value Go.IntKind
section
variable {w w' wA wB:World} {b i:Nat} {M:RoM} {W:WoS} {Gs:Nat->Nat->Prop}
theorem RWo.kept (h:RWo w b M W Gs) (f:∀k,qli b M (W.n+W.c) Gs k->w'.heap[k]?=w.heap[k]?) (g:w.heap.size<=w'.heap.size):RWo w' b M W Gs:=by
 have l:∀k,qav b M k->w'.heap[k]?=w.heap[k]?:=λk q=>f k (.inl q)
 have a:∀{x:Option Nat},x∈qd5 b M->∀k,x=some k->w'.heap[k]?=w.heap[k]?:=λd k e=>by rw[e]at d;exact l k d
 refine⟨h.box.kept (l b (by simp[qav,qd5])) g,qad h.sr (a (by simp[qd5])),qad h.wr (a (by simp[qd5])),qad h.cr (a (by simp[qd5])),qad h.ar (a (by simp[qd5])),qad h.yr (a (by simp[qd5])),h.nl,λx d=>(h.gr x d).to (λi k o p e=>?_),h.fam.to (λj k r e=>f k (.inr ⟨j,r,e⟩)) g (λk e=>⟨.inl e,Nat.lt_of_lt_of_le (h.ltF k e) g⟩),h.ap⟩;have:=(h.site p).frozen e;exact⟨e,this,(f k (.inr ⟨i,by omega,(h.site p).frozenG e⟩)).trans this⟩
theorem RWo.com (h:RWo w b M W Gs) (B:i<W.c) (r:W.at_ i<W.n) {S':qaf} {a:qbp} {F':Nat->Option Obj} {Y:Nat->Prop} (s:∀k o,M.F (W.at_ i) k=some o->F' k=some o) (t:qin (qqb (M.bs i) a) (qgx (M.bp (W.at_ i)) F' S') w (Gs (W.n+i)) (Gs (W.at_ i)) Y w'):
 ∃d,RWo w' b {M with F:=qb2 M.F (W.at_ i) F'} (qb0 (setSite W (W.at_ i) S') i a) d/\(∀m k,d m k->Gs m k\/w.heap.size<=k)/\qae (λk=>Gs (W.n+i) k\/Gs (W.at_ i) k) w w':=by
 obtain⟨u,v,p1,x,p2,y,z,_,l⟩:=t
 obtain⟨d,f,g,A,l⟩:=h.fam.step2G (ps':=qeq {M with F:=qb2 M.F (W.at_ i) F'} (qb0 (setSite W (W.at_ i) S') i a)) (i:=W.n+i) (j:=W.at_ i) (by omega) (by omega) ⟨u,v,p1,x,p2,y,z,λ_ e=>e.elim,l⟩ (by
  show (if W.n+i<W.n then _ else _)=_;rw[if_neg (by omega)];show qqb (M.bs (W.n+i-W.n)) (qb2 W.ses i a (W.n+i-W.n))=_
  rw[show W.n+i-W.n=i by omega,qal]) (by
  show (if W.at_ i<W.n then qgx (M.bp (W.at_ i)) (qb2 M.F (W.at_ i) F' (W.at_ i)) (qb2 W.S (W.at_ i) S' (W.at_ i))else _)=_
  rw[if_pos r,qal,qal]) (λm C D p=>by
  show (if m<W.n then qgx (M.bp m) (qb2 M.F (W.at_ i) F' m) (qb2 W.S (W.at_ i) S' m)else qqb (M.bs (m-W.n)) (qb2 W.ses i a (m-W.n)))=(if m<W.n then _ else _);by_cases q:m<W.n
  ·rw[if_pos q,if_pos q,qbq _ _ p,qbq _ _ p]
  ·rw[if_neg q,if_neg q,qbq _ _ (by omega)])
 refine⟨d,h.keep A f (λj k o E e=>?_) rfl rfl rfl rfl rfl rfl,g,l⟩;by_cases q:j=W.at_ i
 ·subst q;rw[qal];exact s k o e
 ·rw[qbq _ _ q];exact e
end
def qld (wA:World) (b:Nat) (M:RoM) (W:WoS) (Gs:Nat->Nat->Prop) (i:Nat) (m:TxM) (ce:Int) (wB:World):Prop:=
 ce=wcE W i/\m.t=wcT W i/\qat wB m.wa m.wc m.t.ws/\∃F' Gs',RWo wB b {M with F:=qb2 M.F (W.at_ i) F'} (qi7 W i) Gs'/\(∀j k,Gs' j k->Gs j k\/wA.heap.size<=k)/\qae (λk=>Gs (W.n+i) k\/Gs (W.at_ i) k) wA wB/\∀k,m.blk k->∃o,F' k=some o
def q6e (w:World) (b:Nat) (M:RoM) (W:WoS) (Gs:Nat->Nat->Prop) (i:Nat) (m:TxM) (ce:Int) (mb:Nat) (wC:World):Prop:=qag wC mb (txC m)/\w.heap.size<=mb/\qld w b M W Gs i m ce wC
section
variable {w wA wB wC:World} {b i:Nat} {M:RoM} {W:WoS} {Gs:Nat->Nat->Prop} {m:TxM} {ce:Int}
theorem qld.lie (a:RWo w b M W Gs) (d:i<W.c) (f:W.at_ i<W.n) {k:Nat} (g:w.heap.size<=k):¬(Gs (W.n+i) k\/Gs (W.at_ i) k):=λe=>by
 have:k<w.heap.size:=e.elim (λq=>a.ltG (by omega) q) (λq=>a.ltG (by omega) q);omega
theorem qld.box (h:qld wA b M W Gs i m ce wB) (e:RWo w b M W Gs) (f:i<W.c) (g:W.at_ i<W.n) {l:List Value} (a:qag wA w.heap.size l):qag wB w.heap.size l:=by
 obtain⟨_,_,_,_,_,_,_,d,_⟩:=h;exact a.kept (d.block _ a.lt (qld.lie e f g (Nat.le_refl _))) d.size
theorem qld.to (h:qld wA b M W Gs i m ce wB) (d:RWo w b M W Gs) (f:W.at_ i<W.n) (g:Below w.heap.size w wA) (l:∀k,(k<w.heap.size\/wA.heap.size<=k)->k<wB.heap.size->wC.heap[k]?=wB.heap[k]?) (p:qae (λk=>w.heap.size<=k) wB wC):qld w b M W Gs i m ce wC:=by
 obtain⟨y,z,A,F',r,a,t,B,u⟩:=h
 have C:∀k,qli b {M with F:=qb2 M.F (W.at_ i) F'} ((qi7 W i).n+(qi7 W i).c) r k->wC.heap[k]?=wB.heap[k]?:=λk e=>by
  rcases e with e|⟨j,v,e⟩
  ·exact l k (.inl (d.ltF k e)) (a.ltF k e)
  ·exact l k ((t j k e).imp (λq=>d.ltG v q) id) (a.ltG v e)
 have R:=a.kept C p.size;have s:=g.size;refine⟨y,z,?_,F',r,R,λj k e=>(t j k e).imp id (λq=>by omega),((qae.ofBelow g).trans B).more p (λk q=>.inr q),u⟩;refine A.kept (m:=m) (λk e=>?_);obtain⟨o,x⟩:=u k e;have D:=(R.site (i:=W.at_ i) f).frozen (o:=o) (k:=k) (by show qb2 M.F (W.at_ i) F' (W.at_ i) k=_;rw[qal];exact x);have E:=(a.site (i:=W.at_ i) f).frozen (o:=o) (k:=k) (by show qb2 M.F (W.at_ i) F' (W.at_ i) k=_;rw[qal];exact x);exact D.trans E.symm
end
variable {X:Nat->Prop} {w w':World}
theorem qs4 (c:∀k,X k->k<w.heap.size) (h:qby X w w') (o:Obj):qby X w (w'.alloc o):=
 have b:=boxed (Below.refl w'.heap.size w') o
 ⟨b.os.trans h.os,b.tape.trans h.tape,b.output.trans h.output,Nat.le_trans h.size b.size,λk a=>(b.block k (Nat.lt_of_lt_of_le (c k a) h.size)).trans (h.block k a)⟩
theorem qoi (h:qby X w w'):qby X w w'.drew:=
 have b:=(Below.refl w'.heap.size w').drew
 ⟨b.os.trans h.os,b.tape.trans h.tape,b.output.trans h.output,Nat.le_trans h.size b.size,h.block⟩
theorem qwg (c:∀k,X k->k<w.heap.size) (h:qby X w w') {g j:Nat} (d:w.heap.size<=g) (u:Value):qby X w (w'.setCell ⟨g,j,none⟩ u):=
 ⟨h.os,h.tape,h.output,by simpa[World.setCell]using h.size,λk a=>(Below.heap_setCell _ _ _ _ (λe=>by have:=c k a;simp only at e;omega)).trans (h.block k a)⟩
variable {b i:Nat} {M:RoM} {W:WoS} {Gs:Nat->Nat->Prop}
theorem qld.keeps {wA wB:World} {m:TxM} {ce:Int} (h:qld wA b M W Gs i m ce wB) (g:RWo w b M W Gs) (l:i<W.c) (o:W.at_ i<W.n) (a:Below w.heap.size w wA):qby (qav b M) w wB:=by
 obtain⟨_,_,_,_,_,_,_,d,_⟩:=h;have s:=a.size;refine⟨d.os.trans a.os,d.tape.trans a.tape,d.output.trans a.output,Nat.le_trans s d.size,λk j=>?_⟩;have f:=g.fam.free k j;exact(d.block k (by omega) (λe=>e.elim (f.2 _ (by omega)) (f.2 _ (by omega)))).trans (a.block k f.1)
noncomputable def q54:Code:=((Tryz.f37.body.bind (qcn 2)).getD .skip)
theorem qxz {P Q S U y7 y8 V Y Z aa ab ac ad ae y17 y18 y19 y20 y21 y22 y23 y24 y25 y26 y27 y28 y29 y30 y31 y32 y33 y34 y35 y36 y37 y38 y39 y40 y41 af ag ah ai aj ak al am an ao ap aq ar au av aw ax ay az aA aB aC aD aE aF aG:Value} (w:World) (h:RWo w b M W Gs) (L:WfW W) (E:i<W.c) (hp:0<=(W.ses i).p0) (R:Act->World->Prop)
 (hR:∀(u17 u18 u19 u20 u21 u22 u23 u24 u25 u26 u27 u28 u29 u30 u31 u32 u33 u34 u35 u36 u37 u38 u39 u40 u41:Value) (o p q r s v x y:Int) (z:List Wr) (B:Option Addr) (C:Nat) (ce:Int) (mb:Nat) (wc:World),q6e w b M W Gs i (⟨⟨o,p,q,r,s,v,x,y,z⟩,B,C⟩:TxM) ce mb wc->R ⟨List.toArray ((.pointer (some ⟨b,0,none⟩))::(int i64 i)::P::Q::S::U::(int i64 (W.at_ i))::(.pointer (some ⟨mb,0,none⟩))::(int i64 ce)::V::Y::Z::aa::ab::ac::ad::ae::u17::u18::u19::u20::u21::u22::u23::u24::u25::u26::u27::u28::u29::u30::u31::u32::u33::u34::u35::u36::u37::u38::u39::u40::u41::af::ag::ah::ai::aj::ak::al::am::an::ao::ap::aq::ar::au::av::aw::ax::ay::az::aA::aB::aC::aD::aE::aF::aG::[]),[]⟩ wc):
 Code.wp Tryz.prog q54 (Exit.then R (λ_ _ _=>False)) ⟨List.toArray ((.pointer (some ⟨b,0,none⟩))::(int i64 i)::P::Q::S::U::(int i64 (W.at_ i))::y7::y8::V::Y::Z::aa::ab::ac::ad::ae::y17::y18::y19::y20::y21::y22::y23::y24::y25::y26::y27::y28::y29::y30::y31::y32::y33::y34::y35::y36::y37::y38::y39::y40::y41::af::ag::ah::ai::aj::ak::al::am::an::ao::ap::aq::ar::au::av::aw::ax::ay::az::aA::aB::aC::aD::aE::aF::aG::[]),[]⟩ w:=by
 have HR:Hid _:=hR;clear hR;have D:=L.at_ i E
 have CM:Hid (∀wA,Below w.heap.size w wA->Calls Tryz.prog 76 #[.pointer (some ⟨M.bs i,0,none⟩),.pointer (some ⟨M.bp (W.at_ i),0,none⟩),int i64 (W.wall (W.at_ i))] wA λe wB=>∃(o p q r s v x y:Int) (z:List Wr) (B:Option Addr) (C:Nat) (ce:Int),e=.returned (.tuple #[.agg #[int i64 o,int i64 p,int i64 q,int i64 r,int i64 s,int i64 v,int i64 x,int i64 y,.slice B z.length C],int i64 ce])/\Hid (qld wA b M W Gs i (⟨⟨o,p,q,r,s,v,x,y,z⟩,B,C⟩:TxM) ce wB)):=λwA hA=>by
  have H:=h.later hA;refine(qlc (W.wall (W.at_ i)) wA (H.sess E) (H.site D) (L.inv _ D) (λk e1 e2=>H.fam.apart _ _ k (by omega) (by omega) (by omega) e1 e2) hp).mono λe wB ⟨⟨⟨o,p,q,r,s,v,x,y,z⟩,B,C⟩,he,hm,hh⟩=>⟨o,p,q,r,s,v,x,y,z,B,C,_,he,rfl,hm,hh.out.1,?_⟩;obtain⟨F',hFE,hl⟩:=hh.out.2;obtain⟨Gs',r1,r2,r3⟩:=H.com E D hFE.1 hl;exact⟨F',Gs',r1,r2,r3,hFE.2⟩
 have d:Hid (RWo w b M W Gs/\i<W.c/\W.at_ i<W.n):=⟨h,E,D⟩;obtain⟨g,cap,c0,hcap,hg,hc⟩:=h.sitesAt D;have c0':=hc _ D;obtain⟨ca,cca,da,dda,c2,hcl,c3,hdl,I⟩:=h.clientsAt;obtain⟨N,cg',rfl,rfl,hcg,hcg',I⟩:=I (by omega);have c2':=(I i E).1;obtain⟨wv,wcp,hwv,wr⟩:=qan h.wr
 obtain⟨O,rfl,hwg,hwc⟩:∃g,wv=some ⟨g,0,none⟩/\g<w.heap.size/\∀j u,(qf9 W.wall W.n)[j]?=some u->w.cell? ⟨g,j,none⟩=some u:=by
  rcases wr.held with h0|h0
  ·omega
  ·exact h0
 have c1:=h.box.cell 1 _ rfl;rw[hwv]at c1;have c1':=hwc _ _ (qkx D);have hwl:=wr.len;have hlt:=h.box.lt
 have q1:(i:Int)<(W.c:Int):=by omega
 have q2:(W.at_ i:Int)<(W.n:Int):=by omega
 have FL:∀k,qav b M k->k<w.heap.size:=h.ltF
 have J:qav b M b:=by simp[qav,qd5]
 have fs:qav b M g:=by have:=h.box.cell 0 _ rfl;rw[c0]at this;unfold qav qd5;rw[<-Option.some.inj this];simp[Value.ownBlock]
 have fw:qav b M O:=by unfold qav qd5;rw[hwv];simp[Value.ownBlock]
 have fc:qav b M N:=by have:=h.box.cell 2 _ rfl;rw[c2]at this;unfold qav qd5;rw[<-Option.some.inj this];simp[Value.ownBlock]
 have K0:=λ(w':World) (k:qby (qav b M) w w')=>(World.cell?_of_block (w:=w) (a:=⟨b,0,none⟩) (k.block b J)).trans c0;have K1:=λ(w':World) (k:qby (qav b M) w w')=>(World.cell?_of_block (w:=w) (a:=⟨b,1,none⟩) (k.block b J)).trans c1;have K2:=λ(w':World) (k:qby (qav b M) w w')=>(World.cell?_of_block (w:=w) (a:=⟨b,2,none⟩) (k.block b J)).trans c2;have K3:=λ(w':World) (k:qby (qav b M) w w')=>(World.cell?_of_block (w:=w) (a:=⟨g,W.at_ i,none⟩) (k.block g fs)).trans c0';have K4:=λ(w':World) (k:qby (qav b M) w w')=>(World.cell?_of_block (w:=w) (a:=⟨O,W.at_ i,none⟩) (k.block O fw)).trans c1';have K5:=λ(w':World) (k:qby (qav b M) w w')=>(World.cell?_of_block (w:=w) (a:=⟨N,i,none⟩) (k.block N fc)).trans c2';have K00:qby (qav b M) w w:=⟨rfl,rfl,rfl,Nat.le_refl _,λ_ _=>rfl⟩;have KD:=qoi K00;clear h hc I hwc L wr E D c0 c1 c2 c0' c1' c2' J fs fw fc
 conv=>arg 2;whnf
 go_region_held3 (λw'=>qby (qav b M) w w') (repeat (first|(with_reducible assumption)|(with_reducible refine qs4 FL ?_ _)|(with_reducible refine qoi ?_)|(refine qwg FL ?_ (by first|exact Nat.le_refl _|assumption|(simp;omega)) _))) (first
  |(go_at_call 76
    with_reducible refine(CM.out w.drew (Below.refl _ w).drew).mono ?_
    rintro e wB ⟨o,p,q,r,s,v,x,y,z,B,C,ce,rfl,F⟩;have G:Below w.heap.size w _:=(Below.refl _ w).drew;have K:=F.out.keeps d.out.1 d.out.2.1 d.out.2.2 G;have hbs:=K.size
    have hs0:=hlt)
  |(go_at_call 76
    with_reducible refine(CM.out (w.alloc (.cells #[int i64 0,int i64 0,int i64 0,int i64 0,int i64 0,int i64 0,int i64 0,int i64 0,.slice none 0 0] 80)).drew (boxed (Below.refl _ w) (.cells #[int i64 0,int i64 0,int i64 0,int i64 0,int i64 0,int i64 0,int i64 0,int i64 0,.slice none 0 0] 80)).drew).mono ?_
    rintro e wB ⟨o,p,q,r,s,v,x,y,z,B,C,ce,rfl,F⟩;have G:Below w.heap.size w _:=(boxed (Below.refl _ w) (.cells #[int i64 0,int i64 0,int i64 0,int i64 0,int i64 0,int i64 0,int i64 0,int i64 0,.slice none 0 0] 80)).drew;have K:=F.out.keeps d.out.1 d.out.2.1 d.out.2.2 G;have hbs:=K.size;have RW0:=(qag.new (w:=w) (T:=80) (n:=w.heap.size) [int i64 0,int i64 0,int i64 0,int i64 0,int i64 0,int i64 0,int i64 0,int i64 0,.slice none 0 0] rfl).drew;have l:=F.out.box d.out.1 d.out.2.1 d.out.2.2 RW0;obtain⟨v0,v1,v2,v3,v4,v5,v6,v7,v8⟩:=l.c9;have f0:=l.free 0 (by simp);have f1:=l.free 1 (by simp);have f2:=l.free 2 (by simp);have f3:=l.free 3 (by simp);have f4:=l.free 4 (by simp);have f5:=l.free 5 (by simp);have f6:=l.free 6 (by simp);have f7:=l.free 7 (by simp)
    have f8:=l.free 8 (by simp)))
 all_goals
  first
   |(have hck:=l.lt
     go_simp
     refine HR.out _ _ _ _ _ _ _ _ _ _ _ _ _ _ _ _ _ _ _ _ _ _ _ _ _ o p q r s v x y z B C ce _ _ ⟨qbk l rfl _ _ _ _ _ _ _ _ _,Nat.le_refl _,F.out.to d.out.1 d.out.2.2 G (λk hk1 hk2=>qda (λe=>by simp at hk1;omega) _ _ _ _ _ _ _ _ _) (qbz (qae.ofBelow (Below.refl _ _)) (Nat.le_refl _) _ _ _ _ _ _ _ _ _)⟩)
   |(go_simp
     refine HR.out _ _ _ _ _ _ _ _ _ _ _ _ _ _ _ _ _ _ _ _ _ _ _ _ _ o p q r s v x y z B C ce _ _ ⟨qag.new (w:=wB) (T:=80) [int i64 o,int i64 p,int i64 q,int i64 r,int i64 s,int i64 v,int i64 x,int i64 y,.slice B z.length C] rfl,K.size,F.out.to d.out.1 d.out.2.2 G (λk hk1 hk2=>(boxed (Below.refl _ wB) _).block k hk2) (qae.ofBelow (boxed (Below.refl _ wB) _))⟩)
end
section
open Go.Value Go.IntKind
def q1i (w:World) (b:Nat) (G:Nat->Prop) (W:WoS) (i:Nat) (e:Ending) (w':World):Prop:=
 ∃m:TxM,e=.returned (.tuple #[txV m,int i64 (wcE W i)])/\m.t=wcT W i/\Hid (qat w' m.wa m.wc m.t.ws/\∃G',RW w' b G' (wcW W i)/\(∀k,G' k->G k\/w.heap.size<=k)/\qae G w w'/\∀k,m.blk k->G' k)
variable {w:World} {b:Nat}
theorem qen {tmps:Array Value} {x0 x1 x2 x3 d e g j:Int} {ev:Value} {a:Option Addr} {n c:Nat} (h:qag w b [int i64 x0,int i64 x1,int i64 x2,int i64 x3,int i64 d,int i64 e,int i64 g,int i64 j,.slice a n c]) (k:tmps[4]?=some (.pointer (some ⟨b,0,none⟩))) (l:tmps[5]?=some ev):
 (results Tryz.f37 tmps).run Tryz.prog w=.ok (.tuple #[.agg #[int i64 x0,int i64 x1,int i64 x2,int i64 x3,int i64 d,int i64 e,int i64 g,int i64 j,.slice a n c],ev]) w:=by
 obtain⟨o,p,q,r,s,t,u,v,x⟩:=h.c9;simp[results,Tryz.results37,go_sem,k,l,o,p,q,r,s,t,u,v,x]
structure qwh (w wr:World) (b:Nat) (G:Nat->Prop) (W':WoS) (m:TxM) (mb:Nat):Prop where
 rt:qag wr w.heap.size [int i64 0,int i64 0,int i64 0,int i64 0,int i64 0,int i64 0,int i64 0,int i64 0,.slice none 0 0]
 rm:qag wr mb (txC m)
 ne:w.heap.size<mb
 wi:qat wr m.wa m.wc m.t.ws
 all:∃G',RW wr b G' W'/\(∀k,G' k->G k\/w.heap.size<k)/\qae (λk=>G k\/k=w.heap.size) w wr/\(∀k,m.blk k->G' k)
def q52 (w:World) (b:Nat) (M:RoM) (W:WoS) (Gs:Nat->Nat->Prop) (i:Nat) (m:TxM) (F':Nat->Option Obj) (Gs':Nat->Nat->Prop) (mb:Nat) (wC:World):Prop:=qag wC mb (txC m)/\w.heap.size<=mb/\qat wC m.wa m.wc m.t.ws/\RWo wC b {M with F:=qb2 M.F (W.at_ i) F'} (qi7 W i) Gs'/\(∀j k,Gs' j k->Gs j k\/w.heap.size<=k)/\qae (λk=>Gs (W.n+i) k\/Gs (W.at_ i) k) w wC/\∀k,m.blk k->∃o,F' k=some o
variable {i mb:Nat} {G:Nat->Prop} {W:WoS} {m:TxM} {wr:World}
theorem q52.told {M:RoM} {v:Nat->Nat->Prop} {p:World} {a:WoS} (h:RWo w b M W v) (d:∀k,G k↔qli b M (W.n+W.c) v k) (O:i<W.c) (x:W.at_ i<W.n) {F':Nat->Option Obj} {f:Nat->Nat->Prop} (H:q52 (w.alloc (.cells #[int i64 0,int i64 0,int i64 0,int i64 0,int i64 0,int i64 0,int i64 0,int i64 0,.slice none 0 0] 80)) b M W v i m F' f mb p) (A:qfb p b {M with F:=qb2 M.F (W.at_ i) F'} f a wr) (y:a.n=W.n) (B:a.c=W.c):qwh w wr b G a m mb:=by
 obtain⟨C,aa,Q,R,S,s,D⟩:=H
 have ab:(w.alloc (.cells #[int i64 0,int i64 0,int i64 0,int i64 0,int i64 0,int i64 0,int i64 0,int i64 0,.slice none 0 0] 80)).heap.size=w.heap.size+1:=by simp
 have P:=A.post (W:=qi7 W i) (G:=qli b M (W.n+W.c) f) (λ_=>Iff.rfl) y B;obtain⟨z,E,p1,p2,g⟩:=A;obtain⟨G2,q1,q2,q3⟩:=P;have s1:=s.size
 have U:∀k,k=b\/M.yv.ownBlock=some k->k<w.heap.size:=λk e=>h.ltF k (by
  rcases e with e|e
  ·rw[e];simp[qav,qd5]
  ·unfold qav qd5;rw[e];simp)
 have nl:∀k,w.heap.size<=k->¬(k=b\/M.yv.ownBlock=some k):=λk I e=>by have:=U k e;omega
 have V:=λk (I:w.heap.size<=k)=>qld.lie (i:=i) h O x I;have J:=qag.new (w:=w) (T:=80) (n:=w.heap.size) [int i64 0,int i64 0,int i64 0,int i64 0,int i64 0,int i64 0,int i64 0,int i64 0,.slice none 0 0] rfl;have K:qag p w.heap.size _:=J.kept (s.block _ J.lt (V _ (Nat.le_refl _))) s.size
 have X:∀k,qli b M (W.n+W.c) f k->G k\/w.heap.size<k:=λk e=>by
  rcases e with e|⟨j,Y,e⟩
  ·exact .inl ((d k).2 (.inl e))
  ·exact(S j k e).imp (λq=>(d k).2 (.inr ⟨j,Y,q⟩)) (λq=>by omega)
 have Z:qae (λk=>G k\/k=w.heap.size) w p:=(qae.ofBelow (boxed (Below.refl _ w) _)).more s (λk e=>.inl (.inl (e.elim (λq=>(d k).2 (.inr ⟨_,by omega,q⟩)) (λq=>(d k).2 (.inr ⟨_,by omega,q⟩)))))
 have L:W.at_ i<a.n:=by rw[y];exact x
 have N:∀{k o},F' k=some o->({M with F:=qb2 M.F (W.at_ i) F',yv:=z,l:=E}:RoM).F (W.at_ i) k=some o:=λ{k o} e=>by show qb2 M.F (W.at_ i) F' (W.at_ i) k=_;rw[qal];exact e
 refine⟨K.kept (g.block _ K.lt (nl _ (Nat.le_refl _))) g.size,C.kept (g.block _ C.lt (nl _ (by omega))) g.size,by omega,?_,?_⟩
 ·refine Q.kept (m:=m) (λk e=>?_);obtain⟨o,u⟩:=D k e;exact((p1.site L).frozen (N u)).trans ((R.site (i:=W.at_ i) x).frozen (o:=o) (k:=k) (by show qb2 M.F (W.at_ i) F' (W.at_ i) k=_;rw[qal];exact u)).symm
 ·refine⟨qli b {M with F:=qb2 M.F (W.at_ i) F',yv:=z,l:=E} (a.n+a.c) f,⟨_,f,p1,λ_=>Iff.rfl⟩,λk e=>?_,Z.more g (λk e=>.inl (.inl ((d k).2 (.inl (by
   rcases e with e|e
   ·rw[e];simp[qav,qd5]
   ·unfold qav qd5;rw[e];simp))))),λk e=>?_⟩
  ·rw[y,B]at e;rcases e with e|e
   ·have e:some k∈[some b,M.sv.ownBlock,M.wv.ownBlock,M.cv.ownBlock,M.av.ownBlock]++[z.ownBlock]:=e;rcases List.mem_append.1 e with q|q
    ·exact .inl ((d k).2 (.inl (List.mem_append_left [M.yv.ownBlock] q)))
    ·rcases p2 k (List.mem_singleton.1 q).symm with r|r
     ·exact .inl ((d k).2 (.inl (by unfold qav qd5;rw[r];simp)))
     ·exact .inr (by omega)
   ·exact X k (.inr e)
  ·obtain⟨o,u⟩:=D k e;exact .inr ⟨W.at_ i,by omega,(p1.site L).frozenG (N u)⟩
theorem qwh.done (h:qwh w wr b G (wcW W i) m mb) (hb:∀k,G k->k<w.heap.size) {d:World} (a:qae (λk=>k=w.heap.size) wr d):Hid (qat d m.wa m.wc m.t.ws/\∃c,RW d b c (wcW W i)/\(∀k,c k->G k\/w.heap.size<=k)/\qae G w d/\∀k,m.blk k->c k):=by
 obtain⟨c,a1,a2,a3,f⟩:=h.all
 have ne:∀k,c k->k≠w.heap.size:=λk e q=>by
  rcases a2 k e with r|r
  ·have:=hb k r;omega
  ·omega
 refine⟨h.wi.kept (m:=m) (λk e=>a.block k (a1.lt k (f k e)) (ne k (f k e))),c,a1.kept (λk e=>a.block k (a1.lt k e) (ne k e)) a.size,λk e=>(a2 k e).imp id (λq=>by omega),?_,f⟩;have s:=a3.size;exact⟨a.os.trans a3.os,a.tape.trans a3.tape,a.output.trans a3.output,Nat.le_trans s a.size,λk g j=>(a.block k (by omega) (by omega)).trans (a3.block k g (λe=>e.elim j (by omega)))⟩
theorem q21 (h:¬0<(wcT W i).seq):wcW W i=qi7 W i:=if_neg h
theorem q38 (h:0<(wcT W i).seq):wcW W i=qds (wcT W i) W.n (qi7 W i):=if_pos h
theorem qy2 (w:World) (h:RW w b G W) (Q:WfW W) (R:i<W.c) (hp:0<=(W.ses i).p0) (hs:0<(wcT W i).seq->(wcT W i).site=(W.at_ i:Int)):
 Calls Tryz.prog 37 #[.pointer (some ⟨b,0,none⟩),int i64 i] w (q1i w b G W i):=by
 obtain⟨M,O,h,X⟩:=h;have ha:=Q.at_ i R;have hb0:=boxed (Below.refl _ w) (.cells #[int i64 0,int i64 0,int i64 0,int i64 0,int i64 0,int i64 0,int i64 0,int i64 0,.slice none 0 0] 80);have Y:=h.later hb0;have Z:Hid _:=RW.lt ⟨M,O,h,X⟩;have x:Hid (RWo w b M W O/\(∀k,G k↔qli b M (W.n+W.c) O k)/\i<W.c/\W.at_ i<W.n/\W.n<=4/\(0<(wcT W i).seq->(wcT W i).site=(W.at_ i:Int))):=⟨h,X,R,ha,Q.n4,hs⟩;have S:Hid (RWo (w.alloc (.cells #[int i64 0,int i64 0,int i64 0,int i64 0,int i64 0,int i64 0,int i64 0,int i64 0,.slice none 0 0] 80)) b M W O/\WfW W/\0<=(W.ses i).p0):=⟨Y,Q,hp⟩;obtain⟨ca,cca,da,dda,c2,hcl,c3,hdl,T⟩:=Y.clientsAt;obtain⟨cg,cg',rfl,rfl,hcg,hcg',T⟩:=T (by omega);have c3':=(T i R).2;have hlt:=h.box.lt
 have q1:(i:Int)<(W.c:Int):=by omega
 clear h X Q T Y R ha hs hp c2;go_enter Tryz.func37,Tryz.ntmps37
 go_wp2_with fail
 refine qkl (qxz (i:=i) _ S.out.1 S.out.2.1 x.out.2.2.1 S.out.2.2 _ ?_);rintro u17 u18 u19 u20 u21 u22 u23 u24 u25 u26 u27 u28 u29 u30 u31 u32 u33 u34 u35 u36 u37 u38 u39 u40 u41 a d g j l o p u v B C ce mb K ⟨hr,hmb,h1,h2,h3,F',Gs',h4,h5,tt,h6⟩;have E:Hid (ce=wcE W i/\(⟨⟨a,d,g,j,l,o,p,u,v⟩,B,C⟩:TxM).t=wcT W i):=⟨h1,h2⟩;have J:Hid (q52 (w.alloc (.cells #[int i64 0,int i64 0,int i64 0,int i64 0,int i64 0,int i64 0,int i64 0,int i64 0,.slice none 0 0] 80)) b M W O i (⟨⟨a,d,g,j,l,o,p,u,v⟩,B,C⟩:TxM) F' Gs' mb K):=⟨hr,hmb,h3,h4,h5,tt,h6⟩;have RM:=hr;clear S h1 h2 h3 h4 h5 tt h6 hr c3 c3' hmb;have lm:=RM.lt;obtain⟨x0,x1,x2,x3,x4,x5,x6,x7,x8⟩:=RM.c9;clear RM;by_cases hE:ce=0
 ·subst hE;by_cases hsq:0<d
  ·have HT:Hid (wcW W i=qds ⟨a,d,g,j,l,o,p,u,v⟩ W.n (qi7 W i)/\a=(W.at_ i:Int)):=by
        have e:0<(wcT W i).seq:=by rw[<-E.out.2];exact hsq
        refine⟨?_,?_⟩
        ·rw[q38 e,<-E.out.2]
        ·have:=x.out.2.2.2.2.2 e;rw[<-E.out.2]at this;exact this
   obtain⟨sg,scap,s0o,hscap,hsg,hsc⟩:=J.out.2.2.2.1.sitesAt (i:=W.at_ i) x.out.2.2.2.1;have hlC:=J.out.2.2.2.1.box.lt;have s0:K.cell? ⟨b,0,none⟩=some (.slice (some ⟨sg,0,none⟩) W.n scap):=s0o;have hscap:W.n<=scap:=hscap;clear hsc s0o
   go_wp2_with fail
   clear s0 x0 x1 x2 x3 x4 x5 x6 x7 x8
   go_loopw [54] (λiv wr=>∃(k:Nat) (z:Int),k<=W.n/\z=k/\iv=int i64 z/\Hid (qfb K b {M with F:=qb2 M.F (W.at_ i) F'} Gs' (qds ⟨a,d,g,j,l,o,p,u,v⟩ k (qi7 W i)) wr)) (λiv _=>W.n-(intOf iv).toNat)
   case atStart=>exact⟨0,0,by omega,rfl,rfl,qfb.none J.out.2.2.2.1 (Below.refl _ _)⟩
   case round=>
        obtain⟨k,z,hk,hz,rfl,U⟩:=hrel;have N:Hid _:=hz;by_cases hlt2:k<W.n
        ·have g1:z<(W.n:Int):=by omega
         have g2:z.toNat=k:=by omega
         have g3:0<=z:=by omega
         have g4:z<4:=by have:=x.out.2.2.2.2.1;omega
         clear hz;obtain⟨ai,hai⟩:∃ai:Int,(W.at_ i:Int)=ai:=⟨_,rfl⟩;have HAI:Hid _:=hai;rw[hai];clear hai;by_cases hka:z=ai
         ·have HT2:Hid (qds ⟨a,d,g,j,l,o,p,u,v⟩ (k+1) (qi7 W i)=qds ⟨a,d,g,j,l,o,p,u,v⟩ k (qi7 W i)):=if_pos (by show (k:Int)=a;rw[HT.out.2,HAI.out,<-N.out];exact hka);subst hka
          go_wp2_with fail
          go_roundw
          case rel=>exact⟨k+1,z+1,by omega,by have:=N.out;omega,by go_num,by rw[HT2.out];exact U.out⟩
          case measure=>simp[intOf];have:=N.out;omega
         ·have HT2:Hid (qds ⟨a,d,g,j,l,o,p,u,v⟩ (k+1) (qi7 W i)=qcq (qds ⟨a,d,g,j,l,o,p,u,v⟩ k (qi7 W i)) ⟨k,.tx ⟨a,d,g,j,l,o,p,u,v⟩⟩):=if_neg (by show ¬(k:Int)=a;rw[HT.out.2,HAI.out,<-N.out];exact hka);have y:Hid _:=J.out.told x.out.1 x.out.2.1 x.out.2.2.1 x.out.2.2.2.1 U.out (qcp _ _ _).n (qcp _ _ _).c;have RMr:=y.out.rm;have lmr:=RMr.lt;obtain⟨x0,x1,x2,x3,x4,x5,x6,x7,x8⟩:=RMr.c9
          have SX:Hid (Calls Tryz.prog 77 #[.pointer (some ⟨b,0,none⟩),.agg #[int i64 z,int i64 a,int i64 d,int i64 g,int i64 j,int i64 l,int i64 o,int i64 p,int i64 u,.slice B v.length C,int i64 0,int i64 0,int i64 0,int i64 0,int i64 0]] wr λe w'=>e=.returned (.tuple #[])/\qfb K b {M with F:=qb2 M.F (W.at_ i) F'} Gs' (qcq (qds ⟨a,d,g,j,l,o,p,u,v⟩ k (qi7 W i)) ⟨k,.tx ⟨a,d,g,j,l,o,p,u,v⟩⟩) w'):=by
           obtain⟨yv',l',p1,p2,P⟩:=U.out
           have hin:W.at_ i<(qds ⟨a,d,g,j,l,o,p,u,v⟩ k (qi7 W i)).n:=by rw[(qcp _ _ _).n];exact x.out.2.2.2.1
           have ok:GrR.Ok wr (qds ⟨a,d,g,j,l,o,p,u,v⟩ k (qi7 W i)).n ({M with F:=qb2 M.F (W.at_ i) F'}:RoM).F ⟨⟨k,.tx ⟨a,d,g,j,l,o,p,u,v⟩⟩,B,C⟩:=by
            refine⟨y.out.wi,λq e=>?_,λ_ _ _ _ _ e=>by simp at e⟩;obtain⟨ob,hob⟩:=J.out.2.2.2.2.2.2 q e;exact⟨W.at_ i,ob,hin,by show qb2 M.F (W.at_ i) F' (W.at_ i) q=_;rw[qal];exact hob⟩
           refine(qln wr p1 ⟨⟨k,.tx ⟨a,d,g,j,l,o,p,u,v⟩⟩,B,C⟩ ok (by rw[N.out];rfl)).mono λe w' ⟨he,V⟩=>⟨he,?_⟩;have s:=P.size;obtain⟨yv2,l2,g1',g2',gt⟩:=V;refine⟨yv2,l2,g1',λq e=>(g2' q e).elim (p2 q) (λr=>.inr (by omega)),P.more gt (λq e=>?_)⟩;exact e.elim (λr=>.inl (.inl r)) (λr=>(p2 q r).imp .inr id)
          clear RMr y
          go_wp2_with fail
          refine SX.out.mono ?_;rintro e w5 ⟨rfl,V⟩;have SN:Hid _:=V;clear SX V x0 x1 x2 x3 x4 x5 x6 x7 x8
          go_wp2_with fail
          go_roundw
          case rel=>exact⟨k+1,z+1,by omega,by have:=N.out;omega,by go_num,by rw[HT2.out];exact SN.out⟩
          case measure=>simp[intOf];have:=N.out;omega
        ·have g1:¬z<(W.n:Int):=by omega
         have e:k=W.n:=by omega
         clear hz
         have y:Hid (qwh w wr b G (wcW W i) (⟨⟨a,d,g,j,l,o,p,u,v⟩,B,C⟩:TxM) mb):=by have:=J.out.told x.out.1 x.out.2.1 x.out.2.2.1 x.out.2.2.2.1 U.out (qcp _ _ _).n (qcp _ _ _).c;rw[e,<-HT.out.1]at this;exact this
         have H:=y.out.rm;have D:=y.out.rt;obtain⟨y0,y1,y2,y3,y4,y5,y6,y7,y8⟩:=H.c9;obtain⟨t0,t1,P,t3,t4,t5,t6,t7,t8⟩:=D.c9;obtain⟨f0,f1,f2,f3,f4,f5,f6,f7,f8⟩:=D.f9;have I:=And.intro (qbk D rfl a d g j l o p u (.slice B v.length C)) (y.out.done Z.out (qbz (F:=λk=>k=w.heap.size) (qae.ofBelow (Below.refl _ wr)) rfl a d g j l o p u (.slice B v.length C)));simp only[qbg]at I;have L:Hid _:=I;have lm:=H.lt;have lr:=D.lt;have nm:=y.out.ne;clear I H D
         go_wp2_with fail
         (try simp only[Exit.inBlock,Exit.then])
         refine bodyPost_ret (qen L.out.1 rfl rfl) rfl ⟨(⟨⟨a,d,g,j,l,o,p,u,v⟩,B,C⟩:TxM),by rw[<-E.out.1];rfl,E.out.2,L.out.2⟩
  ·have HN:Hid (wcW W i=qi7 W i):=q21 (by rw[<-E.out.2];exact hsq)
   have y:Hid (qwh w K b G (wcW W i) (⟨⟨a,d,g,j,l,o,p,u,v⟩,B,C⟩:TxM) mb):=by have:=J.out.told x.out.1 x.out.2.1 x.out.2.2.1 x.out.2.2.2.1 (qfb.none J.out.2.2.2.1 (Below.refl _ _)) rfl rfl;rw[<-HN.out]at this;exact this
   have H:=y.out.rm;have D:=y.out.rt;obtain⟨y0,y1,y2,y3,y4,y5,y6,y7,y8⟩:=H.c9;obtain⟨t0,t1,P,t3,t4,t5,t6,t7,t8⟩:=D.c9;obtain⟨f0,f1,f2,f3,f4,f5,f6,f7,f8⟩:=D.f9;have I:=And.intro (qbk D rfl a d g j l o p u (.slice B v.length C)) (y.out.done Z.out (qbz (F:=λk=>k=w.heap.size) (qae.ofBelow (Below.refl _ K)) rfl a d g j l o p u (.slice B v.length C)));simp only[qbg]at I;have L:Hid _:=I;have lm:=H.lt;have lr:=D.lt;have nm:=y.out.ne;clear I H D
   go_wp2_with fail
   (try simp only[Exit.inBlock,Exit.then])
   refine bodyPost_ret (qen L.out.1 rfl rfl) rfl ⟨(⟨⟨a,d,g,j,l,o,p,u,v⟩,B,C⟩:TxM),by rw[<-E.out.1];rfl,E.out.2,L.out.2⟩
 ·have HN:Hid (wcW W i=qi7 W i):=q21 (by
   have e:wcE W i≠0:=by rw[<-E.out.1];exact hE
   have q:=qtx e;show ¬0<(qem _ _ _).seq;rw[q.1]
   decide)
  have y:Hid (qwh w K b G (wcW W i) (⟨⟨a,d,g,j,l,o,p,u,v⟩,B,C⟩:TxM) mb):=by have:=J.out.told x.out.1 x.out.2.1 x.out.2.2.1 x.out.2.2.2.1 (qfb.none J.out.2.2.2.1 (Below.refl _ _)) rfl rfl;rw[<-HN.out]at this;exact this
  have H:=y.out.rm;have D:=y.out.rt;obtain⟨y0,y1,y2,y3,y4,y5,y6,y7,y8⟩:=H.c9;obtain⟨t0,t1,P,t3,t4,t5,t6,t7,t8⟩:=D.c9;obtain⟨f0,f1,f2,f3,f4,f5,f6,f7,f8⟩:=D.f9;have I:=And.intro (qbk D rfl a d g j l o p u (.slice B v.length C)) (y.out.done Z.out (qbz (F:=λk=>k=w.heap.size) (qae.ofBelow (Below.refl _ K)) rfl a d g j l o p u (.slice B v.length C)));simp only[qbg]at I;have L:Hid _:=I;have lm:=H.lt;have lr:=D.lt;have nm:=y.out.ne;clear I H D
  go_wp2_with fail
  (try simp only[Exit.inBlock,Exit.then])
  refine bodyPost_ret (qen L.out.1 rfl rfl) rfl ⟨(⟨⟨a,d,g,j,l,o,p,u,v⟩,B,C⟩:TxM),by rw[<-E.out.1];rfl,E.out.2,L.out.2⟩
end
theorem qe5 {w w':World} {p:Addr} (hb:Below w.heap.size w w') (h:w.frozen? p=false) (a:p.block<w.heap.size):w'.frozen? p=false:=by rw[hb.frozen a];exact h
def q5d (w:World) (b:Nat) (l:List GrR) (w':World):Prop:=∃g c w7,w'=w7.setCell ⟨b,4,none⟩ (.slice (some ⟨g,0,none⟩) l.length c)/\Below w.heap.size w w7/\w.heap.size<=g/\w7.ownsRow 0 122 15 (.slice (some ⟨g,0,none⟩) l.length c) l.length (qhb l)
noncomputable def q55:Code:=((Tryz.f46.body.bind (qcn 2)).getD .skip)
theorem qyh {b i nb p q:Nat} {l:List GrR} {M N O P Q S T U V W X y13 y14 y15 y16 y17 y18 y19 y20 y21 y22 y23 y24 y25 y26 y27 y28 y29 y30 y31 Y:Value} (a:World) (s:a.cell? ⟨b,4,none⟩=some (.slice (some ⟨nb,p,none⟩) l.length q)) (y:a.frozen? ⟨b,4,none⟩=false) (z:qj1 a (some ⟨nb,p,none⟩) q l) (hil:i<l.length) (Z:l.length<=300) (R:Act->World->Prop)
 (hR:∀(u13 u14 u15 u16 u17 u18 u19 u20 u21 u22 u23 u24 u25 u26 u27 u28 u29 u30 u31:Value) (w8:World),q5d a b (l.eraseIdx i) w8->R ⟨List.toArray ((.pointer (some ⟨b,0,none⟩))::(.int .i64 i)::M::N::O::P::Q::S::T::U::V::W::X::u13::u14::u15::u16::u17::u18::u19::u20::u21::u22::u23::u24::u25::u26::u27::u28::u29::u30::u31::Y::[]),[]⟩ w8):
 Code.wp Tryz.prog q55 (Exit.then R (λ_ _ _=>False)) ⟨List.toArray ((.pointer (some ⟨b,0,none⟩))::(.int .i64 i)::M::N::O::P::Q::S::T::U::V::W::X::y13::y14::y15::y16::y17::y18::y19::y20::y21::y22::y23::y24::y25::y26::y27::y28::y29::y30::y31::Y::[]),[]⟩ a:=by
 have HR:Hid _:=hR;clear hR;have C:Hid _:=z;have B:b<a.heap.size:=World.block_lt_of_cell? _ _ s;have hrl:=z.len;have hrc:=z.cap;have u:Hid _:=Z
 have q1:(i:Int)<(l.length:Int):=by omega
 have j2:(i:Int)<=(l.length:Int):=by omega
 have j4:((i:Int)+1)<=(l.length:Int):=by omega
 have j5:(0:Int)<=(i:Int)+1:=by omega
 have j6:((i:Int)+1).toNat=i+1:=by omega
 have j7:(i:Int)<=(q:Int):=by omega
 have j8:(0:Int)<=(i:Int):=by omega
 have hwz:IntKind.i64.wrap ((i:Int)+1)=(i:Int)+1:=by have:=u.out;unfold IntKind.wrap;simp[IntKind.signed,IntKind.bits];omega
 have D:Hid _:=hil
 have FIN:Hid (∀f r h m,m=0+(l.take i).length+(l.drop (i+1)).length->Below a.heap.size a h->a.heap.size<=f->h.ownsRow 0 122 15 (.slice (some ⟨f,0,none⟩) (0+(l.take i).length+(l.drop (i+1)).length) r) (0+(l.take i).length+(l.drop (i+1)).length) ([]++qhb (l.take i)++qhb (l.drop (i+1)))->q5d a b (l.eraseIdx i) (h.setCell ⟨b,4,none⟩ (.slice (some ⟨f,0,none⟩) m r))):=λf r h m hm k hg ho=>by
  have hN:0+(l.take i).length+(l.drop (i+1)).length=(l.eraseIdx i).length:=by rw[List.eraseIdx_eq_take_drop_succ];simp<;>omega
  rw[hN]at hm ho;subst hm;refine⟨f,r,h,rfl,k,hg,?_⟩
  have e:qhb (l.eraseIdx i)=[]++qhb (l.take i)++qhb (l.drop (i+1)):=by rw[List.eraseIdx_eq_take_drop_succ,qsh];rfl
  rw[e];exact ho
 clear z Z
 conv=>arg 2;whnf
 by_cases hvz:q=i+1
 ·subst hvz
  have j9:(i:Int)<=(i:Int)+1:=by omega
  go_region_law (first
   |(refine qd6 _ rfl (.tmp 14) (.tmp 20) rfl (g:=a.heap.size) (n:=0) (cap:=0) (xs:=[]) (by simp[Act.eval,Act.put]) (qn0 a 122 rfl) (sa:=some ⟨nb,p,none⟩) (c:=i+1) (l:=l.take i) (by simp[Act.eval,Act.put]<;>omega) ((C.out.take i (by have:=D.out;omega)).later (by repeat (first|(with_reducible assumption)|(with_reducible exact Below.refl _ _)|(with_reducible refine boxed ?_ _)|(with_reducible refine Below.drew ?_)))) (by have:=u.out;simp;omega) ?_
     intro v c1_ w E F G H;have x:Hid (a.heap.size<=v/\v<w.heap.size):=⟨by simp at G;omega,H⟩;have d:Below a.heap.size a w:=Below.grown (by repeat (first|(with_reducible assumption)|(with_reducible exact Below.refl _ _)|(with_reducible refine boxed ?_ _)|(with_reducible refine Below.drew ?_))) F (by simp<;>omega) (λj o=>by simp at o;omega);have c46:=cell_later d s
     have f46:=qe5 d y B)
   |(refine qd6 _ rfl (.tmp 21) (.tmp 28) rfl (by simp[Act.eval,Act.put]) E (sa:=some ⟨nb,p,none⟩) (c:=0) (l:=l.drop (i+1)) (by simp[Act.eval,Act.put]<;>omega) (⟨by simp;omega,by omega,.inl (List.drop_eq_nil_of_le (by omega))⟩) (by have:=u.out;simp;omega) ?_
     intro f r h I J eg7 K;have k:Below a.heap.size a h:=Below.grown d J d.size (λj o=>by have:=x.out;simp at o;omega);have L:Hid (a.heap.size<=f/\f<h.heap.size):=⟨by have:=x.out;have:=d.size;omega,K⟩;have c47:=cell_later k s
     have f47:=qe5 k y B))
  all_goals
   go_simp
   refine HR.out _ _ _ _ _ _ _ _ _ _ _ _ _ _ _ _ _ _ _ _ ?_;exact FIN.out _ _ _ _ (by simp<;>omega) k L.out.1 I
 ·skip
  go_region_law (first
   |(refine qd6 _ rfl (.tmp 14) (.tmp 20) rfl (g:=a.heap.size) (n:=0) (cap:=0) (xs:=[]) (by simp[Act.eval,Act.put]) (qn0 a 122 rfl) (sa:=some ⟨nb,p,none⟩) (c:=q) (l:=l.take i) (by simp[Act.eval,Act.put]<;>omega) ((C.out.take i (by have:=D.out;omega)).later (by repeat (first|(with_reducible assumption)|(with_reducible exact Below.refl _ _)|(with_reducible refine boxed ?_ _)|(with_reducible refine Below.drew ?_)))) (by have:=u.out;simp;omega) ?_
     intro v c1_ w E F G H;have x:Hid (a.heap.size<=v/\v<w.heap.size):=⟨by simp at G;omega,H⟩;have d:Below a.heap.size a w:=Below.grown (by repeat (first|(with_reducible assumption)|(with_reducible exact Below.refl _ _)|(with_reducible refine boxed ?_ _)|(with_reducible refine Below.drew ?_))) F (by simp<;>omega) (λj o=>by simp at o;omega);have c46:=cell_later d s
     have f46:=qe5 d y B)
   |(refine qd6 _ rfl (.tmp 21) (.tmp 28) rfl (by simp[Act.eval,Act.put]) E (sa:=some ⟨nb,p+(i+1)*15,none⟩) (c:=q-(i+1)) (l:=l.drop (i+1)) (by simp[Act.eval,Act.put]<;>omega) ((C.out.drop (i+1) (by have:=D.out;omega)).later d) (by have:=u.out;simp;omega) ?_
     intro f r h I J eg7 K;have k:Below a.heap.size a h:=Below.grown d J d.size (λj o=>by have:=x.out;simp at o;omega);have L:Hid (a.heap.size<=f/\f<h.heap.size):=⟨by have:=x.out;have:=d.size;omega,K⟩;have c47:=cell_later k s
     have f47:=qe5 k y B))
  all_goals
   go_simp
   refine HR.out _ _ _ _ _ _ _ _ _ _ _ _ _ _ _ _ _ _ _ _ ?_;exact FIN.out _ _ _ _ (by simp<;>omega) k L.out.1 I
section
open Go.Value Go.IntKind
variable {y0 y1 y2 y3 y4 y5 y6 y7 y8 z0 z1 z2 z3 z4:Int} {a:Option Addr} {n c:Nat}
theorem qr4 {tmps:Array Value} {w:World} {g:Nat} (h:qag w g [int i64 y0,int i64 y1,int i64 y2,int i64 y3,int i64 y4,int i64 y5,int i64 y6,int i64 y7,int i64 y8,.slice a n c,int i64 z0,int i64 z1,int i64 z2,int i64 z3,int i64 z4]) (b:tmps[4]?=some (.pointer (some ⟨g,0,none⟩))):(results Tryz.f46 tmps).run Tryz.prog w=.ok (.agg #[int i64 y0,int i64 y1,int i64 y2,int i64 y3,int i64 y4,int i64 y5,int i64 y6,int i64 y7,int i64 y8,.slice a n c,int i64 z0,int i64 z1,int i64 z2,int i64 z3,int i64 z4]) w:=by
 obtain⟨d,e,i,j,k,l,m,o,p,q,r,s,t,u,v⟩:=h.c15;simp[results,Tryz.results46,go_sem,b,d,e,i,j,k,l,m,o,p,q,r,s,t,u,v]
theorem q37 {b:Nat} {M:RoM} {W:WoS} {I:Nat->Nat->Prop} (w:World) (h:RWo w b M W I) (hn:W.net.length<=300) {i:Nat} {x:GrR} (F:M.l[i]?=some x) (hc:qc4 x=[int i64 y0,int i64 y1,int i64 y2,int i64 y3,int i64 y4,int i64 y5,int i64 y6,int i64 y7,int i64 y8,.slice a n c,int i64 z0,int i64 z1,int i64 z2,int i64 z3,int i64 z4]):
 Calls Tryz.prog 46 #[.pointer (some ⟨b,0,none⟩),int i64 i] w λe w'=>e=.returned (.agg #[int i64 y0,int i64 y1,int i64 y2,int i64 y3,int i64 y4,int i64 y5,int i64 y6,int i64 y7,int i64 y8,.slice a n c,int i64 z0,int i64 z1,int i64 z2,int i64 z3,int i64 z4])/\∃U,RWo w' b {M with yv:=U,l:=M.l.eraseIdx i} (qb3 W i) I/\(∀k,U.ownBlock=some k->w.heap.size<=k)/\qae (λk=>k=b) w w':=by
 have hlen:M.l.length=W.net.length:=by rw[<-h.nl];simp
 have J:i<M.l.length:=(List.getElem?_eq_some_iff.1 F).1;obtain⟨na,vc,V,r⟩:=qyf h.yr
 obtain⟨nb,z,rfl,X⟩:∃g z,na=some ⟨g,z,none⟩/\∀i m r u,M.l[i]?=some m->(qc4 m)[r]?=some u->w.cell? ⟨g,z+(i*15+r),none⟩=some u:=by
  rcases r.held with K|K
  ·rw[K]at J;simp at J
  ·exact K
 have L:=h.box.cell 4 _ rfl;have Y:=h.box.free 4 (by simp);rw[V]at L;have j:=λr u (hu:[int i64 y0,int i64 y1,int i64 y2,int i64 y3,int i64 y4,int i64 y5,int i64 y6,int i64 y7,int i64 y8,.slice a n c,int i64 z0,int i64 z1,int i64 z2,int i64 z3,int i64 z4][r]?=some u)=>(show w.cell? ⟨nb,z+i*15+r,none⟩=some u by rw[Nat.add_assoc];exact X i x r u F (by rw[hc];exact hu));have x0:w.cell? ⟨nb,z+i*15,none⟩=some (int i64 y0):=j 0 _ rfl;have x1:=j 1 _ rfl;have x2:=j 2 _ rfl;have x3:=j 3 _ rfl;have x4:=j 4 _ rfl;have x5:=j 5 _ rfl;have x6:=j 6 _ rfl;have x7:=j 7 _ rfl;have x8:=j 8 _ rfl;have x9:=j 9 _ rfl;have x10:=j 10 _ rfl;have x11:=j 11 _ rfl;have x12:=j 12 _ rfl;have x13:=j 13 _ rfl;have x14:=j 14 _ rfl;have hlt:=h.box.lt;have hblt:nb<w.heap.size:=World.block_lt_of_cell? _ _ x0
 have q1:(i:Int)<(M.l.length:Int):=by omega
 have D:Hid (RWo w b M W I/\M.l[i]?=some x/\qj1 w (some ⟨nb,z,none⟩) vc M.l/\M.l.length<=300):=⟨h,F,r,by omega⟩;have hrl:=r.len;have hrc:=r.cap;clear h F r X j hlen V hn;go_enter Tryz.func46,Tryz.ntmps46
 go_wp2_with fail
 obtain⟨v,B⟩:∃v,((w.alloc (.cells #[int i64 0,int i64 0,int i64 0,int i64 0,int i64 0,int i64 0,int i64 0,int i64 0,int i64 0,.slice none 0 0,int i64 0,int i64 0,int i64 0,int i64 0,int i64 0] 122)).alloc (.cells #[int i64 y0,int i64 y1,int i64 y2,int i64 y3,int i64 y4,int i64 y5,int i64 y6,int i64 y7,int i64 y8,.slice a n c,int i64 z0,int i64 z1,int i64 z2,int i64 z3,int i64 z4] 122))=v:=⟨_,rfl⟩
 have G:Below w.heap.size w v:=by rw[<-B];exact boxed (boxed (Below.refl _ w) _) _
 have RZ:qag v w.heap.size [int i64 0,int i64 0,int i64 0,int i64 0,int i64 0,int i64 0,int i64 0,int i64 0,int i64 0,.slice none 0 0,int i64 0,int i64 0,int i64 0,int i64 0,int i64 0]:=by rw[<-B];exact(qag.new (w:=w) (T:=122) [int i64 0,int i64 0,int i64 0,int i64 0,int i64 0,int i64 0,int i64 0,int i64 0,int i64 0,.slice none 0 0,int i64 0,int i64 0,int i64 0,int i64 0,int i64 0] rfl).later (boxed (Below.refl _ _) _)
 have RG:qag v (w.heap.size+1) [int i64 y0,int i64 y1,int i64 y2,int i64 y3,int i64 y4,int i64 y5,int i64 y6,int i64 y7,int i64 y8,.slice a n c,int i64 z0,int i64 z1,int i64 z2,int i64 z3,int i64 z4]:=by
  rw[<-B];have:=qag.new (w:=w.alloc (.cells #[int i64 0,int i64 0,int i64 0,int i64 0,int i64 0,int i64 0,int i64 0,int i64 0,int i64 0,.slice none 0 0,int i64 0,int i64 0,int i64 0,int i64 0,int i64 0] 122)) (T:=122) [int i64 y0,int i64 y1,int i64 y2,int i64 y3,int i64 y4,int i64 y5,int i64 y6,int i64 y7,int i64 y8,.slice a n c,int i64 z0,int i64 z1,int i64 z2,int i64 z3,int i64 z4] rfl;simpa using this
 have Z:v.heap.size=w.heap.size+2:=by rw[<-B];simp
 have HV5:Hid _:=D.out.2.2.1.later G;have c45:=cell_later G L;have f45:=qe5 G Y hlt
 have l5:b<v.heap.size:=by omega
 have SZ5:Hid _:=Z;rw[B];clear Z B x0 x1 x2 x3 x4 x5 x6 x7 x8 x9 x10 x11 x12 x13 x14 L Y;refine qkl (qyh v c45 f45 HV5.out J D.out.2.2.2 _ ?_);rintro u13 u14 u15 u16 u17 u18 u19 u20 u21 u22 u23 u24 u25 u26 u27 u28 u29 u30 u31 w8 ⟨p,E,w7,hw8,H,hg2,N⟩;have HG7:Hid (v.heap.size<=p/\p<w7.heap.size):=⟨hg2,(N.lt p rfl).2⟩;have O:=qac G H;obtain⟨s,P⟩:∃s,w8=s:=⟨_,rfl⟩
 have C:w7.setCell ⟨b,4,none⟩ (.slice (some ⟨p,0,none⟩) (M.l.eraseIdx i).length E)=s:=by rw[<-P,hw8]
 have B8:qag s b [M.sv,M.wv,M.cv,M.av,.slice (some ⟨p,0,none⟩) (M.l.eraseIdx i).length E,int i64 W.lost]:=by rw[<-C];exact(D.out.1.box.later O).set 4 _ (by simp)
 have own9:s.ownsRow 0 122 15 (.slice (some ⟨p,0,none⟩) (M.l.eraseIdx i).length E) (M.l.eraseIdx i).length (qhb (M.l.eraseIdx i)):=by
  rw[<-C];exact qad N (λk e=>Below.heap_setCell _ _ _ _ (λq=>by have Q:p=k:=Option.some.inj e;have:=HG7.out;simp only at q;omega))
 have o:qag s (w.heap.size+1) [int i64 y0,int i64 y1,int i64 y2,int i64 y3,int i64 y4,int i64 y5,int i64 y6,int i64 y7,int i64 y8,.slice a n c,int i64 z0,int i64 z1,int i64 z2,int i64 z3,int i64 z4]:=by rw[<-C];exact(RG.later H).far _ _ (by simp only;omega)
 have d:qag s w.heap.size [int i64 0,int i64 0,int i64 0,int i64 0,int i64 0,int i64 0,int i64 0,int i64 0,int i64 0,.slice none 0 0,int i64 0,int i64 0,int i64 0,int i64 0,int i64 0]:=by rw[<-C];exact(RZ.later H).far _ _ (by simp only;omega)
 have T8:qae (λk=>k=b) w s:=by rw[<-C];exact(qae.ofBelow O).trans (qae.setCell _ _ _ rfl)
 have y:Hid (qag s b [M.sv,M.wv,M.cv,M.av,.slice (some ⟨p,0,none⟩) (M.l.eraseIdx i).length E,int i64 W.lost]/\s.ownsRow 0 122 15 (.slice (some ⟨p,0,none⟩) (M.l.eraseIdx i).length E) (M.l.eraseIdx i).length (qhb (M.l.eraseIdx i))/\qag s w.heap.size [int i64 0,int i64 0,int i64 0,int i64 0,int i64 0,int i64 0,int i64 0,int i64 0,int i64 0,.slice none 0 0,int i64 0,int i64 0,int i64 0,int i64 0,int i64 0]/\qae (λk=>k=b) w s/\w.heap.size+2<=p):=⟨B8,own9,d,T8,by have:=HG7.out;have:=SZ5.out;omega⟩;have g0_:=o.cell 0 _ rfl;have p0_:=d.free 0 (by simp);have s0_:=d.cell 0 _ rfl;have g1_:=o.cell 1 _ rfl;have p1_:=d.free 1 (by simp);have s1_:=d.cell 1 _ rfl;have g2_:=o.cell 2 _ rfl;have p2_:=d.free 2 (by simp);have s2_:=d.cell 2 _ rfl;have g3_:=o.cell 3 _ rfl;have p3_:=d.free 3 (by simp);have s3_:=d.cell 3 _ rfl;have g4_:=o.cell 4 _ rfl;have p4_:=d.free 4 (by simp);have s4_:=d.cell 4 _ rfl;have g5_:=o.cell 5 _ rfl;have p5_:=d.free 5 (by simp);have s5_:=d.cell 5 _ rfl;have g6_:=o.cell 6 _ rfl;have p6_:=d.free 6 (by simp);have s6_:=d.cell 6 _ rfl;have g7_:=o.cell 7 _ rfl;have p7_:=d.free 7 (by simp);have s7_:=d.cell 7 _ rfl;have g8_:=o.cell 8 _ rfl;have p8_:=d.free 8 (by simp);have s8_:=d.cell 8 _ rfl;have g9_:=o.cell 9 _ rfl;have p9_:=d.free 9 (by simp);have s9_:=d.cell 9 _ rfl;have g10_:=o.cell 10 _ rfl;have p10_:=d.free 10 (by simp);have s10_:=d.cell 10 _ rfl;have g11_:=o.cell 11 _ rfl;have p11_:=d.free 11 (by simp);have s11_:=d.cell 11 _ rfl;have g12_:=o.cell 12 _ rfl;have p12_:=d.free 12 (by simp);have s12_:=d.cell 12 _ rfl;have g13_:=o.cell 13 _ rfl;have p13_:=d.free 13 (by simp);have s13_:=d.cell 13 _ rfl;have g14_:=o.cell 14 _ rfl;have p14_:=d.free 14 (by simp);have s14_:=d.cell 14 _ rfl;rw[P];clear P C hw8 N B8 own9 o d T8 O H hg2;have hbl:=D.out.1.box.lt;have R:=And.intro (qvb (l:=[int i64 y0,int i64 y1,int i64 y2,int i64 y3,int i64 y4,int i64 y5,int i64 y6,int i64 y7,int i64 y8,.slice a n c,int i64 z0,int i64 z1,int i64 z2,int i64 z3,int i64 z4]) y.out.2.2.1 rfl) (And.intro (D.out.1.outed (i:=i) (qk0 y.out.2.2.2.1 (Nat.le_refl _) [int i64 y0,int i64 y1,int i64 y2,int i64 y3,int i64 y4,int i64 y5,int i64 y6,int i64 y7,int i64 y8,.slice a n c,int i64 z0,int i64 z1,int i64 z2,int i64 z3,int i64 z4]) (y.out.1.kept (qfp (by omega) _ _ _) (by rw[(qjc _ _ _).2.2.2];exact Nat.le_refl _)) (qad y.out.2.1 (λk e=>qfp (by have Q:p=k:=Option.some.inj e;have:=y.out.2.2.2.2;omega) _ _ _)) (λk e=>by have Q:p=k:=Option.some.inj e;have:=y.out.2.2.2.2;omega)) (qk0 y.out.2.2.2.1 (Nat.le_refl _) [int i64 y0,int i64 y1,int i64 y2,int i64 y3,int i64 y4,int i64 y5,int i64 y6,int i64 y7,int i64 y8,.slice a n c,int i64 z0,int i64 z1,int i64 z2,int i64 z3,int i64 z4]))
 simp only[qhg]at R;have S:Hid _:=R;clear R hbl
 go_wp2_with fail
 (try simp only[Exit.inBlock,Exit.then])
 refine bodyPost_ret (qr4 S.out.1 rfl) rfl ⟨rfl,_,S.out.2.1,λk e=>?_,S.out.2.2⟩;have Q:p=k:=Option.some.inj e;have:=y.out.2.2.2.2;omega
end
section
variable {w w1:World} {b:Nat} {G:Nat->Prop}
theorem qgi.bind {w2:World} {W1 c:WoS} (h:qgi w b G W1 w1) (f:∀a,RW w1 b a W1->qgi w1 b a c w2):qgi w b G c w2:=by
 obtain⟨a,j,d,e⟩:=h;obtain⟨k,p1,p2,p3⟩:=f a j;have s:=e.size;exact⟨k,p1,λq l=>(p2 q l).elim (d q) (λr=>.inr (by omega)),e.more p3 d⟩
def q6c (w:World) (b:Nat) (G:Nat->Prop) (W:WoS) (i:Nat) (g:GrS) (e:Ending) (w':World):Prop:=
 ∃x:GrR,e=.returned (.agg (qc4 x).toArray)/\x.g=g/\Hid (qat w' x.m.wa x.m.wc x.m.t.ws/\(∀s a0 a1 a2 a3,x.g.body=.ask s a0 a1 a2 a3->x.wa=none/\x.wc=0)/\qgi w b G (qb3 W i) w')
variable {W:WoS} {i:Nat} {g:GrS}
theorem qy7 (w:World) (h:RW w b G W) (c:W.net.length<=300) (n:W.net[i]?=some g):
 Calls Tryz.prog 46 #[.pointer (some ⟨b,0,none⟩),.int .i64 i] w (q6c w b G W i g):=by
 obtain⟨M,C,h,s⟩:=h
 have D:M.l.length=W.net.length:=by rw[<-h.nl];simp
 have t:i<M.l.length:=by have:=(List.getElem?_eq_some_iff.1 n).1;omega
 obtain⟨x,d⟩:∃x,M.l[i]?=some x:=⟨_,List.getElem?_eq_getElem t⟩
 have u:x.g=g:=by
  have:=n;rw[<-h.nl,List.getElem?_map,d]at this;exact Option.some.inj this
 have ok:=h.gr x (List.mem_of_getElem? d);refine(q37 w h c d rfl).mono λe w' ⟨v,y,p,z,a⟩=>⟨x,v,u,?_,ok.none,?_⟩
 ·refine ok.wi.kept (m:=x.m) (λk e=>?_);obtain⟨j,o,q,r⟩:=ok.fr k e;exact((p.site (i:=j) q).frozen r).trans ((h.site q).frozen r).symm
 ·exact qfb.post (W:=W) ⟨y,M.l.eraseIdx i,p,λk e=>.inr (z k e),⟨a.os,a.tape,a.output,a.size,λk B c=>a.block k B (λe=>c (.inl e))⟩⟩ s rfl rfl
theorem quh {x:GrR} (d:WfW W) (n:qjj W) (j:W.net[i]?=some g) (c:x.g=g) (h:Hid (qat w1 x.m.wa x.m.wc x.m.t.ws/\(∀s a0 a1 a2 a3,x.g.body=.ask s a0 a1 a2 a3->x.wa=none/\x.wc=0)/\qgi w b G (qb3 W i) w1)):
 Calls Tryz.prog 45 #[.pointer (some ⟨b,0,none⟩),.agg (qc4 x).toArray] w1 λe w'=>e=.returned (.tuple #[])/\∃a,Hid (qcc W i a)/\qgi w b G a w':=by
 have k:=List.mem_of_getElem? j;have B:=h.out.2.2;obtain⟨C,o,s1,l⟩:=h.out.2.2;refine(qwc x w1 o (d.drop i) (by rw[c];exact d.to g k) h.out.1 h.out.2.1 (by rw[c];exact n g k)).mono λe w' ⟨p,a,u,v⟩=>⟨p,a,⟨g,j,by rw[<-c];exact u.out⟩,?_⟩;obtain⟨y,p1,p2,p3⟩:=v;have s:=l.size;exact⟨y,p1,λq z=>(p2 q z).elim (s1 q) (λr=>.inr (by omega)),l.more p3 s1⟩
theorem qt2 {c:Nat} (w:World) (h:RW w b G W) (C:WfW W) (D:qjj W) (t:w.cell? ⟨c,0,none⟩=some (.pointer (some ⟨b,0,none⟩))) (v:¬G c):
 Calls Tryz.prog 95 #[.pointer (some ⟨c,0,none⟩)] w λe w'=>e=.returned (.tuple #[])/\∃d,Hid (qc3 W d/\WfW d/\qjj d)/\qgi w b G d w':=by
 have y:Hid (RW w b G W/\WfW W/\qjj W/\w.cell? ⟨c,0,none⟩=some (.pointer (some ⟨b,0,none⟩))/\¬G c):=⟨h,C,D,t,v⟩;have O:c<w.heap.size:=World.block_lt_of_cell? _ _ t
 have E:Hid (∀w',qae G w w'->w'.cell? ⟨c,0,none⟩=some (.pointer (some ⟨b,0,none⟩))):=λw' n=>by rw[World.cell?_of_block (w:=w) (n.block c O v)];exact t
 clear h C D t v;go_enter Tryz.func95,Tryz.ntmps95
 go_wp2_with fail
 go_loopg [1] (qqq W.net) (λk _ wr=>∃W1:WoS,qqq W1.net<=k/\Hid (WfW W1/\qjj W1/\qgi w b G W1 wr/\∀d,qc3 W1 d->qc3 W d))
 case atStart=>exact⟨W,Nat.le_refl _,y.out.2.1,y.out.2.2.1,qgi.same y.out.1 (Below.refl _ _),λ_ h=>h⟩
 case round=>
  obtain⟨W1,Y,a⟩:=hrel
  have Z:wr.cell? ⟨c,0,none⟩=some (.pointer (some ⟨b,0,none⟩)):=by
   obtain⟨_,_,_,n⟩:=a.out.2.2.1;exact E.out wr n
  obtain⟨F,H,s1,I⟩:=a.out.2.2.1;have o:Hid (RW wr b F W1/\(∀k,F k->G k\/w.heap.size<=k)/\qae G w wr):=⟨H,s1,I⟩;obtain⟨M,Gs,p,P⟩:=H
  have J:M.l.length=W1.net.length:=by rw[<-p.nl];simp
  obtain⟨na,nc,K,r⟩:=qan p.yr;have Q:=p.box.cell 4 _ rfl;rw[K]at Q;have hrc:=r.cap;have hrl:=r.len;have hlt:=p.box.lt;clear r K p P s1 I;by_cases j:W1.net=[]
  ·have q:¬0<(M.l.length:Int):=by rw[J,j];simp
   go_wp2_with fail
   go_end0;exact⟨rfl,W1,⟨a.out.2.2.2 W1 (.none j),a.out.1,a.out.2.1⟩,a.out.2.2.1⟩
  ·obtain⟨g,z⟩:∃g,W1.net[0]?=some g:=by
        cases hn:W1.net with
        |nil=>exact absurd hn j
        |cons x r=>exact⟨x,rfl⟩
   have q:0<(M.l.length:Int):=by
        have:W1.net.length≠0:=λe=>j (List.eq_nil_of_length_eq_zero e);omega
   have L:Hid (W1.net≠[]/\W1.net[0]?=some g):=⟨j,z⟩
   have R:Hid (∀w',Below wr.heap.size wr w'->Calls Tryz.prog 46 #[.pointer (some ⟨b,0,none⟩),.int .i64 0] w' (q6c w b G W1 0 g)):=λw' hb=>(qy7 (i:=0) w' (o.out.1.later hb) a.out.1.net z).mono λe w2 ⟨x,S,B,m⟩=>⟨x,S,B,m.out.1,m.out.2.1,by
        obtain⟨T,p1,p2,p3⟩:=m.out.2.2;have s:=o.out.2.2.size;have s2:=hb.size
        exact⟨T,p1,λq U=>(p2 q U).elim (o.out.2.1 q) (λr=>.inr (by omega)),(o.out.2.2.trans (qae.ofBelow hb)).more p3 o.out.2.1⟩⟩
   clear J j z
   go_wp2_with fail
   go_region_law (first
      |(refine qb7 rfl 46 rfl #[.pointer (some ⟨b,0,none⟩),.int .i64 0] (by go_simp) (R.out _ (Below.refl _ _).drew) ?_
        rintro e w2 ⟨x,rfl,B,m⟩;refine⟨_,rfl,?_⟩
        have c92:w2.cell? ⟨c,0,none⟩=some (.pointer (some ⟨b,0,none⟩)):=by
         obtain⟨_,_,_,n⟩:=m.out.2.2
         exact E.out w2 n)
      |(refine qb7 rfl 45 rfl #[.pointer (some ⟨b,0,none⟩),.agg (qc4 x).toArray] (by go_simp) (quh a.out.1 a.out.2.1 L.out.2 B m) ?_
        rintro e w3 ⟨rfl,N,u,V⟩
        refine⟨_,rfl,?_⟩))
   all_goals
        have wt:=qiz a.out.1 u.out
        go_wp2_with fail
        go_roundg (qqq N.net)
        case measure=>omega
        case rel=>exact⟨N,Nat.le_refl _,a.out.1.deliver u.out,a.out.2.1.deliver a.out.1 u.out,V,λd X=>a.out.2.2.2 d (.step L.out.1 u.out X)⟩
end
section
variable {w:World} {b:Nat} {G:Nat->Prop} {W:WoS}
theorem RW.len0 (h:RW w b G W):∃a cap,w.cell? ⟨b,0,none⟩=some (.slice a W.n cap)/\b<w.heap.size:=by
 obtain⟨M,g,h,_⟩:=h;obtain⟨d,e,f,r⟩:=qan h.sr;have c:=h.box.cell 0 _ rfl;rw[f]at c;exact⟨d,e,c,h.box.lt⟩
theorem qgi.get {w':World} {c:WoS} (h:qgi w b G c w'):∃a,RW w' b a c:=by
 obtain⟨a,d,_⟩:=h;exact⟨a,d⟩
theorem q3r (w:World) (h:RW w b G W) (N:WfW W) (hN:qjj W):
 Calls Tryz.prog 53 #[.pointer (some ⟨b,0,none⟩)] w λe w'=>e=.returned (.tuple #[])/\∃a,Hid (qk3 W a/\WfW a/\qjj a)/\qgi w b G a w':=by
 have O:=boxed (Below.refl _ w) (.cells #[.pointer (some ⟨b,0,none⟩)] 28);have B:=qag.new (w:=w) (T:=28) (n:=w.heap.size) [.pointer (some ⟨b,0,none⟩)] rfl;change qag (w.alloc (.cells #[.pointer (some ⟨b,0,none⟩)] 28)) w.heap.size [.pointer (some ⟨b,0,none⟩)]at B;have H:=h.lt;have C:Hid (∀w',qae G (w.alloc (.cells #[.pointer (some ⟨b,0,none⟩)] 28)) w'->w'.cell? ⟨w.heap.size,0,none⟩=some (.pointer (some ⟨b,0,none⟩))):=λw' u=>(B.kept (u.block _ B.lt (λe=>by have:=H _ e;omega)) u.size).cell 0 _ rfl;have P:=B.cell 0 _ rfl;have Q:=qt2 _ (h.later O) N hN P (λe=>by have:=H _ e;omega);have N4:Hid (W.n<=4):=N.n4
 have NG:Hid (¬G w.heap.size):=λe=>by have:=H _ e;omega
 have FR:Hid (∀a w',qgi (w.alloc (.cells #[.pointer (some ⟨b,0,none⟩)] 28)) b G a w'->qgi w b G a w'):=λa w' R=>qgi.from O R;obtain⟨j,I⟩:∃j,w.alloc (.cells #[.pointer (some ⟨b,0,none⟩)] 28)=j:=⟨_,rfl⟩;obtain⟨v,S⟩:∃v,w.heap.size=v:=⟨_,rfl⟩
 have BRX:Hid (∀l W1,WfW W1->qjj W1->qgi j b G W1 l->Calls Tryz.prog 95 #[.pointer (some ⟨v,0,none⟩)] l λe w'=>e=.returned (.tuple #[])/\∃a,Hid (qc3 W1 a/\WfW a/\qjj a)/\qgi j b G a w'):=λl W1 h1 h2 R=>by
  obtain⟨G1,a1,a2,a3⟩:=R;have s:=a3.size;rw[<-I]at a2 a3 s ⊢;rw[<-S];refine(qt2 l a1 h1 h2 (C.out l a3) (λe=>?_)).mono λe w' ⟨U,a,hB,x⟩=>⟨U,a,hB,?_⟩
  ·rcases a2 _ e with r|r
   ·exact NG.out r
   ·simp at r;omega
  ·obtain⟨G2,p1,p2,p3⟩:=x;exact⟨G2,p1,λq V=>(p2 q V).elim (a2 q) (λr=>.inr (by omega)),a3.more p3 a2⟩
 rw[I,S]at Q P C;rw[I]at FR;clear h N hN H B NG;go_enter Tryz.func53,Tryz.ntmps53
 go_wp2_with fail
 refine Q.mono ?_;rintro e l ⟨rfl,W1,J,x⟩;have K:Hid (qgi j b G W1 l):=x;obtain⟨G1,P1⟩:=K.out.get;obtain⟨pa,pc,c0,X⟩:=P1.len0;have Y:W1.n=W.n:=J.out.1.keep.n;rw[Y]at c0;have HN:Hid (W1.n=W.n):=Y
 have D:l.cell? ⟨v,0,none⟩=some (.pointer (some ⟨b,0,none⟩)):=by
  obtain⟨_,_,_,u⟩:=K.out;exact C.out l u
 clear Q x Y P1 P I S O
 go_wp2_with fail
 clear c0 D X
 go_loopw [13] (λiv wr=>∃(k:Nat) (z:Int) (p:WoS),k<=W.n/\z=k/\iv=.int .i64 z/\Hid (WfW p/\p.n=W.n/\qfc k W1 p/\qgi j b G p wr/\qjj p)) (λiv _=>W.n-(intOf iv).toNat)
 case atStart=>exact⟨0,0,W1,by omega,rfl,rfl,J.out.2.1,HN.out,.zero,K.out,J.out.2.2⟩
 case round=>
  clear K;obtain⟨k,z,p,hk,Z,rfl,g⟩:=hrel;have E:Hid (z=k):=Z;by_cases hlt:k<W.n
  ·have g1:z<(W.n:Int):=by omega
   have g3:0<=z:=by omega
   have g4:z<4:=by have:=N4.out;omega
   obtain⟨G2,P2⟩:=g.out.2.2.2.1.get;obtain⟨pa2,pc2,c0,X⟩:=P2.len0;rw[g.out.2.1]at c0
   have D:wr.cell? ⟨v,0,none⟩=some (.pointer (some ⟨b,0,none⟩)):=by
        obtain⟨_,_,_,u⟩:=g.out.2.2.2.1;exact C.out wr u
   clear Z P2
   go_wp2_with fail
   clear c0 D X
   go_loopw [21] (λjv wr=>∃(m:Nat) (y:Int) (d:WoS),m<=W.n/\y=m/\jv=.int .i64 y/\Hid (WfW d/\d.n=W.n/\qga k m p d/\qgi j b G d wr/\qjj d)) (λjv _=>W.n-(intOf jv).toNat)
   case atStart=>exact⟨0,0,p,by omega,rfl,rfl,g.out.1,g.out.2.1,.zero,g.out.2.2.2.1,g.out.2.2.2.2⟩
   case round=>
        obtain⟨m,y,d,hm,L,rfl,c⟩:=hrel;have F:Hid (y=m):=L;by_cases hml:m<W.n
        ·have f1:y<(W.n:Int):=by omega
         have f3:0<=y:=by omega
         have f4:y<4:=by have:=N4.out;omega
         have D:wr.cell? ⟨v,0,none⟩=some (.pointer (some ⟨b,0,none⟩)):=by
          obtain⟨_,_,_,u⟩:=c.out.2.2.2.1;exact C.out wr u
         by_cases hmk:m=k
         ·have f5:z=y:=by have:=E.out;omega
          subst f5;clear L
          go_wp2_with fail
          go_roundw
          case rel=>exact⟨m+1,z+1,d,by omega,by have:=F.out;omega,by go_num,c.out.1,c.out.2.1,.self c.out.2.2.1 hmk,c.out.2.2.2⟩
          case measure=>simp[intOf];have:=F.out;omega
         ·have f5:¬z=y:=by have:=E.out;omega
          have AK:Hid (Calls Tryz.prog 43 #[.pointer (some ⟨b,0,none⟩),.int .i64 z,.int .i64 y] wr λe w'=>e=.returned (.tuple #[])/\qgi j b G (quu d k m) w'):=by
           obtain⟨G3,P3,s3,t3⟩:=c.out.2.2.2.1;have:=q20 wr P3 (i:=k) (o:=m) (by rw[c.out.2.1];exact hlt);rw[<-E.out,<-F.out]at this;refine this.mono λe w' ⟨U,x⟩=>⟨U,?_⟩;obtain⟨Gx,p1,p2,p3⟩:=x;have s:=t3.size;exact⟨Gx,p1,λq V=>(p2 q V).elim (s3 q) (λr=>.inr (by omega)),t3.more p3 s3⟩
          have HM:Hid (m≠k/\k<W.n/\m<W.n):=⟨hmk,hlt,hml⟩;clear L hmk
          go_wp2_with fail
          refine AK.out.mono ?_;rintro e w4 ⟨rfl,hP4⟩;have WA:WfW (quu d k m):=c.out.1.send (by show m<d.n;rw[c.out.2.1];exact HM.out.2.2);have NA:qjj (quu d k m):=c.out.2.2.2.2.send (by show 0<=(k:Int)/\(k:Int)<(d.n:Int);rw[c.out.2.1];have:=HM.out.2.1;omega);have BR2:Hid (Calls Tryz.prog 95 #[.pointer (some ⟨v,0,none⟩)] w4 λe w'=>e=.returned (.tuple #[])/\∃a,Hid (qc3 (quu d k m) a/\WfW a/\qjj a)/\qgi j b G a w'):=BRX.out w4 _ WA NA hP4;clear AK WA NA hP4 D
          go_wp2_with fail
          refine BR2.out.mono ?_;rintro e w5 ⟨rfl,W5,M,hP5⟩
          go_wp2_with fail
          go_roundw
          case rel=>exact⟨m+1,y+1,W5,by omega,by have:=F.out;omega,by go_num,M.out.2.1,(M.out.1.keep.n.trans (qbv _ _).n).trans c.out.2.1,.ask c.out.2.2.1 HM.out.1 M.out.1,hP5,M.out.2.2⟩
          case measure=>simp[intOf];have:=F.out;omega
        ·have f1:¬y<(W.n:Int):=by omega
         have e:m=W.n:=by omega
         clear L
         go_wp2_with fail
         go_roundw
         case rel=>exact⟨k+1,z+1,d,by omega,by have:=E.out;omega,by go_num,c.out.1,c.out.2.1,.next g.out.2.2.1 (by rw[g.out.2.1,<-e];exact c.out.2.2.1),c.out.2.2.2⟩
         case measure=>simp[intOf];have:=E.out;omega
  ·have g1:¬z<(W.n:Int):=by omega
   have e:k=W.n:=by omega
   clear Z
   go_wp2_with fail
   go_end0;exact⟨rfl,p,⟨⟨W1,J.out.1,by rw[HN.out,<-e];exact g.out.2.2.1⟩,g.out.1,g.out.2.2.2.2⟩,FR.out _ _ g.out.2.2.2.1⟩
end
theorem q5w (a b c d x y z t:Int) (w:World):(Op.equalIn 10000 47 (.agg #[.int .i64 a,.int .i64 b,.int .i64 c,.int .i64 d]) (.agg #[.int .i64 x,.int .i64 y,.int .i64 z,.int .i64 t])).run Tryz.prog w=.ok (a==x&&b==y&&c==z&&d==t) w:=by
 have i:=Tryz.underlying3;have a3:=Tryz.isAgg3;have j:=Tryz.sizeOf3;rw[show (10000:Nat)=9999+1 from rfl,Op.equalIn];simp only[Sem.run_bind,run_underlying Tryz.underlying47,Result.andThen_ok];simp only[Std.Legacy.Range.forIn_eq_forIn_range',Std.Legacy.Range.size,Nat.sub_zero,Nat.add_sub_cancel,Nat.div_one,List.range'_succ,List.range'_zero,List.forIn_cons,List.forIn_nil]
 go_simp
 by_cases e:a=x<;>by_cases f:b=y<;>by_cases g:c=z<;>by_cases h:d=t<;>simp[e,f,g,h]
section
open Tryz Go.Value Go.IntKind
theorem q33 (a b:Int) (w:World):(binOp .neq 52 (.agg #[int i64 a,int i64 b]) (.agg #[int i64 a,int i64 b])).run prog w=.ok (.bool false) w:=by
 rw[run_neq_struct,qyr];simp[Result.andThen]
theorem q05 (a b c d:Int) (w:World):(binOp .neq 47 (.agg #[int i64 a,int i64 b,int i64 c,int i64 d]) (.agg #[int i64 a,int i64 b,int i64 c,int i64 d])).run prog w=.ok (.bool false) w:=by
 rw[run_neq_struct,q5w];simp[Result.andThen]
theorem q34 (k:Int) (d:ByteArray) (g:Bool) (w:World):(Op.equalIn 10000 34 (.agg #[int i64 k,.string d,.bool g]) (.agg #[int i64 k,.string d,.bool g])).run prog w=.ok true w:=by
 have c:=underlying3;have a3:=Tryz.isAgg3;have e:=Tryz.sizeOf3;have f:=underlying4;have h:=Tryz.isAgg4;have i:=Tryz.sizeOf4;have j:=underlying9;have l:=Tryz.isAgg9;have m:=Tryz.sizeOf9
 have a:prog.underlying 34=some (.struct (prog.fieldsOf 34)):=by kernel_rfl
 have b:prog.stoodInHeld 34=false:=by kernel_rfl
 rw[show (10000:Nat)=9999+1 from rfl,run_equalIn_agg w 9999 34 _ _ a b];simp only[Program.fieldsOf,underlying34]
 go_simp
theorem q3b (k:Int) (d:ByteArray) (g:Bool) (w:World):(binOp .neq 34 (.agg #[int i64 k,.string d,.bool g]) (.agg #[int i64 k,.string d,.bool g])).run prog w=.ok (.bool false) w:=by
 rw[run_neq_struct,q34];simp[Result.andThen]
theorem qtw (site seq wall count d0 d1 d2 d3:Int) (a a2:Option Addr) (cap c:Nat) (l:List Wr) (w:World) (s:qat w a cap l) (u:qat w a2 c l):
 Calls prog 27 #[.agg #[int i64 site,int i64 seq,int i64 wall,int i64 count,int i64 d0,int i64 d1,int i64 d2,int i64 d3,.slice a l.length cap],.agg #[int i64 site,int i64 seq,int i64 wall,int i64 count,int i64 d0,int i64 d1,int i64 d2,int i64 d3,.slice a2 l.length c]] w λe w'=>e=.returned (.bool true)/\Below w.heap.size w w':=by
 have S:=Later.one;have n1:=q33;have T:=q05;have U:=q3b;have hb:=boxed (boxed (Below.refl w.heap.size w) (.cells #[int i64 site,int i64 seq,int i64 wall,int i64 count,int i64 d0,int i64 d1,int i64 d2,int i64 d3,.slice a l.length cap] 80)) (.cells #[int i64 site,int i64 seq,int i64 wall,int i64 count,int i64 d0,int i64 d1,int i64 d2,int i64 d3,.slice a2 l.length c] 80);have o:=s.later hb;have p:=u.later hb
 have c0:((w.alloc (.cells #[int i64 site,int i64 seq,int i64 wall,int i64 count,int i64 d0,int i64 d1,int i64 d2,int i64 d3,.slice a l.length cap] 80)).alloc (.cells #[int i64 site,int i64 seq,int i64 wall,int i64 count,int i64 d0,int i64 d1,int i64 d2,int i64 d3,.slice a2 l.length c] 80)).cell? ⟨w.heap.size,0,none⟩=some (int i64 site):=by go_simp
 have c1:((w.alloc (.cells #[int i64 site,int i64 seq,int i64 wall,int i64 count,int i64 d0,int i64 d1,int i64 d2,int i64 d3,.slice a l.length cap] 80)).alloc (.cells #[int i64 site,int i64 seq,int i64 wall,int i64 count,int i64 d0,int i64 d1,int i64 d2,int i64 d3,.slice a2 l.length c] 80)).cell? ⟨w.heap.size,1,none⟩=some (int i64 seq):=by go_simp
 have c2:((w.alloc (.cells #[int i64 site,int i64 seq,int i64 wall,int i64 count,int i64 d0,int i64 d1,int i64 d2,int i64 d3,.slice a l.length cap] 80)).alloc (.cells #[int i64 site,int i64 seq,int i64 wall,int i64 count,int i64 d0,int i64 d1,int i64 d2,int i64 d3,.slice a2 l.length c] 80)).cell? ⟨w.heap.size,2,none⟩=some (int i64 wall):=by go_simp
 have c3:((w.alloc (.cells #[int i64 site,int i64 seq,int i64 wall,int i64 count,int i64 d0,int i64 d1,int i64 d2,int i64 d3,.slice a l.length cap] 80)).alloc (.cells #[int i64 site,int i64 seq,int i64 wall,int i64 count,int i64 d0,int i64 d1,int i64 d2,int i64 d3,.slice a2 l.length c] 80)).cell? ⟨w.heap.size,3,none⟩=some (int i64 count):=by go_simp
 have v:((w.alloc (.cells #[int i64 site,int i64 seq,int i64 wall,int i64 count,int i64 d0,int i64 d1,int i64 d2,int i64 d3,.slice a l.length cap] 80)).alloc (.cells #[int i64 site,int i64 seq,int i64 wall,int i64 count,int i64 d0,int i64 d1,int i64 d2,int i64 d3,.slice a2 l.length c] 80)).cell? ⟨w.heap.size,4,none⟩=some (int i64 d0):=by go_simp
 have x:((w.alloc (.cells #[int i64 site,int i64 seq,int i64 wall,int i64 count,int i64 d0,int i64 d1,int i64 d2,int i64 d3,.slice a l.length cap] 80)).alloc (.cells #[int i64 site,int i64 seq,int i64 wall,int i64 count,int i64 d0,int i64 d1,int i64 d2,int i64 d3,.slice a2 l.length c] 80)).cell? ⟨w.heap.size,5,none⟩=some (int i64 d1):=by go_simp
 have c6:((w.alloc (.cells #[int i64 site,int i64 seq,int i64 wall,int i64 count,int i64 d0,int i64 d1,int i64 d2,int i64 d3,.slice a l.length cap] 80)).alloc (.cells #[int i64 site,int i64 seq,int i64 wall,int i64 count,int i64 d0,int i64 d1,int i64 d2,int i64 d3,.slice a2 l.length c] 80)).cell? ⟨w.heap.size,6,none⟩=some (int i64 d2):=by go_simp
 have y:((w.alloc (.cells #[int i64 site,int i64 seq,int i64 wall,int i64 count,int i64 d0,int i64 d1,int i64 d2,int i64 d3,.slice a l.length cap] 80)).alloc (.cells #[int i64 site,int i64 seq,int i64 wall,int i64 count,int i64 d0,int i64 d1,int i64 d2,int i64 d3,.slice a2 l.length c] 80)).cell? ⟨w.heap.size,7,none⟩=some (int i64 d3):=by go_simp
 have q:((w.alloc (.cells #[int i64 site,int i64 seq,int i64 wall,int i64 count,int i64 d0,int i64 d1,int i64 d2,int i64 d3,.slice a l.length cap] 80)).alloc (.cells #[int i64 site,int i64 seq,int i64 wall,int i64 count,int i64 d0,int i64 d1,int i64 d2,int i64 d3,.slice a2 l.length c] 80)).cell? ⟨w.heap.size,8,none⟩=some (.slice a l.length cap):=by go_simp
 have B:((w.alloc (.cells #[int i64 site,int i64 seq,int i64 wall,int i64 count,int i64 d0,int i64 d1,int i64 d2,int i64 d3,.slice a l.length cap] 80)).alloc (.cells #[int i64 site,int i64 seq,int i64 wall,int i64 count,int i64 d0,int i64 d1,int i64 d2,int i64 d3,.slice a2 l.length c] 80)).cell? ⟨w.heap.size+1,0,none⟩=some (int i64 site):=by go_simp
 have C:((w.alloc (.cells #[int i64 site,int i64 seq,int i64 wall,int i64 count,int i64 d0,int i64 d1,int i64 d2,int i64 d3,.slice a l.length cap] 80)).alloc (.cells #[int i64 site,int i64 seq,int i64 wall,int i64 count,int i64 d0,int i64 d1,int i64 d2,int i64 d3,.slice a2 l.length c] 80)).cell? ⟨w.heap.size+1,1,none⟩=some (int i64 seq):=by go_simp
 have D:((w.alloc (.cells #[int i64 site,int i64 seq,int i64 wall,int i64 count,int i64 d0,int i64 d1,int i64 d2,int i64 d3,.slice a l.length cap] 80)).alloc (.cells #[int i64 site,int i64 seq,int i64 wall,int i64 count,int i64 d0,int i64 d1,int i64 d2,int i64 d3,.slice a2 l.length c] 80)).cell? ⟨w.heap.size+1,2,none⟩=some (int i64 wall):=by go_simp
 have E:((w.alloc (.cells #[int i64 site,int i64 seq,int i64 wall,int i64 count,int i64 d0,int i64 d1,int i64 d2,int i64 d3,.slice a l.length cap] 80)).alloc (.cells #[int i64 site,int i64 seq,int i64 wall,int i64 count,int i64 d0,int i64 d1,int i64 d2,int i64 d3,.slice a2 l.length c] 80)).cell? ⟨w.heap.size+1,3,none⟩=some (int i64 count):=by go_simp
 have F:((w.alloc (.cells #[int i64 site,int i64 seq,int i64 wall,int i64 count,int i64 d0,int i64 d1,int i64 d2,int i64 d3,.slice a l.length cap] 80)).alloc (.cells #[int i64 site,int i64 seq,int i64 wall,int i64 count,int i64 d0,int i64 d1,int i64 d2,int i64 d3,.slice a2 l.length c] 80)).cell? ⟨w.heap.size+1,4,none⟩=some (int i64 d0):=by go_simp
 have G:((w.alloc (.cells #[int i64 site,int i64 seq,int i64 wall,int i64 count,int i64 d0,int i64 d1,int i64 d2,int i64 d3,.slice a l.length cap] 80)).alloc (.cells #[int i64 site,int i64 seq,int i64 wall,int i64 count,int i64 d0,int i64 d1,int i64 d2,int i64 d3,.slice a2 l.length c] 80)).cell? ⟨w.heap.size+1,5,none⟩=some (int i64 d1):=by go_simp
 have H:((w.alloc (.cells #[int i64 site,int i64 seq,int i64 wall,int i64 count,int i64 d0,int i64 d1,int i64 d2,int i64 d3,.slice a l.length cap] 80)).alloc (.cells #[int i64 site,int i64 seq,int i64 wall,int i64 count,int i64 d0,int i64 d1,int i64 d2,int i64 d3,.slice a2 l.length c] 80)).cell? ⟨w.heap.size+1,6,none⟩=some (int i64 d2):=by go_simp
 have I:((w.alloc (.cells #[int i64 site,int i64 seq,int i64 wall,int i64 count,int i64 d0,int i64 d1,int i64 d2,int i64 d3,.slice a l.length cap] 80)).alloc (.cells #[int i64 site,int i64 seq,int i64 wall,int i64 count,int i64 d0,int i64 d1,int i64 d2,int i64 d3,.slice a2 l.length c] 80)).cell? ⟨w.heap.size+1,7,none⟩=some (int i64 d3):=by go_simp
 have r:((w.alloc (.cells #[int i64 site,int i64 seq,int i64 wall,int i64 count,int i64 d0,int i64 d1,int i64 d2,int i64 d3,.slice a l.length cap] 80)).alloc (.cells #[int i64 site,int i64 seq,int i64 wall,int i64 count,int i64 d0,int i64 d1,int i64 d2,int i64 d3,.slice a2 l.length c] 80)).cell? ⟨w.heap.size+1,8,none⟩=some (.slice a2 l.length c):=by go_simp
 go_enter func27,ntmps27
 go_wp2_with fail
 obtain⟨W,J⟩:∃W,((w.alloc (.cells #[int i64 site,int i64 seq,int i64 wall,int i64 count,int i64 d0,int i64 d1,int i64 d2,int i64 d3,.slice a l.length cap] 80)).alloc (.cells #[int i64 site,int i64 seq,int i64 wall,int i64 count,int i64 d0,int i64 d1,int i64 d2,int i64 d3,.slice a2 l.length c] 80))=W:=⟨_,rfl⟩;rw[J]at c0 c1 c2 c3 v x c6 y q B C D E F G H I r hb o p ⊢;clear J s u
 go_loopw [44] (λiv wr=>∃(k:Nat) (z:Int),k<=l.length/\z=k/\iv=int i64 z/\Below W.heap.size W wr) (λi _=>l.length-(intOf i).toNat)
 case atStart=>exact⟨0,0,by omega,rfl,rfl,Below.refl _ _⟩
 case round=>
  obtain⟨k,z,V,K,rfl,g⟩:=hrel;by_cases h:k<l.length
  ·have X:z<(l.length:Int):=by omega
   have Y:z.toNat=k:=by omega
   have Z:0<=z:=by omega
   have Q:Hid _:=K;clear K;have m:=o.later g;have n:=p.later g;have aa:=m.cap;have ab:=m.len;have ac:=n.cap;have ad:=n.len
   obtain⟨b,j,rfl,L⟩:∃b j,a=some ⟨b,j,none⟩/\qcy wr b j l:=by
        rcases m.held with d|d
        ·rw[d]at h;simp at h
        ·exact d
   obtain⟨b2,off2,rfl,M⟩:∃b j,a2=some ⟨b,j,none⟩/\qcy wr b j l:=by
        rcases n.held with d|d
        ·rw[d]at h;simp at h
        ·exact d
   obtain⟨x0,x1,x2⟩:=L k h;obtain⟨N,O,P⟩:=M k h;replace x0:=Later.cell x0;replace x1:=Later.cell x1;replace x2:=Later.cell x2;replace N:=Later.cell N;replace O:=Later.cell O;replace P:=Later.cell P;have c8':=Later.cell (cell_later g q);have k8':=Later.cell (cell_later g r);clear c0 c1 c2 c3 v x c6 y q B C D E F G H I r L M o p m n
   go_wp2_with fail
   refine qaa (by kernel_rfl) (by kernel_rfl) ?_
   repeat (go_big_quiet_step (fail))
   refine wpQuiet_nil ?_;rintro w5 ⟨⟨_,R⟩,rfl⟩
   go_wp2_with fail
   go_roundw
   case rel=>exact⟨k+1,z+1,by omega,by have:=Q.out;omega,by go_num,qac g R⟩
   case measure=>simp[intOf];omega
  ·go_wp2_with fail
   go_ret;exact⟨rfl,qac hb g⟩
end
theorem qqf (x:Nat->Int) (y:Int) {i:Nat} (n:Nat) (c:i<n):(qf9 x n).set i (.int .i64 y)=qf9 (qb2 x i y) n:=by
 refine List.ext_getElem? λj=>?_;rw[List.getElem?_set];have d:=qlb x n;by_cases a:j<n
 ·rw[qkx a (x:=qb2 x i y)];by_cases q:i=j
  ·subst q;rw[if_pos rfl,if_pos (by omega),qal]
  ·rw[if_neg q,qkx a,qbq _ _ (λe=>q e.symm)]
 ·rw[List.getElem?_eq_none (l:=qf9 (qb2 x i y) n) (by rw[qlb];omega),if_neg (by omega)];exact List.getElem?_eq_none (by omega)
section
variable {w:World} {b g cc i:Nat} {M:RoM} {W:WoS} {Gs:Nat->Nat->Prop}
theorem RWo.setAt (h:RWo w b M W Gs) (l:M.av=.slice (some ⟨g,0,none⟩) W.c cc) (r:i<W.c) (x:Nat):RWo (w.setCell ⟨g,i,none⟩ (.int .i64 x)) b M {W with at_:=qb2 W.at_ i x} Gs/\qae (λk=>k=g) w (w.setCell ⟨g,i,none⟩ (.int .i64 x)):=by
 have t:M.av.ownBlock=some g:=by rw[l];rfl
 have m:(qd5 b M)[4]?=some (some g):=by show some M.av.ownBlock=_;rw[t]
 have p:∀k,k≠g->(w.setCell ⟨g,i,none⟩ (.int .i64 x)).heap[k]?=w.heap[k]?:=λk d=>Below.heap_setCell _ _ _ _ (λe=>d e)
 have f:(w.setCell ⟨g,i,none⟩ (.int .i64 x)).heap.size=w.heap.size:=by simp[World.setCell]
 have row:∀{j:Nat} (_:j≠4) (q:Nat),(qd5 b M)[j]?=some (some q)->(w.setCell ⟨g,i,none⟩ (.int .i64 x)).heap[q]?=w.heap[q]?:=λ{j} a q e=>p q (λu=>qr9 h.ap (i:=4) (j:=j) (λe=>a e.symm) m (by rw[e,u]));have gf:qav b M g:=List.mem_of_getElem? m;have fam:∀j k,j<W.n+W.c->Gs j k->(w.setCell ⟨g,i,none⟩ (.int .i64 x)).heap[k]?=w.heap[k]?:=λj k a e=>p k (λq=>(h.fam.free g gf).2 j a (by rw[<-q];exact e));refine⟨⟨h.box.kept (row (j:=0) (by decide) b rfl) (by rw[f];exact Nat.le_refl _),qad h.sr (λq e=>row (j:=1) (by decide) q (by show some M.sv.ownBlock=_;rw[e])),qad h.wr (λq e=>row (j:=2) (by decide) q (by show some M.wv.ownBlock=_;rw[e])),qad h.cr (λq e=>row (j:=3) (by decide) q (by show some M.cv.ownBlock=_;rw[e])),?_,qad h.yr (λq e=>row (j:=5) (by decide) q (by show some M.yv.ownBlock=_;rw[e])),h.nl,λy v=>(h.gr y v).to (λj k o a e=>⟨e,(h.site a).frozen e,(fam j k (by omega) ((h.site a).frozenG e)).trans ((h.site a).frozen e)⟩),h.fam.to fam (by rw[f];exact Nat.le_refl _) (λk d=>⟨.inl d,by rw[f];exact h.ltF k d⟩),h.ap⟩,qae.setCell _ _ _ rfl⟩;have o:=h.ar;rw[l]at o ⊢;have s:=(o.stored i (.int .i64 x)).1;rw[qqf _ _ _ r]at s
 have e:(λk=>((qb2 W.at_ i x k:Nat):Int))=qb2 (λk=>(W.at_ k:Int)) i (x:Int):=by
  funext k
  unfold qb2
  split<;>rfl
 show World.ownsRow _ 0 _ 1 _ W.c (qf9 (λk=>((qb2 W.at_ i x k:Nat):Int)) W.c);rw[e];exact s
theorem RWo.setWall (h:RWo w b M W Gs) (l:M.wv=.slice (some ⟨g,0,none⟩) W.n cc) (r:i<W.n) (x:Int):RWo (w.setCell ⟨g,i,none⟩ (.int .i64 x)) b M {W with wall:=qb2 W.wall i x} Gs/\qae (λk=>k=g) w (w.setCell ⟨g,i,none⟩ (.int .i64 x)):=by
 have t:M.wv.ownBlock=some g:=by rw[l];rfl
 have m:(qd5 b M)[2]?=some (some g):=by show some M.wv.ownBlock=_;rw[t]
 have p:∀k,k≠g->(w.setCell ⟨g,i,none⟩ (.int .i64 x)).heap[k]?=w.heap[k]?:=λk d=>Below.heap_setCell _ _ _ _ (λe=>d e)
 have f:(w.setCell ⟨g,i,none⟩ (.int .i64 x)).heap.size=w.heap.size:=by simp[World.setCell]
 have row:∀{j:Nat} (_:j≠2) (q:Nat),(qd5 b M)[j]?=some (some q)->(w.setCell ⟨g,i,none⟩ (.int .i64 x)).heap[q]?=w.heap[q]?:=λ{j} a q e=>p q (λu=>qr9 h.ap (i:=2) (j:=j) (λe=>a e.symm) m (by rw[e,u]));have gf:qav b M g:=List.mem_of_getElem? m;have fam:∀j k,j<W.n+W.c->Gs j k->(w.setCell ⟨g,i,none⟩ (.int .i64 x)).heap[k]?=w.heap[k]?:=λj k a e=>p k (λq=>(h.fam.free g gf).2 j a (by rw[<-q];exact e));refine⟨⟨h.box.kept (row (j:=0) (by decide) b rfl) (by rw[f];exact Nat.le_refl _),qad h.sr (λq e=>row (j:=1) (by decide) q (by show some M.sv.ownBlock=_;rw[e])),?_,qad h.cr (λq e=>row (j:=3) (by decide) q (by show some M.cv.ownBlock=_;rw[e])),qad h.ar (λq e=>row (j:=4) (by decide) q (by show some M.av.ownBlock=_;rw[e])),qad h.yr (λq e=>row (j:=5) (by decide) q (by show some M.yv.ownBlock=_;rw[e])),h.nl,λy v=>(h.gr y v).to (λj k o a e=>⟨e,(h.site a).frozen e,(fam j k (by omega) ((h.site a).frozenG e)).trans ((h.site a).frozen e)⟩),h.fam.to fam (by rw[f];exact Nat.le_refl _) (λk d=>⟨.inl d,by rw[f];exact h.ltF k d⟩),h.ap⟩,qae.setCell _ _ _ rfl⟩;have o:=h.wr;rw[l]at o ⊢;have s:=(o.stored i (.int .i64 x)).1;rw[qqf _ _ _ r]at s;exact s
end
end Go.Proofs.YtemiamjnhoeniaaGreatDoor
