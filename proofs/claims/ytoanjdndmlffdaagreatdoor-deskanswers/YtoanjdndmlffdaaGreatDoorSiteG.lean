import Derived.Test.YtoanjdndmlffdaaGreatDoorSiteF
import Derived.Test.YtoanjdndmlffdaaGreatDoorPSesCom
set_option maxHeartbeats 16000000
set_option maxRecDepth 1000000
namespace Go.Proofs.YtoanjdndmlffdaaGreatDoor
section
open Go.RowKit
theorem qlu {b:Nat} {M:RoM} {W:WoS} {S:Nat->Nat->Prop} (w:World) (h:RWo w b M W S) (x:GrR) (hx:x.Ok w W.n M.F) {f i j m o p s t v z B C D E:Int} {a:Option Addr} {n c:Nat} (V:qbj x=[U f,U i,U j,U m,U o,U p,U s,U t,U v,.slice a n c,U z,U B,U C,U D,U E]):
 Ca 82 #[PP b,.agg #[U f,U i,U j,U m,U o,U p,U s,U t,U v,.slice a n c,U z,U B,U C,U D,U E]] w λe w'=>e=.returned (.tuple #[])/\qc5 w b M S (zk W x.g) w':=by
 have H:=hd3 h hx V
 have hlen:M.l.length=W.net.length:=by rw[<-h.nl];simp
 obtain⟨na,nc,J,r⟩:=qq h.yr;have hlt:=h.box.lt;have K:=boxed (jcc _ w) (.cells #[U f,U i,U j,U m,U o,U p,U s,U t,U v,.slice a n c,U z,U B,U C,U D,U E] 108);have I:=h.box.later K;rw[J]at I;have c4:=I.cell 4 _ rfl;have c5:=I.cell 5 _ rfl;have f4:=I.free 4 (by simp);have f5:=I.free 5 (by simp);by_cases X:300<=W.net.length
 ·have q:300<=(M.l.length:Int):=by omega
  have L:Hid (zk W x.g={W with lost:=wrap64 (W.lost+1)}):=if_pos X;go_enter Tryz.func82,Tryz.ntmps82
  go_wp2_with fail
  go_end0;refine⟨rfl,?_⟩;rw[L.out];exact⟨M.yv,M.l,(H.out.1.lostBox (jcc _ w) (wrap64 (W.lost+1))).later (boxed (jcc _ _) _),λ_ e=>.inl e,(qc.setCell _ _ _ (.inl rfl)).trans (qc.ofBelow (boxed (jcc _ _) _))⟩
 have q:¬300<=(M.l.length:Int):=by omega
 have L:Hid (zk W x.g={W with net:=W.net++[x.g]}):=if_neg X
 have Y:Hid (M.l.length<300):=by show _<_;omega
 obtain⟨i0,hi,hz0,hz1,hz2⟩:=info_parts qra;have hb2:=(boxed K.drew (.cells #[U f,U i,U j,U m,U o,U p,U s,U t,U v,.slice a n c,U z,U B,U C,U D,U E] 108));have Z:=qf h.yr (λk e=>K.drew.block k (h.yr.lt k e).2);rw[J]at Z;have N:=hd1 J;have aa:=hd1 h.apY
 have one:∀u∈([U f,U i,U j,U m,U o,U p,U s,U t,U v,.slice a n c,U z,U B,U C,U D,U E]:List Value),u.oneCell'=true:=by rw[<-V];exact qqh x
 have d:=qd.new (w:=w) (T:=108) [U f,U i,U j,U m,U o,U p,U s,U t,U v,.slice a n c,U z,U B,U C,U D,U E] rfl;change qd (w.alloc (.cells #[U f,U i,U j,U m,U o,U p,U s,U t,U v,.slice a n c,U z,U B,U C,U D,U E] 108)) w.heap.size [U f,U i,U j,U m,U o,U p,U s,U t,U v,.slice a n c,U z,U B,U C,U D,U E]at d;have g0:=d.cell 0 _ rfl;have k0:=d.free 0 (by simp);have g1:=d.cell 1 _ rfl;have k1:=d.free 1 (by simp);have g2:=d.cell 2 _ rfl;have k2:=d.free 2 (by simp);have g3:=d.cell 3 _ rfl;have k3:=d.free 3 (by simp);have g4:=d.cell 4 _ rfl;have k4:=d.free 4 (by simp);have g5:=d.cell 5 _ rfl;have k5:=d.free 5 (by simp);have g6:=d.cell 6 _ rfl;have k6:=d.free 6 (by simp);have g7:=d.cell 7 _ rfl;have k7:=d.free 7 (by simp);have g8:=d.cell 8 _ rfl;have k8:=d.free 8 (by simp);have G:=d.cell 9 _ rfl;have k9:=d.free 9 (by simp);have g10:=d.cell 10 _ rfl;have k10:=d.free 10 (by simp);have g11:=d.cell 11 _ rfl;have k11:=d.free 11 (by simp);have g12:=d.cell 12 _ rfl;have k12:=d.free 12 (by simp);have g13:=d.cell 13 _ rfl;have k13:=d.free 13 (by simp);have g14:=d.cell 14 _ rfl;have k14:=d.free 14 (by simp);go_enter Tryz.func82,Tryz.ntmps82
 go_wp2_with fail
 go_region_law (refine step_append_lies _ rfl (.tmp 21) (.tmp 23) 72 rfl 0 108 i0 (.agg #[U 0,U 0,U 0,U 0,U 0,U 0,U 0,U 0,U 0,.slice none 0 0,U 0,U 0,U 0,U 0,U 0]) 15 136 Tryz.underlying72 hi hz0 hz1 hz2 rfl (by decide) (.slice na M.l.length nc) M.l.length (qcm M.l) (by simp[Act.eval]) (Z.alloc _) (AD (w.heap.size+1) 0) 1 1 [U f,U i,U j,U m,U o,U p,U s,U t,U v,.slice a n c,U z,U B,U C,U D,U E] (by simp[Act.eval]) rfl (qpn _ _ (by simp) [U f,U i,U j,U m,U o,U p,U s,U t,U v,.slice a n c,U z,U B,U C,U D,U E] 108) one (by decide) (by have:=Y.out;simp only[maxLen];omega) (by have:=Y.out;omega) (by omega) _ rfl ?_
                intro G O wE ownE grE egE ltE;have P:qd wE b _:=(I.later (boxed (jcc _ _) _).drew).grown grE (λe=>aa.out (by rw[N.out];exact e.symm));have e4:=P.cell 4 _ rfl
                have f4E:=P.free 4 (by simp))
 all_goals
  go_wp2_with fail
  go_end0;refine⟨rfl,?_⟩;rw[L.out];have Q:=((qc.ofBelow hb2).trans (qc.grown (F:=λk=>k=b\/M.yv.ownBlock=some k) grE (λk e=>.inr (by rw[N.out];exact e)))).trans (qc.setCell wE (AD b 4) (.slice (PT G) (M.l.length+1) O) (.inl rfl))
  have R:∀k,(Value.slice (PT G) (M.l.length+1) O).ownBlock=some k->M.yv.ownBlock=some k\/w.heap.size<=k:=λk e=>by
   rw[N.out];have e':G=k:=jcu e;subst e';rcases egE with e|e
   ·exact .inl e
   exact .inr (by rw[e];simp;omega)
  have gb:G≠b:=λe=>by
   rcases R G rfl with q|q
   ·exact aa.out (by rw[q,e])
   have:=H.out.1.box.lt;omega
  refine⟨.slice (PT G) (M.l.length+1) O,M.l++[x],H.out.1.reway (λk hk h1 h2=>Q.block k hk (λq=>q.elim h1 h2)) Q.size ?_ ?_ R (by rw[jdb,H.out.1.nl];rfl) (λy hy=>(jcf.1 hy).imp id (λq=>by rw[jcj.1 q];exact H.out.2.1)),R,Q⟩
  ·exact P.set 4 _ (by simp)
  rw[q1k,jcl,H.out.2.2];exact qf ownE (λk e=>jce _ _ _ _ (λq=>gb ((jcu e).trans q)))
end
section
open Go.RowKit
variable {i:Nat} {G:Nat->Prop}
section
variable {w:World} {b:Nat} {M:RoM} {W:WoS} {Gs:Nat->Nat->Prop}
theorem RWo.sitesAt (h:RWo w b M W Gs) (hi:i<W.n):∃g cap,w.cell? (AD b 0)=some (.slice (PT g) W.n cap)/\W.n<=cap/\g<w.heap.size/\∀j,j<W.n->w.cell? (AD g j)=some (PP (M.bp j)):=by
 obtain⟨a,cap,c,r⟩:=qq h.sr;rcases r.held with k|⟨g,rfl,d,e⟩
 ·omega
 exact⟨g,cap,by have:=h.box.cell 0 _ rfl;rw[c]at this;exact this,r.len,d,λj f=>e j _ (qn4 f)⟩
theorem RS.applied {F:Nat->Option Obj} {S:qe} (h:RS w b G F S):w.cell? (AD b 1)=some (U S.a0)/\w.cell? (AD b 2)=some (U S.a1)/\w.cell? (AD b 3)=some (U S.a2)/\w.cell? (AD b 4)=some (U S.a3)/\b<w.heap.size:=by
 obtain⟨_,_,_,_,_,a,_⟩:=h;exact⟨a.box.cell 1 _ rfl,a.box.cell 2 _ rfl,a.box.cell 3 _ rfl,a.box.cell 4 _ rfl,a.box.lt⟩
end
variable {b:Nat} {W:WoS}
theorem q5z (w:World) (h:RW w b G W) {o:Nat} (hi:i<W.n):
 Ca 36 #[PP b,U i,U o] w λe w'=>e=.returned (.tuple #[])/\qae w b G (qme W i o) w':=by
 obtain⟨M,Gs,h,d⟩:=h;obtain⟨g,cap,q,r,s,f⟩:=h.sitesAt hi;have t:=f i hi;obtain⟨a0,a1,a2,a3,u⟩:=(h.site hi).applied
 have v:(i:Int)<(W.n:Int):=by omega
 have x:=h.box.lt;have j:=qlu w h ⟨⟨o,.ask i (W.S i).a0 (W.S i).a1 (W.S i).a2 (W.S i).a3⟩,none,0⟩ ⟨⟨jcd _,jcw _,.inl rfl⟩,λk l=>absurd rfl l.1,λ_ _ _ _ _ _=>⟨rfl,rfl⟩⟩ rfl;have m:=hd1 d;go_enter Tryz.func36,Tryz.ntmps36
 go_wp2_with fail
 refine j.mono ?_;rintro e y ⟨rfl,p⟩
 go_wp2_with fail
 go_end0;have a:=yb W ⟨o,.ask i (W.S i).a0 (W.S i).a1 (W.S i).a2 (W.S i).a3⟩;exact⟨rfl,p.post (W:=W) m.out a.n a.c⟩
theorem q4u (w:World) (h:RW w b G W) {g:GrS} (hi:W.net[i]?=some g):
 Ca 39 #[PP b,U i] w λe w'=>e=.returned (.tuple #[])/\qae w b G (zk W g) w':=by
 obtain⟨M,Gs,h,m⟩:=h
 have E:M.l.length=W.net.length:=by rw[<-h.nl];simp
 have o:i<M.l.length:=by have:=(jck.1 hi).1;omega
 obtain⟨x,d⟩:∃x,M.l[i]?=some x:=⟨_,jcg o⟩
 have p:x.g=g:=by
  have:=hi;rw[<-h.nl,jcv,d]at this;exact jcu this
 subst p;have q:=jcq d;obtain⟨s,F,t,r⟩:=qq h.yr
 obtain⟨v,rfl,H,y⟩:∃g,s=some (AD g 0)/\g<w.heap.size/\∀j u,(qcm M.l)[j]?=some u->w.cell? (AD g j)=some u:=by
  rcases r.held with f|f
  ·omega
  exact f
 have z:=h.box.cell 4 _ rfl;rw[t]at z;have a:=λr u (hu:(qbj x)[r]?=some u)=>y _ _ (qyc d hu);have x0:w.cell? (AD v (i*15))=some (U x.g.to):=a 0 _ rfl;have x1:=a 1 _ rfl;have x2:=a 2 _ rfl;have x3:=a 3 _ rfl;have I:=a 4 _ rfl;have J:=a 5 _ rfl;have K:=a 6 _ rfl;have L:=a 7 _ rfl;have N:=a 8 _ rfl;have O:=a 9 _ rfl;have P:=a 10 _ rfl;have Q:=a 11 _ rfl;have R:=a 12 _ rfl;have S:=a 13 _ rfl;have T:=a 14 _ rfl;have B:=qlu w h x (h.gr x q) rfl;have C:=hd1 m;have V:=h.box.lt
 have X:(i:Int)<(M.l.length:Int):=by omega
 have Y:=r.len;go_enter Tryz.func39,Tryz.ntmps39
 go_wp2_with fail
 refine B.mono ?_;rintro e Z ⟨rfl,D⟩
 go_wp2_with fail
 go_end0;have k:=yb W x.g;exact⟨rfl,D.post (W:=W) C.out k.n k.c⟩
end
section
open Go.RowKit
structure qhz (w:World) (a:Option Addr) (cap:Nat) (l:List GrR):Prop where
 len:l.length<=cap
 cap:cap<=9223372036854775807
 held:l=[]\/∃b off,a=some (AD b off)/\∀i m r u,l[i]?=some m->(qbj m)[r]?=some u->w.cell? (AD b (off+(i*15+r)))=some u
variable {w:World} {a:Option Addr} {l:List GrR}
theorem qhz.later {w':World} {cap:Nat} (d:Bw w w') (h:qhz w a cap l):qhz w' a cap l:=
 ⟨h.len,h.cap,h.held.elim .inl λ⟨b,f,e,c⟩=>.inr ⟨b,f,e,λi m r u hi j=>cell_later d (c i m r u hi j)⟩⟩
theorem q1n {B:Nat} {T:TypeId} {v:Value} (h:w.ownsRow B T 15 v l.length (qcm l)):∃a cap,v=.slice a l.length cap/\qhz w a cap l:=by
 rcases h.2 with ⟨rfl,b⟩|⟨g,cap,cur,rfl,k,o,e,f,p,q⟩
 ·exact⟨none,0,by rw[b],⟨by omega,by omega,.inl (jc2 b)⟩⟩
 refine⟨_,cap,rfl,⟨e,by simp only[maxLen]at f;omega,.inr ⟨g,0,rfl,λi m r u hi j=>?_⟩⟩⟩;have d:=h.cells (g:=g) rfl _ _ (qyc hi j);rw[qal]at d;rw[Nat.zero_add];exact d
theorem q5y (l:List GrR):∀u∈qcm l,u.oneCell'=true:=by
 intro u b;obtain⟨x,_,d⟩:=List.mem_flatMap.1 b;exact qqh x u d
theorem qv0:∀(l:List GrR) (j:Nat) (u:Value),(qcm l)[j]?=some u->∃m,l[j/15]?=some m/\(qbj m)[j%15]?=some u
 |[],j,u,h=>by simp[qcm]at h
 |x::l,j,u,h=>by
  have e:qcm (x::l)=qbj x++qcm l:=rfl;rw[e]at h;have b:(qbj x).length=15:=rfl;by_cases d:j<15
  ·rw[jc3 (by rw[b];exact d)]at h;exact⟨x,by rw[Nat.div_eq_of_lt d];rfl,by rw[Nat.mod_eq_of_lt d];exact h⟩
  rw[jc0 (by rw[b];omega),b]at h;obtain⟨m,f,i⟩:=qv0 l (j-15) u h;refine⟨m,?_,?_⟩
  ·rw[show j/15=(j-15)/15+1 by omega];simpa using f
  rw[show j%15=(j-15)%15 by omega];exact i
variable {wb:Nat}
theorem q41 {b:Nat} (h:∀i m r u,l[i]?=some m->(qbj m)[r]?=some u->w.cell? (AD wb (b+(i*15+r)))=some u):∀j u,(qcm l)[j]?=some u->w.cell? (((AD wb b):Addr).add j)=some u:=λj u d=>by
 obtain⟨m,e,f⟩:=qv0 l j u d
 have k:((AD wb b):Addr).add j=(AD wb (b+j)):=by unfold Addr.add;split<;>simp_all
 rw[k];have:=h (j/15) m (j%15) u e f;rw[show j/15*15+j%15=j by omega]at this;exact this
theorem qmr (w:World) (b:TypeId) (g n cap c:Nat) (d:n<=cap):(Builtin.append_ #[72,72] b #[.slice (PT g) n cap,.slice none 0 c]).run Tryz.prog w=.ok (.slice (PT g) n cap) w:=by
 simp[Builtin.append_,go_sem,Builtin.lenOf,Builtin.firstCells,d]
variable {g n c:Nat} {xs:List Value}
theorem qpb (w:World) (f:TypeId) {cap:Nat} (b:w.ownsRow 0 108 15 (.slice (PT g) n cap) n xs) (m:qhz w a c l) (E:n+l.length<=2000):
 ∃g' d w',(Builtin.append_ #[72,72] f #[.slice (PT g) n cap,.slice a l.length c]).run Tryz.prog w=.ok (.slice (PT g') (n+l.length) d) w'/\
  w'.ownsRow 0 108 15 (.slice (PT g') (n+l.length) d) (n+l.length) (xs++qcm l)/\w.grownBy w' (some g)/\(g'=g\/g'=w.heap.size)/\g'<w'.heap.size:=by
 obtain⟨o,hi,p,q,r⟩:=info_parts qra;have s:=(b.lt g (by simp[Value.ownBlock])).2
 have t:n<=cap:=by
  rcases b.2 with ⟨h,_⟩|⟨F,G,cur,e,_,_,i,_⟩
  ·cases h
  injection e with _ _ e3;rw[e3];exact i
 cases a with
 |none=>
  have v:l=[]:=by
   rcases m.held with h|⟨_,_,h,_⟩
   ·exact h
   cases h
  subst v;refine⟨g,cap,w,qmr w f g n cap c t,?_,⟨rfl,rfl,rfl,jcd _,λ_ _ _=>rfl⟩,.inl rfl,s⟩;show w.ownsRow 0 _ 15 _ n (xs++[]);rw[jdx];exact b
 |some ad=>
  have x:∀j u,(qcm l)[j]?=some u->w.cell? (ad.add j)=some u:=by
   rcases m.held with h|⟨wb,H,h,y⟩
   ·subst h;intro j u z;simp[qcm]at z
   injection h with h;subst h;exact q41 y
  obtain⟨v',w',B,k,i,C,D⟩:=run_append_own_at (P:=Tryz.prog) w 0 72 f 108 o (.agg #[U 0,U 0,U 0,U 0,U 0,U 0,U 0,U 0,U 0,.slice none 0 0,U 0,U 0,U 0,U 0,U 0]) 15 136 Tryz.underlying72 hi p q r rfl (by decide) (.slice (PT g) n cap) n xs b ad l.length c (qcm l) (quf l) x (q5y l) (by simp only[maxLen];omega) (by omega) (jcw _);rcases k.2 with ⟨e,_⟩|⟨g',d,cur,rfl,_,_⟩
  ·have:=(C.1 e).1;cases this
  refine⟨g',d,w',B,k,i,?_,(k.lt g' (by simp[Value.ownBlock])).2⟩;rcases D with h|h
  ·exact .inl (by simpa[Value.ownBlock]using h)
  exact .inr (by simpa[Value.ownBlock]using h)
theorem qdk {d:Array Oper} {o:Oper} {a:Act} {K:Act->World->Prop} {Q:Exit->Act->World->Prop} {E:Prop} (w:World) (e:o.guard=none) (s x:Operand) (f:o.op=.call {callee:=.builtin .append,args:=#[s,x],argTypes:=#[72,72]})
 {cap:Nat} (i:a.eval s=.slice (PT g) n cap) (j:w.ownsRow 0 108 15 (.slice (PT g) n cap) n xs) {sa:Option Addr} (k:a.eval x=.slice sa l.length c) (m:qhz w sa c l) (p:n+l.length<=2000)
 (h:∀g' b w',w'.ownsRow 0 108 15 (.slice (PT g') (n+l.length) b) (n+l.length) (xs++qcm l)->w.grownBy w' (some g)->(g'=g\/g'=w.heap.size)->g'<w'.heap.size->K (a.put o.dst (.slice (PT g') (n+l.length) b)) w'):
 if Region.wanted o (yielded d a.tmps)=true then Oper.wp Tryz.prog o a w K Q else E:=by
 have q:Region.wanted o (yielded d a.tmps)=true:=by simp[Region.wanted,e]
 rw[if_pos q];obtain⟨g',b,w',r,t,u,v,y⟩:=qpb w o.type j m p;unfold Oper.wp execOp;simp only[f,resolve,invoke,builtin,Sem.run_bind,Sem.run_pure,Result.andThen_ok,List.map_toArray,List.map_cons,List.map_nil,i,k,r];exact h g' b w' t u v y
theorem qop (w:World) (T:TypeId) (b:w.heap.size=n):(w.alloc (.cells #[] T)).ownsRow 0 T 15 (.slice (PT n) 0 0) 0 []:=by
 subst b;exact⟨rfl,.inr ⟨w.heap.size,0,#[],rfl,jcw _,heap_alloc_new w (.cells #[] T),jcd _,by decide,rfl,rfl⟩⟩
theorem qhz.take {d:Nat} (h:qhz w (some (AD wb d)) c l) (k:Nat) (s:k<=l.length):qhz w (some (AD wb d)) c (l.take k):=by
 refine⟨by rw[jc5];have:=h.len;omega,h.cap,?_⟩;rcases h.held with f|⟨j,o,e,p⟩
 ·exact .inl (by rw[f];simp)
 refine .inr ⟨j,o,e,λi m r u b q=>p i m r u ?_ q⟩;rw[List.getElem?_take]at b;split at b
 ·exact b
 cases b
theorem qhz.drop {b:Nat} (h:qhz w (some (AD wb b)) c l) (k:Nat) (p:k<=l.length):qhz w (some (AD wb (b+k*15))) (c-k) (l.drop k):=by
 refine⟨by rw[jdt];have:=h.len;omega,by have:=h.cap;omega,?_⟩;rcases h.held with f|⟨q,s,e,j⟩
 ·exact .inl (by rw[f];simp)
 injection e with e;injection e with e1 e2;subst e1 e2;refine .inr ⟨_,_,rfl,λi m r u d o=>?_⟩;rw[List.getElem?_drop]at d;have:=j (k+i) m r u d o;rw[show b+k*15+(i*15+r)=b+((k+i)*15+r) by omega];exact this
theorem qwo (l b:List GrR):qcm (l++b)=qcm l++qcm b:=by simp[qcm]
end
section
open Go.RowKit
def qgi (b:Nat):World->Nat->List Value->World
 |W,_,[]=>W
 |W,j,v::l=>qgi b (W.setCell (AD b j) v) (j+1) l
theorem qnb {b:Nat}:∀(l a rest:List Value) (W:World),qd W b (a++rest)->rest.length=l.length->qd (qgi b W a.length l) b (a++l)
 |[],a,rest,W,h,hl=>by
  have:rest=[]:=jc2 hl;subst this;exact h
 |v::l,a,[],W,h,hl=>by simp at hl
 |v::l,a,r::rest,W,h,hl=>by
  have c:=h.set a.length v (by simp)
  have e:(a++r::rest).set a.length v=a++v::rest:=by simp
  rw[e]at c;have:=qnb l (a++[v]) rest (W.setCell (AD b a.length) v) (by simpa using c) (by simpa using hl);simpa[qgi]using this
variable {b:Nat} {W:World}
theorem qyw {xs l:List Value} (h:qd W b xs) (a:xs.length=l.length):qd (qgi b W 0 l) b l:=qnb l [] xs W h a
theorem qf4 {k:Nat} (a:k≠b):∀(l:List Value) (j:Nat) (W:World),(qgi b W j l).heap[k]?=W.heap[k]?
 |[],_,_=>rfl
 |_::l,j,_=>(qf4 a l (j+1) _).trans (jce _ _ _ _ a)
theorem qjm {b:Nat}:∀(l:List Value) (j:Nat) (W:World),(qgi b W j l).os=W.os/\(qgi b W j l).tape=W.tape/\(qgi b W j l).output=W.output/\(qgi b W j l).heap.size=W.heap.size
 |[],_,_=>⟨rfl,rfl,rfl,rfl⟩
 |v::l,j,W=>by
  have h:=qjm (b:=b) l (j+1) (W.setCell (AD b j) v);exact⟨h.1,h.2.1,h.2.2.1,h.2.2.2.trans (by simp[World.setCell])⟩
theorem ql1 {F:Nat->Prop} {w:World} (h:qc F w W) (d:w.heap.size<=b) (l:List Value):qc F w (qgi b W 0 l):=by
 have s:=qjm (b:=b) l 0 W;exact⟨s.1.trans h.os,s.2.1.trans h.tape,s.2.2.1.trans h.output,by rw[s.2.2.2];exact h.size,λk a c=>(qf4 (by omega) l 0 W).trans (h.block k a c)⟩
section
variable {w W9:World} {b:Nat} {M:RoM} {W:WoS} {Gs:Nat->Nat->Prop}
theorem RWo.outed (h:RWo w b M W Gs) {a:Value} {i:Nat} (c:qc (λk=>k=b) w W9) (d:qd W9 b [M.sv,M.wv,M.cv,M.av,a,U W.lost]) (own:W9.ownsRow 0 108 15 a (M.l.eraseIdx i).length (qcm (M.l.eraseIdx i))) (f:∀k,a.ownBlock=some k->w.heap.size<=k):
 RWo W9 b {M with yv:=a,l:=M.l.eraseIdx i} (qai W i) Gs:=
 h.reway (λk g j _=>c.block k g j) c.size d own (λk e=>.inr (f k e)) (by rw[<-h.nl,jdf,jdf,jdb,List.map_take,List.map_drop]) (λx m=>.inl (jdn m))
end
end
section
open Go.RowKit
theorem qfg {w w':World} {p:Addr} (a:Bw w w') (h:w.frozen? p=false) (b:p.block<w.heap.size):w'.frozen? p=false:=by rw[a.frozen b];exact h
def jaj (w:World) (b:Nat) (l:List GrR) (w':World):Prop:=∃g c w7,w'=w7.setCell (AD b 4) (.slice (PT g) l.length c)/\Bw w w7/\w.heap.size<=g/\w7.ownsRow 0 108 15 (.slice (PT g) l.length c) l.length (qcm l)
noncomputable def jbr:Code:=((Tryz.f38.body.bind (qa0 2)).getD .skip)
theorem q3o {b i p q r:Nat} {l:List GrR} {M N O P Q S T V W X Y y13 y14 y15 y16 y17 y18 y19 y20 y21 y22 y23 y24 y25 y26 y27 y28 y29 y30 y31 Z:Value} (a:World) (t:a.cell? (AD b 4)=some (.slice (some (AD p q)) l.length r)) (w:a.frozen? (AD b 4)=false) (x:qhz a (some (AD p q)) r l) (hil:i<l.length) (hl:l.length<=300) (R:Act->World->Prop)
 (hR:∀(u13 u14 u15 u16 u17 u18 u19 u20 u21 u22 u23 u24 u25 u26 u27 u28 u29 u30 u31:Value) (w8:World),jaj a b (l.eraseIdx i) w8->R ⟨List.toArray ((PP b)::(U i)::M::N::O::P::Q::S::T::V::W::X::Y::u13::u14::u15::u16::u17::u18::u19::u20::u21::u22::u23::u24::u25::u26::u27::u28::u29::u30::u31::Z::[]),[]⟩ w8):
 Code.wp Tryz.prog jbr (Exit.then R (λ_ _ _=>False)) ⟨List.toArray ((PP b)::(U i)::M::N::O::P::Q::S::T::V::W::X::Y::y13::y14::y15::y16::y17::y18::y19::y20::y21::y22::y23::y24::y25::y26::y27::y28::y29::y30::y31::Z::[]),[]⟩ a:=by
 have HR:Hid _:=hR;clear hR;have z:=hd1 x;have y:b<a.heap.size:=jcr _ _ t;have hrl:=x.len;have hrc:=x.cap;have u:=hd1 hl
 have q1:(i:Int)<(l.length:Int):=by omega
 have j2:(i:Int)<=(l.length:Int):=by omega
 have j4:((i:Int)+1)<=(l.length:Int):=by omega
 have j5:(0:Int)<=(i:Int)+1:=by omega
 have j6:((i:Int)+1).toNat=i+1:=by omega
 have j7:(i:Int)<=(r:Int):=by omega
 have j8:(0:Int)<=(i:Int):=by omega
 have hwz:IntKind.i64.wrap ((i:Int)+1)=(i:Int)+1:=by have:=u.out;unfold IntKind.wrap;simp[IntKind.signed,IntKind.bits];omega
 have B:=hd1 hil
 have FIN:Hid (∀f s k m,m=0+(l.take i).length+(l.drop (i+1)).length->Bw a k->a.heap.size<=f->k.ownsRow 0 108 15 (.slice (PT f) (0+(l.take i).length+(l.drop (i+1)).length) s) (0+(l.take i).length+(l.drop (i+1)).length) ([]++qcm (l.take i)++qcm (l.drop (i+1)))->jaj a b (l.eraseIdx i) (k.setCell (AD b 4) (.slice (PT f) m s))):=λf s k m hm h hg ho=>by
  have hN:0+(l.take i).length+(l.drop (i+1)).length=(l.eraseIdx i).length:=by rw[jdf];simp<;>omega
  rw[hN]at hm ho;subst hm;refine⟨f,s,k,rfl,h,hg,?_⟩
  have e:qcm (l.eraseIdx i)=[]++qcm (l.take i)++qcm (l.drop (i+1)):=by rw[jdf,qwo];rfl
  rw[e];exact ho
 clear x hl
 conv=>arg 2;whnf
 by_cases hvz:r=i+1
 ·subst hvz
  have j9:(i:Int)<=(i:Int)+1:=by omega
  go_region_law (first
   |(refine qdk _ rfl (.tmp 14) (.tmp 20) rfl (g:=a.heap.size) (n:=0) (cap:=0) (xs:=[]) (by simp[Act.eval,Act.put]) (qop a 108 rfl) (sa:=some (AD p q)) (c:=i+1) (l:=l.take i) (by simp[Act.eval,Act.put]<;>omega) ((z.out.take i (by have:=B.out;omega)).later (by repeat (first|(with_reducible assumption)|(with_reducible exact jcc _ _)|(with_reducible refine boxed ?_ _)|(with_reducible refine jc6 ?_)))) (by have:=u.out;simp;omega) ?_
     intro C c1_ D E F G H;have v:=hd2 (show a.heap.size<=C from by simp at G;omega) H;have d:Bw a D:=jd0 (by repeat (first|(with_reducible assumption)|(with_reducible exact jcc _ _)|(with_reducible refine boxed ?_ _)|(with_reducible refine jc6 ?_))) F (by simp<;>omega) (λj o=>by simp at o;omega);have c46:=cell_later d t
     have f46:=qfg d w y)
   |(refine qdk _ rfl (.tmp 21) (.tmp 28) rfl (by simp[Act.eval,Act.put]) E (sa:=some (AD p q)) (c:=0) (l:=l.drop (i+1)) (by simp[Act.eval,Act.put]<;>omega) (⟨by simp;omega,by omega,.inl (jdw (by omega))⟩) (by have:=u.out;simp;omega) ?_
     intro f s k I J eg7 K;have h:=jd0 d J d.size (λj o=>by have:=v.out;simp at o;omega);have L:=hd2 (show a.heap.size<=f from by have:=v.out;have:=d.size;omega) K;have c47:=cell_later h t
     have f47:=qfg h w y))
  all_goals
   go_simp
   refine HR.out _ _ _ _ _ _ _ _ _ _ _ _ _ _ _ _ _ _ _ _ ?_;exact FIN.out _ _ _ _ (by simp<;>omega) h L.out.1 I
 skip
 go_region_law (first
  |(refine qdk _ rfl (.tmp 14) (.tmp 20) rfl (g:=a.heap.size) (n:=0) (cap:=0) (xs:=[]) (by simp[Act.eval,Act.put]) (qop a 108 rfl) (sa:=some (AD p q)) (c:=r) (l:=l.take i) (by simp[Act.eval,Act.put]<;>omega) ((z.out.take i (by have:=B.out;omega)).later (by repeat (first|(with_reducible assumption)|(with_reducible exact jcc _ _)|(with_reducible refine boxed ?_ _)|(with_reducible refine jc6 ?_)))) (by have:=u.out;simp;omega) ?_
    intro C c1_ D E F G H;have v:=hd2 (show a.heap.size<=C from by simp at G;omega) H;have d:Bw a D:=jd0 (by repeat (first|(with_reducible assumption)|(with_reducible exact jcc _ _)|(with_reducible refine boxed ?_ _)|(with_reducible refine jc6 ?_))) F (by simp<;>omega) (λj o=>by simp at o;omega);have c46:=cell_later d t
    have f46:=qfg d w y)
  |(refine qdk _ rfl (.tmp 21) (.tmp 28) rfl (by simp[Act.eval,Act.put]) E (sa:=some (AD p (q+(i+1)*15))) (c:=r-(i+1)) (l:=l.drop (i+1)) (by simp[Act.eval,Act.put]<;>omega) ((z.out.drop (i+1) (by have:=B.out;omega)).later d) (by have:=u.out;simp;omega) ?_
    intro f s k I J eg7 K;have h:=jd0 d J d.size (λj o=>by have:=v.out;simp at o;omega);have L:=hd2 (show a.heap.size<=f from by have:=v.out;have:=d.size;omega) K;have c47:=cell_later h t
    have f47:=qfg h w y))
 all_goals
  go_simp
  refine HR.out _ _ _ _ _ _ _ _ _ _ _ _ _ _ _ _ _ _ _ _ ?_;exact FIN.out _ _ _ _ (by simp<;>omega) h L.out.1 I
end
section
open Go.RowKit
variable {y0 y1 y2 y3 y4 y5 y6 y7 y8 z0 z1 z2 z3 z4:Int} {a:Option Addr} {n c:Nat}
theorem qus {tmps:Array Value} {w:World} {g:Nat} (h:qd w g [U y0,U y1,U y2,U y3,U y4,U y5,U y6,U y7,U y8,.slice a n c,U z0,U z1,U z2,U z3,U z4]) (b:tmps[4]?=some (PP g)):(results Tryz.f38 tmps).run Tryz.prog w=.ok (.agg #[U y0,U y1,U y2,U y3,U y4,U y5,U y6,U y7,U y8,.slice a n c,U z0,U z1,U z2,U z3,U z4]) w:=by
 obtain⟨d,e,f,i,j,k,l,m,o,p,q,r,s,t,u⟩:=h.c15;simp[results,Tryz.results38,go_sem,b,d,e,f,i,j,k,l,m,o,p,q,r,s,t,u]
theorem q95 {b:Nat} {M:RoM} {W:WoS} {L:Nat->Nat->Prop} (w:World) (h:RWo w b M W L) (hn:W.net.length<=300) {i:Nat} {x:GrR} (D:M.l[i]?=some x) (X:qbj x=[U y0,U y1,U y2,U y3,U y4,U y5,U y6,U y7,U y8,.slice a n c,U z0,U z1,U z2,U z3,U z4]):
 Ca 38 #[PP b,U i] w λe w'=>e=.returned (.agg #[U y0,U y1,U y2,U y3,U y4,U y5,U y6,U y7,U y8,.slice a n c,U z0,U z1,U z2,U z3,U z4])/\∃N,RWo w' b {M with yv:=N,l:=M.l.eraseIdx i} (qai W i) L/\(∀k,N.ownBlock=some k->w.heap.size<=k)/\qc (λk=>k=b) w w':=by
 have hlen:M.l.length=W.net.length:=by rw[<-h.nl];simp
 have E:=(jck.1 D).1;obtain⟨Y,vc,Z,r⟩:=q1n h.yr
 obtain⟨F,v,rfl,aa⟩:∃g v,Y=some (AD g v)/\∀i m r u,M.l[i]?=some m->(qbj m)[r]?=some u->w.cell? (AD g (v+(i*15+r)))=some u:=by
  rcases r.held with G|G
  ·rw[G]at E;simp at E
  exact G
 have O:=h.box.cell 4 _ rfl;have f4:=h.box.free 4 (by simp);rw[Z]at O;have f:=λr u (hu:[U y0,U y1,U y2,U y3,U y4,U y5,U y6,U y7,U y8,.slice a n c,U z0,U z1,U z2,U z3,U z4][r]?=some u)=>(show w.cell? (AD F (v+i*15+r))=some u by rw[Nat.add_assoc];exact aa i x r u D (by rw[X];exact hu));have x0:w.cell? (AD F (v+i*15))=some (U y0):=f 0 _ rfl;have x1:=f 1 _ rfl;have x2:=f 2 _ rfl;have x3:=f 3 _ rfl;have x4:=f 4 _ rfl;have x5:=f 5 _ rfl;have x6:=f 6 _ rfl;have x7:=f 7 _ rfl;have x8:=f 8 _ rfl;have x9:=f 9 _ rfl;have x10:=f 10 _ rfl;have x11:=f 11 _ rfl;have x12:=f 12 _ rfl;have x13:=f 13 _ rfl;have x14:=f 14 _ rfl;have hlt:=h.box.lt;have hblt:F<w.heap.size:=jcr _ _ x0
 have q1:(i:Int)<(M.l.length:Int):=by omega
 have y:=hd4 h D r (show M.l.length<=300 from by omega);have hrl:=r.len;have hrc:=r.cap;go_enter Tryz.func38,Tryz.ntmps38
 go_wp2_with fail
 obtain⟨p,z⟩:∃p,((w.alloc (.cells #[U 0,U 0,U 0,U 0,U 0,U 0,U 0,U 0,U 0,.slice none 0 0,U 0,U 0,U 0,U 0,U 0] 108)).alloc (.cells #[U y0,U y1,U y2,U y3,U y4,U y5,U y6,U y7,U y8,.slice a n c,U z0,U z1,U z2,U z3,U z4] 108))=p:=⟨_,rfl⟩
 have C:Bw w p:=by rw[<-z];exact boxed (boxed (jcc _ w) _) _
 have RZ:qd p w.heap.size [U 0,U 0,U 0,U 0,U 0,U 0,U 0,U 0,U 0,.slice none 0 0,U 0,U 0,U 0,U 0,U 0]:=by rw[<-z];exact(qd.new (w:=w) (T:=108) [U 0,U 0,U 0,U 0,U 0,U 0,U 0,U 0,U 0,.slice none 0 0,U 0,U 0,U 0,U 0,U 0] rfl).later (boxed (jcc _ _) _)
 have RG:qd p (w.heap.size+1) [U y0,U y1,U y2,U y3,U y4,U y5,U y6,U y7,U y8,.slice a n c,U z0,U z1,U z2,U z3,U z4]:=by
  rw[<-z];have:=qd.new (w:=w.alloc (.cells #[U 0,U 0,U 0,U 0,U 0,U 0,U 0,U 0,U 0,.slice none 0 0,U 0,U 0,U 0,U 0,U 0] 108)) (T:=108) [U y0,U y1,U y2,U y3,U y4,U y5,U y6,U y7,U y8,.slice a n c,U z0,U z1,U z2,U z3,U z4] rfl;simpa using this
 have sz5:p.heap.size=w.heap.size+2:=by rw[<-z];simp
 have HV5:=hd1 (y.out.2.2.1.later C);have c45:=cell_later C O;have f45:=qfg C f4 hlt
 have l5:b<p.heap.size:=by omega
 have SZ5:=hd1 sz5;rw[z];refine qma (q3o p c45 f45 HV5.out E y.out.2.2.2 _ ?_);rintro u13 u14 u15 u16 u17 u18 u19 u20 u21 u22 u23 u24 u25 u26 u27 u28 u29 u30 u31 w8 ⟨o,H,w7,hw8,I,hg2,P⟩;have Q:=hd2 hg2 ((P.lt o rfl).2);have R:=qa C I;obtain⟨s,S⟩:∃s,w8=s:=⟨_,rfl⟩
 have B:w7.setCell (AD b 4) (.slice (PT o) (M.l.eraseIdx i).length H)=s:=by rw[<-S,hw8]
 have B8:qd s b [M.sv,M.wv,M.cv,M.av,.slice (PT o) (M.l.eraseIdx i).length H,U W.lost]:=by rw[<-B];exact(y.out.1.box.later R).set 4 _ (by simp)
 have own9:s.ownsRow 0 108 15 (.slice (PT o) (M.l.eraseIdx i).length H) (M.l.eraseIdx i).length (qcm (M.l.eraseIdx i)):=by
  rw[<-B];exact qf P (λk e=>jce _ _ _ _ (λq=>by have J:o=k:=jcu e;have:=Q.out;simp only at q;omega))
 have j:qd s (w.heap.size+1) [U y0,U y1,U y2,U y3,U y4,U y5,U y6,U y7,U y8,.slice a n c,U z0,U z1,U z2,U z3,U z4]:=by rw[<-B];exact(RG.later I).far _ _ (by simp only;omega)
 have d:qd s w.heap.size [U 0,U 0,U 0,U 0,U 0,U 0,U 0,U 0,U 0,.slice none 0 0,U 0,U 0,U 0,U 0,U 0]:=by rw[<-B];exact(RZ.later I).far _ _ (by simp only;omega)
 have T8:qc (λk=>k=b) w s:=by rw[<-B];exact(qc.ofBelow R).trans (qc.setCell _ _ _ rfl)
 have t:=hd5 B8 own9 d T8 (show w.heap.size+2<=o from by have:=Q.out;have:=SZ5.out;omega);have g0_:=j.cell 0 _ rfl;have p0_:=d.free 0 (by simp);have s0_:=d.cell 0 _ rfl;have g1_:=j.cell 1 _ rfl;have p1_:=d.free 1 (by simp);have s1_:=d.cell 1 _ rfl;have g2_:=j.cell 2 _ rfl;have p2_:=d.free 2 (by simp);have s2_:=d.cell 2 _ rfl;have g3_:=j.cell 3 _ rfl;have p3_:=d.free 3 (by simp);have s3_:=d.cell 3 _ rfl;have g4_:=j.cell 4 _ rfl;have p4_:=d.free 4 (by simp);have s4_:=d.cell 4 _ rfl;have g5_:=j.cell 5 _ rfl;have p5_:=d.free 5 (by simp);have s5_:=d.cell 5 _ rfl;have g6_:=j.cell 6 _ rfl;have p6_:=d.free 6 (by simp);have s6_:=d.cell 6 _ rfl;have g7_:=j.cell 7 _ rfl;have p7_:=d.free 7 (by simp);have s7_:=d.cell 7 _ rfl;have g8_:=j.cell 8 _ rfl;have p8_:=d.free 8 (by simp);have s8_:=d.cell 8 _ rfl;have g9_:=j.cell 9 _ rfl;have p9_:=d.free 9 (by simp);have s9_:=d.cell 9 _ rfl;have g10_:=j.cell 10 _ rfl;have p10_:=d.free 10 (by simp);have s10_:=d.cell 10 _ rfl;have g11_:=j.cell 11 _ rfl;have p11_:=d.free 11 (by simp);have s11_:=d.cell 11 _ rfl;have g12_:=j.cell 12 _ rfl;have p12_:=d.free 12 (by simp);have s12_:=d.cell 12 _ rfl;have g13_:=j.cell 13 _ rfl;have p13_:=d.free 13 (by simp);have s13_:=d.cell 13 _ rfl;have g14_:=j.cell 14 _ rfl;have p14_:=d.free 14 (by simp);have s14_:=d.cell 14 _ rfl;rw[S];have hbl:=y.out.1.box.lt;have V:=And.intro (qyw (l:=[U y0,U y1,U y2,U y3,U y4,U y5,U y6,U y7,U y8,.slice a n c,U z0,U z1,U z2,U z3,U z4]) t.out.2.2.1 rfl) (And.intro (y.out.1.outed (i:=i) (ql1 t.out.2.2.2.1 (jcd _) [U y0,U y1,U y2,U y3,U y4,U y5,U y6,U y7,U y8,.slice a n c,U z0,U z1,U z2,U z3,U z4]) (t.out.1.kept (qf4 (by omega) _ _ _) (by rw[(qjm _ _ _).2.2.2];exact jcd _)) (qf t.out.2.1 (λk e=>qf4 (by have J:o=k:=jcu e;have:=t.out.2.2.2.2;omega) _ _ _)) (λk e=>by have J:o=k:=jcu e;have:=t.out.2.2.2.2;omega)) (ql1 t.out.2.2.2.1 (jcd _) [U y0,U y1,U y2,U y3,U y4,U y5,U y6,U y7,U y8,.slice a n c,U z0,U z1,U z2,U z3,U z4]));simp only[qgi]at V;have K:Hid _:=V
 go_wp2_with fail
 (try simp only[Exit.inBlock,Exit.then])
 refine bodyPost_ret (qus K.out.1 rfl) rfl ⟨rfl,_,K.out.2.1,λk e=>?_,K.out.2.2⟩;have J:o=k:=jcu e;have:=t.out.2.2.2.2;omega
end
section
open Go.RowKit
theorem qfc {b c wall d e f g i:Int} {a:Option Addr} {cap:Nat} {l:List Wr} {w:World} {v:Bool} (j:qr w a cap l) (h:jt b c wall d e f g i l=v):
 Ca 128 #[.agg (List.toArray (T9 b c wall d e f g i a l.length cap))] w (Rn (.bool v) w):=by
 subst h;exact qpf b c wall d e f g i a cap l w j
theorem qxa {b:Nat} {G:Nat->Prop} {F:Nat->Option Obj} {S:qe} (m:TxM) (w:World) (h:RS w b G F S) (hI:j3 S) (hn:S.waits.length<=900) (hW:qr w m.wa m.wc m.t.ws) (hnz:jf S m.t≠0):
 Ca 84 #[PP b,txV m] w λe w'=>e=.returned (U (jf S m.t))/\∃S',zu S m.t S'/\RPo w b G F S' w':=by
 obtain⟨⟨c,d,wall,o,f,g,l,n,ws⟩,a,cap⟩:=m;simp only at hW hnz ⊢;have Z:=hd1 hnz;have hb:=boxed (jcc _ w) (.cells (List.toArray (T9 c d wall o f g l n a ws.length cap)) 102);have I:=qd.new (w:=w) (T:=102) (T9 c d wall o f g l n a ws.length cap) rfl;change qd (w.nu (List.toArray (T9 c d wall o f g l n a ws.length cap)) 102) w.heap.size (T9 c d wall o f g l n a ws.length cap)at I;have hne:=qb.one;have P1:=h.later hb;have W1:=hW.later hb
 have NO:∀p ev,jf S ⟨c,d,wall,o,f,g,l,n,ws⟩=ev->ev≠0->Bw w p->Hid ((.returned (U ev):Ending)=.returned (U (jf S ⟨c,d,wall,o,f,g,l,n,ws⟩))/\∃S',zu S ⟨c,d,wall,o,f,g,l,n,ws⟩ S'/\RPo w b G F S' p):=λp ev e1 e2 e3=>by
  show _/\_;rw[e1];exact⟨rfl,S,.inl ⟨by rw[e1];exact e2,rfl⟩,RPo.same h e3⟩
 show Ca 84 #[PP b,.agg (List.toArray (T9 c d wall o f g l n a ws.length cap))] w _;obtain⟨lv,wv,sv,log,waits,PM,hl,hw,hG,hF⟩:=id P1;obtain⟨la,lc,rfl,hLT⟩:=yx PM.rlog;obtain⟨va,vc,rfl,hVT⟩:=yx PM.rwait;have k0:=qb.cell (PM.box.cell 0 _ rfl);have t0:=qb.cell (I.cell 0 _ rfl);have t1:=qb.cell (I.cell 1 _ rfl);have t2:=qb.cell (I.cell 2 _ rfl);have t3:=qb.cell (I.cell 3 _ rfl);have t4:=qb.cell (I.cell 4 _ rfl);have t5:=qb.cell (I.cell 5 _ rfl);have t6:=qb.cell (I.cell 6 _ rfl);have t7:=qb.cell (I.cell 7 _ rfl);have t8:=qb.cell (I.cell 8 _ rfl);cases hok:okT ⟨c,d,wall,o,f,g,l,n,ws⟩
 ·have HK:Hid (jt c d wall o f g l n ws=false):=hok
  have E:jf S ⟨c,d,wall,o,f,g,l,n,ws⟩=1:=by unfold jf;rw[if_pos hok]
  have s:=λp q=>NO p 1 E (by decide) q;go_enter Tryz.func84,Tryz.ntmps84
  go_wp2_with fail
  refine wrl ?_
  repeat (go_big_quiet_step (first|rfl|(go_at_call 128;with_reducible exact qg (qfc (W1.later (qb.below _)) HK.out))))
  refine wpQuiet_nil ?_;rintro w2 ⟨⟨_,P⟩,rfl⟩
  go_wp2_with fail
  go_ret;exact(s _ (qa hb P)).out
 have HK:Hid (jt c d wall o f g l n ws=true):=hok;obtain⟨⟨s0,s3⟩,⟨sq1,sq2⟩,sw⟩:=qcg hok;simp only at s0 s3 sq1 sq2 sw;have HOK:=hd1 hok;by_cases aa:c=S.id
 ·have E:jf S ⟨c,d,wall,o,f,g,l,n,ws⟩=1:=by unfold jf;rw[if_neg (by rw[HOK.out];decide),if_pos aa]
  have s:=λp q=>NO p 1 E (by decide) q
  have i1:(c==S.id)=true:=by simp[aa]
  have i2:decide (c=S.id)=true:=by simp[aa]
  go_enter Tryz.func84,Tryz.ntmps84
  go_wp2_with fail
  refine wrl ?_
  repeat (go_big_quiet_step (first|rfl|(go_at_call 128;with_reducible exact qg (qfc (W1.later (qb.below _)) HK.out))))
  refine wpQuiet_nil ?_;rintro w2 ⟨⟨_,P⟩,rfl⟩
  go_wp2_with fail
  go_ret;exact(s _ (qa hb P)).out
 have i1:(c==S.id)=false:=by simp[aa]
 have i2:decide (c=S.id)=false:=by simp[aa]
 have HID:=hd1 aa;have HPM:=hd4 PM hl hw hG;have HI:=hd1 hI;have Q:=hd1 NO;have HVT:=hd2 hVT hLT;have hvl:=hVT.len;have hvc:=hVT.cap;have hll:=hLT.len;have hlc:=hLT.cap;go_enter Tryz.func84,Tryz.ntmps84
 go_wp2_with fail
 refine wrl ?_
 repeat (go_big_quiet_step (first|rfl|(go_at_call 128;with_reducible exact qg (qfc (W1.later (qb.below _)) HK.out))))
 refine wpQuiet_nil ?_;rintro w2 ⟨⟨_,P⟩,rfl⟩;have PM2:=hd1 (HPM.out.1.later P);have RB2:=I.later P;have hbw:=qa hb P;have HB2:Hid (Below (w.nu (List.toArray (T9 c d wall o f g l n a ws.length cap)) 102).heap.size (w.nu (List.toArray (T9 c d wall o f g l n a ws.length cap)) 102) w2):=P;have t0:=qb.cell (RB2.cell 0 _ rfl);have t1:=qb.cell (RB2.cell 1 _ rfl);have ks:=qb.cell (qkc PM2.out.box s0 s3)
 have s4:c<4:=by omega
 obtain⟨D,hD⟩:∃D,qp c S.a0 S.a1 S.a2 S.a3=D:=⟨_,rfl⟩;have HD:=hd1 hD;rw[hD]at ks;by_cases hle:d<=D
 ·have E:jf S ⟨c,d,wall,o,f,g,l,n,ws⟩=9:=by unfold jf;rw[if_neg (by rw[HOK.out];decide),if_neg HID.out,if_pos (by rw[HD.out];exact hle)]
  have s:=λp q=>Q.out p 9 E (by decide) q
  go_wp2_with fail
  refine wrl ?_
  repeat (go_big_quiet_step (first|rfl|fail))
  refine wpQuiet_nil ?_;rintro w3 ⟨⟨_,hb3⟩,rfl⟩
  go_wp2_with fail
  go_ret;exact(s _ (qa hbw hb3)).out
 have HLE:Hid (D<d):=by show _<_;omega
 have q1:=decide_eq_false hle
 go_wp2_with fail
 refine wrl ?_
 repeat (go_big_quiet_step (first|rfl|fail))
 refine wpQuiet_nil ?_;rintro w3 ⟨⟨_,hb3⟩,rfl⟩;have PM3:=hd1 (PM2.out.later hb3);have RB3:=hd1 (RB2.later hb3);have hbw3:=qa hbw hb3;have HB3:=hd1 (qa HB2.out hb3);have s8:=PM3.out.box.cell 8 _ rfl
 go_wp2_with fail
 go_loopw [39] (λiv wr=>∃(k:Nat) (z:Int),k<=waits.length/\z=k/\iv=U z/\Hid (∀j x,j<k->waits[j]?=some x->vv x.t ⟨c,d,wall,o,f,g,l,n,ws⟩=false)/\Bw w3 wr) (λi _=>waits.length-(intOf i).toNat)
 case atStart=>exact⟨0,0,by omega,rfl,rfl,(λj x hj=>by omega),jcc _ _⟩
 obtain⟨k,z,hk,hz,rfl,HNM,M⟩:=hrel;have HZ:=hd1 hz;by_cases hlt:k<waits.length
 ·have g1:z<(waits.length:Int):=by omega
  have g2:z.toNat=k:=by omega
  have g3:0<=z:=by omega
  obtain⟨wb,off,hwa,hcc⟩:∃wb off,va=some (AD wb off)/\∀i m r u,waits[i]?=some m->(txC m)[r]?=some u->(w.nu (List.toArray (T9 c d wall o f g l n a ws.length cap)) 102).cell? (AD wb (off+(i*9+r)))=some u:=by
   rcases HVT.out.1.held with e|e
   ·rw[e]at hlt;simp at hlt
   exact e
  obtain⟨⟨⟨xs,xq,xw,xc,y0,y1,y2,y3,yw⟩,ya,yc⟩,v⟩:∃m,waits[k]?=some m:=⟨waits[k],jcg hlt⟩;have HX:=hd1 v;have N:=λr u (hu:(txC ⟨⟨xs,xq,xw,xc,y0,y1,y2,y3,yw⟩,ya,yc⟩)[r]?=some u)=>(show wr.cell? (AD wb (off+k*9+r))=some u by rw[Nat.add_assoc];exact cell_later (qa HB3.out M) (hcc k _ r u v hu));have x0:=N 0 _ rfl;have x1:=N 1 _ rfl;have x2:=N 2 _ rfl;have x3:=N 3 _ rfl;have x4:=N 4 _ rfl;have x5:=N 5 _ rfl;have x6:=N 6 _ rfl;have x7:=N 7 _ rfl;have x8:=N 8 _ rfl;rw[Nat.add_zero]at x0;have C:=RB3.out.later M;have t0:=C.cell 0 _ rfl;have t1:=C.cell 1 _ rfl;have lt0:=C.lt;rw[hwa];by_cases hs:xs=c
  ·by_cases O:xq=d
   ·have e1:(xs==c)=true:=by simp[hs]
    have e2:(xq==d)=true:=by simp[O]
    have E:jf S ⟨c,d,wall,o,f,g,l,n,ws⟩=9:=by
     unfold jf;rw[if_neg (by rw[HOK.out];decide),if_neg HID.out,if_neg (by rw[HD.out];have:=HLE.out;simp only;omega),if_pos];rw[<-HPM.out.2.2.1];exact List.any_eq_true.2 ⟨_,jcz.2 ⟨_,jcq HX.out,rfl⟩,qe5.2 ⟨hs,O⟩⟩
    have s:=λp q=>Q.out p 9 E (by decide) q;have q:=qa hbw3 M
    go_wp2_with fail
    go_ret;exact(s _ (boxed q _)).out
   have e1:(xs==c)=true:=by simp[hs]
   have e2:(xq==d)=false:=by simp[O]
   have HNQ:Hid (vv ⟨xs,xq,xw,xc,y0,y1,y2,y3,yw⟩ ⟨c,d,wall,o,f,g,l,n,ws⟩=false):=by show _=_;simp[vv,O]
   go_wp2_with fail
   go_roundw
   case rel=>exact⟨k+1,z+1,by omega,by have:=HZ.out;omega,by go_num,(λj x hj v=>by
        rcases jc7 j k with h1|h1
        ·exact HNM.out j x h1 v
        have:j=k:=by omega
        subst this;rw[HX.out]at v;injection v with v;subst v
        exact HNQ.out),boxed M _⟩
   simp[intOf];have:=HZ.out;omega
  have e1:(xs==c)=false:=by simp[hs]
  have HNQ:Hid (vv ⟨xs,xq,xw,xc,y0,y1,y2,y3,yw⟩ ⟨c,d,wall,o,f,g,l,n,ws⟩=false):=by show _=_;simp[vv,hs]
  go_wp2_with fail
  go_roundw
  case rel=>exact⟨k+1,z+1,by omega,by have:=HZ.out;omega,by go_num,(λj x hj v=>by
   rcases jc7 j k with h1|h1
   ·exact HNM.out j x h1 v
   have:j=k:=by omega
   subst this;rw[HX.out]at v;injection v with v;subst v
   exact HNQ.out),boxed M _⟩
  simp[intOf];have:=HZ.out;omega
 have g1:¬z<(waits.length:Int):=by omega
 have HNA:Hid (∀x∈waits,vv x.t ⟨c,d,wall,o,f,g,l,n,ws⟩=false):=λx v=>by
  obtain⟨j,hj⟩:=List.getElem?_of_mem v;exact HNM.out j x (by have:=(jck.1 hj).1;omega) hj
 have R:=hd1 (PM3.out.later M);have C:=hd1 (RB3.out.later M);have hbwr:=qa hbw3 M;have HBr:=hd1 (qa HB3.out M);have t0:=qb.cell (C.out.cell 0 _ rfl);have t1:=qb.cell (C.out.cell 1 _ rfl);have t4:=qb.cell (C.out.cell 4 _ rfl);have t5:=qb.cell (C.out.cell 5 _ rfl);have t6:=qb.cell (C.out.cell 6 _ rfl);have t7:=qb.cell (C.out.cell 7 _ rfl);have ks:=qb.cell (qkc R.out.box s0 s3);have k1:=qb.cell (R.out.box.cell 1 _ rfl);have k2:=qb.cell (R.out.box.cell 2 _ rfl);have k3:=qb.cell (R.out.box.cell 3 _ rfl);have k4:=qb.cell (R.out.box.cell 4 _ rfl);rw[HD.out]at ks;have hdd:=HI.out.dep c;rw[HD.out]at hdd;have hwr:=qd1 hdd
 have hlw:waits.length=S.waits.length:=by rw[<-HPM.out.2.2.1];simp
 have hlg:log.length=S.log.length:=by rw[<-HPM.out.2.1];simp
 have HLN:=hd3 hlw hlg hn
 have HRE:Hid (qz S ⟨c,d,wall,o,f,g,l,n,ws⟩=(decide (d=D+1)&&qa8 S.a0 S.a1 S.a2 S.a3 f g l n)):=by show qz S ⟨c,d,wall,o,f,g,l,n,ws⟩=_;unfold qz;rw[HD.out]
 have HAN:Hid (S.waits.any (λx=>vv x ⟨c,d,wall,o,f,g,l,n,ws⟩)=false):=by
  show _=_;rw[<-HPM.out.2.2.1,List.any_eq_false];intro x v;obtain⟨y,hy,rfl⟩:=jcz.1 v;rw[HNA.out y hy]
  decide
 have H:Hid (jf S ⟨c,d,wall,o,f,g,l,n,ws⟩=if 200<=log.length then 12 else if 40<=waits.length/\qz S ⟨c,d,wall,o,f,g,l,n,ws⟩=false then 12 else 0):=by
  show jf S ⟨c,d,wall,o,f,g,l,n,ws⟩=_;unfold jf;rw[if_neg (by rw[HOK.out];decide),if_neg HID.out,if_neg (by rw[HD.out];have:=HLE.out;simp only;omega),if_neg (by rw[HAN.out];decide),HLN.out.1,HLN.out.2.1]
 by_cases O:d=D+1
 ·have q2:(d==D+1)=true:=by simp[O]
  have HQ:=hd1 O;cases hc:qa8 S.a0 S.a1 S.a2 S.a3 f g l n
  ·have HC:=hd1 hc
   have V:Hid (qz S ⟨c,d,wall,o,f,g,l,n,ws⟩=false):=by show _=_;rw[HRE.out,hc];simp
   go_wp2_with fail
   refine wrl ?_
   repeat (go_big_quiet_step (first|rfl|(go_at_call 77;with_reducible exact qg (yo HC.out _))))
   refine wpQuiet_nil ?_;rintro w4 ⟨⟨_,B⟩,rfl⟩;have W:=hd1 (R.out.later B);have RB4:=hd1 (C.out.later B);have X:=qa hbwr B;have HB4:=hd1 (qa HBr.out B);have s7:=W.out.box.cell 7 _ rfl;have s8:=W.out.box.cell 8 _ rfl;by_cases hf:200<=log.length
   ·have E:jf S ⟨c,d,wall,o,f,g,l,n,ws⟩=12:=by rw[H.out,if_pos hf]
    have s:=λp q=>Q.out p 12 E (by decide) q
    have h2:(200:Int)<=(log.length:Int):=by omega
    go_wp2_with fail
    go_ret;exact(s _ X).out
   have h2:¬(200:Int)<=(log.length:Int):=by omega
   have J:Hid (log.length<200):=by show _<_;omega
   by_cases Y:40<=waits.length
   ·have g40:(40:Int)<=(waits.length:Int):=by omega
    first
     |(have K:=V
       have E:jf S ⟨c,d,wall,o,f,g,l,n,ws⟩=12:=by rw[H.out,if_neg (by have:=J.out;omega),if_pos ⟨Y,K.out⟩]
       have s:=λp q=>Q.out p 12 E (by decide) q
       go_wp2_with fail
       go_ret
       exact(s _ X).out)
     |(have K:Hid (qz S ⟨c,d,wall,o,f,g,l,n,ws⟩=true):=V
       have L:Hid (jf S ⟨c,d,wall,o,f,g,l,n,ws⟩=0):=by show _=_;rw[H.out,if_neg (by have:=J.out;omega),if_neg (λe=>by rw[K.out]at e;cases e.2)]
       exact absurd L.out Z.out)
   have g40:¬(40:Int)<=(waits.length:Int):=by omega
   have L:Hid (jf S ⟨c,d,wall,o,f,g,l,n,ws⟩=0):=by show _=_;rw[H.out,if_neg (by have:=J.out;omega),if_neg (λe=>Y e.1)]
   exact absurd L.out Z.out
  have HC:=hd1 hc
  have V:Hid (qz S ⟨c,d,wall,o,f,g,l,n,ws⟩=true):=by show _=_;rw[HRE.out,hc,HQ.out];simp
  go_wp2_with fail
  refine wrl ?_
  repeat (go_big_quiet_step (first|rfl|(go_at_call 77;with_reducible exact qg (yo HC.out _))))
  refine wpQuiet_nil ?_;rintro w4 ⟨⟨_,B⟩,rfl⟩;have W:=hd1 (R.out.later B);have RB4:=hd1 (C.out.later B);have X:=qa hbwr B;have HB4:=hd1 (qa HBr.out B);have s7:=W.out.box.cell 7 _ rfl;have s8:=W.out.box.cell 8 _ rfl;by_cases hf:200<=log.length
  ·have E:jf S ⟨c,d,wall,o,f,g,l,n,ws⟩=12:=by rw[H.out,if_pos hf]
   have s:=λp q=>Q.out p 12 E (by decide) q
   have h2:(200:Int)<=(log.length:Int):=by omega
   go_wp2_with fail
   go_ret;exact(s _ X).out
  have h2:¬(200:Int)<=(log.length:Int):=by omega
  have J:Hid (log.length<200):=by show _<_;omega
  by_cases Y:40<=waits.length
  ·have g40:(40:Int)<=(waits.length:Int):=by omega
   first
        |(have K:Hid (qz S ⟨c,d,wall,o,f,g,l,n,ws⟩=false):=V
          have E:jf S ⟨c,d,wall,o,f,g,l,n,ws⟩=12:=by rw[H.out,if_neg (by have:=J.out;omega),if_pos ⟨Y,K.out⟩]
          have s:=λp q=>Q.out p 12 E (by decide) q
          go_wp2_with fail
          go_ret
          exact(s _ X).out)
        |(have K:=V
          have L:Hid (jf S ⟨c,d,wall,o,f,g,l,n,ws⟩=0):=by show _=_;rw[H.out,if_neg (by have:=J.out;omega),if_neg (λe=>by rw[K.out]at e;cases e.2)]
          exact absurd L.out Z.out)
  have g40:¬(40:Int)<=(waits.length:Int):=by omega
  have L:Hid (jf S ⟨c,d,wall,o,f,g,l,n,ws⟩=0):=by show _=_;rw[H.out,if_neg (by have:=J.out;omega),if_neg (λe=>Y e.1)]
  exact absurd L.out Z.out
 have q2:(d==D+1)=false:=by simp[O]
 have V:Hid (qz S ⟨c,d,wall,o,f,g,l,n,ws⟩=false):=by show _=_;rw[HRE.out];simp[O]
 go_wp2_with fail
 refine wrl ?_
 repeat (go_big_quiet_step (first|rfl|fail))
 refine wpQuiet_nil ?_;rintro w4 ⟨⟨_,B⟩,rfl⟩;have W:=hd1 (R.out.later B);have RB4:=hd1 (C.out.later B);have X:=qa hbwr B;have HB4:=hd1 (qa HBr.out B);have s7:=W.out.box.cell 7 _ rfl;have s8:=W.out.box.cell 8 _ rfl;by_cases hf:200<=log.length
 ·have E:jf S ⟨c,d,wall,o,f,g,l,n,ws⟩=12:=by rw[H.out,if_pos hf]
  have s:=λp q=>Q.out p 12 E (by decide) q
  have h2:(200:Int)<=(log.length:Int):=by omega
  go_wp2_with fail
  go_ret;exact(s _ X).out
 have h2:¬(200:Int)<=(log.length:Int):=by omega
 have J:Hid (log.length<200):=by show _<_;omega
 by_cases Y:40<=waits.length
 ·have g40:(40:Int)<=(waits.length:Int):=by omega
  first
   |(have K:=V
     have E:jf S ⟨c,d,wall,o,f,g,l,n,ws⟩=12:=by rw[H.out,if_neg (by have:=J.out;omega),if_pos ⟨Y,K.out⟩]
     have s:=λp q=>Q.out p 12 E (by decide) q
     go_wp2_with fail
     go_ret
     exact(s _ X).out)
   |(have K:Hid (qz S ⟨c,d,wall,o,f,g,l,n,ws⟩=true):=V
     have L:Hid (jf S ⟨c,d,wall,o,f,g,l,n,ws⟩=0):=by show _=_;rw[H.out,if_neg (by have:=J.out;omega),if_neg (λe=>by rw[K.out]at e;cases e.2)]
     exact absurd L.out Z.out)
 have g40:¬(40:Int)<=(waits.length:Int):=by omega
 have L:Hid (jf S ⟨c,d,wall,o,f,g,l,n,ws⟩=0):=by show _=_;rw[H.out,if_neg (by have:=J.out;omega),if_neg (λe=>Y e.1)]
 exact absurd L.out Z.out
end
section
open Go.RowKit
def qei (S:qe) (waits:List TxM) (k:Nat) (z:Int):Prop:=
 (z= -1/\∀j x,j<k->waits[j]?=some x->qz S x.t=false)\/
 (∃(i:Nat) (x:TxM),z=i/\i<k/\waits[i]?=some x/\qz S x.t=true/\(∀j y,j<k->waits[j]?=some y->qz S y.t=true->x.t.site<=y.t.site)/\∀j y,j<i->waits[j]?=some y->qz S y.t=true->x.t.site<y.t.site)
theorem qyj (S:qe) (waits:List TxM):qei S waits 0 (-1):=.inl ⟨rfl,λj x h=>by omega⟩
variable {S:qe} {k:Nat} {z:Int} {x:TxM}
theorem qz5 {waits:List TxM} (h:qei S waits k z) (l:waits[k]?=some x) (m:qz S x.t=false):qei S waits (k+1) z:=by
 have e:∀j y,j<k+1->waits[j]?=some y->qz S y.t=true->j<k:=λj y c a b=>by
  rcases jc7 j k with d|d
  ·exact d
  have:j=k:=by omega
  subst this;rw[l]at a;injection a with a;subst a;rw[m]at b;cases b
 rcases h with ⟨rfl,h⟩|⟨i,y,rfl,d,n,o,p,q⟩
 ·refine .inl ⟨rfl,λj y c a=>?_⟩;cases b:qz S y.t with
  |false=>rfl
  |true=>rw[<-b];exact h j y (e j y c a b) a
 exact .inr ⟨i,y,rfl,by omega,n,o,λj u c f g=>p j u (e j u c f g) f g,q⟩
theorem qyl {waits:List TxM} (h:qei S waits k (-1)) (c:waits[k]?=some x) (g:qz S x.t=true):qei S waits (k+1) k:=by
 rcases h with ⟨_,h⟩|⟨i,y,e,_⟩
 ·refine .inr ⟨k,x,rfl,by omega,c,g,λj y d a b=>?_,λj y d a b=>?_⟩
  ·rcases jc7 j k with f|f
   ·rw[h j y f a]at b;cases b
   have:j=k:=by omega
   subst this;rw[c]at a;injection a with a;rw[a];exact Int.le_refl _
  rw[h j y d a]at b;cases b
 omega
theorem q90 {waits:List TxM} (h:qei S waits k z) (c:0<=z):∃(i:Nat) (x:TxM),z=i/\i<k/\waits[i]?=some x:=by
 rcases h with ⟨e,_⟩|⟨i,x,e,a,b,_⟩
 ·omega
 exact⟨i,x,e,a,b⟩
variable {i:Nat} {y:TxM}
theorem q1o {waits:List TxM} (h:qei S waits k i) (m:waits[i]?=some y) (d:waits[k]?=some x) (n:qz S x.t=true) (p:x.t.site<y.t.site):qei S waits (k+1) k:=by
 rcases h with ⟨e,_⟩|⟨o,q,e,r,b,s,f,v⟩
 ·omega
 have:o=i:=by omega
 subst this;rw[m]at b;injection b with b;subst b;refine .inr ⟨k,x,rfl,by omega,d,n,λj u g a c=>?_,λj u g a c=>?_⟩
 ·rcases jc7 j k with l|l
  ·have:=f j u l a c;omega
  have:j=k:=by omega
  subst this;rw[d]at a;injection a with a;rw[a];exact Int.le_refl _
 have:=f j u g a c;omega
theorem q2x {waits:List TxM} (h:qei S waits k i) (c:waits[i]?=some y) (g:waits[k]?=some x) (p:¬x.t.site<y.t.site):qei S waits (k+1) i:=by
 rcases h with ⟨e,_⟩|⟨d,q,e,r,b,l,m,n⟩
 ·omega
 have:d=i:=by omega
 subst this;rw[c]at b;injection b with b;subst b;refine .inr ⟨d,y,rfl,by omega,c,l,λj u s a o=>?_,n⟩;rcases jc7 j k with f|f
 ·exact m j u f a o
 have:j=k:=by omega
 subst this;rw[g]at a;injection a with a;rw[<-a];omega
theorem qoo {α:Type} {p:α->Bool}:∀{l:List α} {i:Nat} {x:α},l[i]?=some x->p x=true->(∀j y,j<i->l[j]?=some y->p y=false)->l.find? p=some x
 |[],_,_,h,_,_=>by simp at h
 |a::l,0,x,h,hp,_=>by
  simp at h;subst h;simp[hp]
 |a::l,i+1,x,h,hp,hn=>by
  have b:=hn 0 a (by omega) rfl;rw[List.find?_cons,b];exact qoo (l:=l) (i:=i) (by simpa using h) hp (λj y d c=>hn (j+1) y (by omega) (by simpa using c))
theorem q4j {waits:List TxM} (h:qei S waits waits.length z) (f:waits.map (·.t)=S.waits) (q:∀x∈S.waits,0<=x.site/\x.site<=3):
 (z= -1/\qd7 S=none)\/∃(i:Nat) (x:TxM),z=i/\waits[i]?=some x/\qd7 S=some x.t:=by
 rcases h with ⟨rfl,h⟩|⟨i,x,rfl,B,l,r,u,v⟩
 ·have w:∀s,qbt S s=none:=λs=>qjy (λt b _=>by
   rw[<-f]at b;obtain⟨m,c,rfl⟩:=jcz.1 b;obtain⟨j,a⟩:=List.getElem?_of_mem c
   exact h j m (jck.1 a).1 a)
  exact .inl ⟨rfl,by simp[qd7,w]⟩
 refine .inr ⟨i,x,rfl,l,?_⟩
 have n:S.waits[i]?=some x.t:=by rw[<-f,jcv,l];rfl
 have o:∀j t,S.waits[j]?=some t->∃m,waits[j]?=some m/\m.t=t/\j<waits.length:=λj t a=>by
  rw[<-f,jcv]at a;cases c:waits[j]?with
  |none=>rw[c]at a;cases a
  |some m=>
   rw[c]at a;injection a with a;exact⟨m,rfl,a,(jck.1 c).1⟩
 have d:qbt S x.t.site=some x.t:=by
  refine qoo n (by simp[r]) (λj t a b=>?_);obtain⟨m,g,rfl,p⟩:=o j t b;cases hr:qz S m.t with
  |false=>simp
  |true=>
   have:=v j m a g hr;simp;omega
 have lo:∀s,s<x.t.site->qbt S s=none:=λs C=>qjy (λt b D=>by
  obtain⟨j,a⟩:=List.getElem?_of_mem b;obtain⟨m,g,rfl,p⟩:=o j t a;cases hr:qz S m.t with
  |false=>rfl
  |true=>
   have:=u j m p g hr
   omega)
 obtain⟨E,F⟩:=q x.t (jcq n)
 have A:x.t.site=0\/x.t.site=1\/x.t.site=2\/x.t.site=3:=by omega
 unfold qd7
 rcases A with e|e|e|e<;>rw[e]at d lo
 ·rw[d]
 ·rw[lo 0 (by omega),d]
 ·rw[lo 0 (by omega),lo 1 (by omega),d]
 rw[lo 0 (by omega),lo 1 (by omega),lo 2 (by omega),d]
end
section
open Go.RowKit
structure qns (w0:World) (b:Nat) (G:Nat->Prop) (F:Nat->Option Obj) (S0 S:qe) (wr:World):Prop where
 mem:∃G',RS wr b G' F S/\(∀k,G' k->G k\/w0.heap.size<=k)
 touch:qc G w0 wr
 inv:j3 S
 wn:S.waits.length<=1000
 go:∀X,qfm S X->qfm S0 X
variable {w0 wr:World} {b:Nat} {G:Nat->Prop} {F:Nat->Option Obj} {S0 S:qe}
theorem qns.later {w':World} (h:qns w0 b G F S0 S wr) (a:Bw wr w'):qns w0 b G F S0 S w':=by
 obtain⟨G',c,d⟩:=h.mem;exact⟨⟨G',c.later a,d⟩,h.touch.trans (qc.ofBelow a),h.inv,h.wn,h.go⟩
variable {w:World}
theorem RS.left (h:RS w b G F S):qkk w b=200-S.log.length:=by
 obtain⟨lv,wv,sv,log,waits,h,a,_,_⟩:=h;obtain⟨c,lc,rfl,d⟩:=yx h.rlog;unfold qkk;rw[h.box.cell 7 _ rfl,<-a];simp
theorem qns.done (h:qns w0 b G F S0 S wr):RPo w0 b G F S wr:=by
 obtain⟨G',a,c⟩:=h.mem;exact⟨G',a,c,h.touch⟩
variable {lv wv sv:Value}
theorem vu.reset {f:World} {log waits d:List TxM} (h:vu w b lv wv sv S log waits) (o:Bw w f) {g n c:Nat} (y:w.heap.size<=g)
 (own:f.ownsRow 0 102 9 (.slice (PT g) n c) n (zw d)) (j:d.length=n) (s:∀m∈d,m∈waits\/(qr w m.wa m.wc m.t.ws/\∀k,m.blk k->¬qu b lv wv sv k)) (W:List TxP):
 vu (f.setCell (AD b 8) (.slice (PT g) n c)) b lv (.slice (PT g) n c) sv {S with waits:=W} log d/\qc (qu b lv wv sv) w (f.setCell (AD b 8) (.slice (PT g) n c))/\
  ∀k,qu b lv (.slice (PT g) n c) sv k->qu b lv wv sv k\/w.heap.size<=k:=by
 subst j;have z:=h.box.lt
 have A:g≠b:=by omega
 have p:∀k,k<w.heap.size->k≠b->(f.setCell (AD b 8) (.slice (PT g) d.length c)).heap[k]?=w.heap[k]?:=λk l j=>(jce _ _ _ _ j).trans (o.block k l);have u:qd (f.setCell (AD b 8) (.slice (PT g) d.length c)) b (vz {S with waits:=W} lv (.slice (PT g) d.length c) sv):=(h.box.later o).set 8 _ (by simp[vz]);have v:(f.setCell (AD b 8) (.slice (PT g) d.length c)).ownsRow 0 102 9 (.slice (PT g) d.length c) d.length (zw d):=qf own (λk e=>jce _ _ _ _ (by simp[Value.ownBlock]at e;simp only;omega));refine⟨h.rewait (λk l j _=>p k ?_ j) u rfl v (λk e=>by simp[Value.ownBlock]at e;omega) (λm q=>?_),⟨?_,?_,?_,?_,λk l j=>p k l (λe=>j (.inl e))⟩,λk l=>?_⟩
 ·rcases l with a|⟨m,q,a⟩
  ·exact h.lt k a
  exact(h.hold m q).1.blk_lt k a
 ·rcases s m q with a|⟨a,r⟩
  ·exact .inl a
  refine .inr ⟨a.kept (λk e=>p k (a.blk_lt k e) (λx=>r k e (.inl x))),λk e=>⟨r k e,λx=>?_⟩⟩;have:=a.blk_lt k e;simp[Value.ownBlock]at x;omega
 ·exact o.os
 ·exact o.tape
 ·exact o.output
 ·have:=o.size;simpa[World.setCell]using this
 rcases l with a|a|a|a
 ·exact .inl (.inl a)
 ·exact .inl (.inr (.inl a))
 ·simp[Value.ownBlock]at a;exact .inr (by omega)
 exact .inl (.inr (.inr (.inr a)))
variable {w6:World} {G':Nat->Prop} {i:Nat} {m:TxM}
theorem qwj {o:World} {c j l:Value} {log waits:List TxM} (d:qns w0 b G F S0 S wr) (B:vu wr b lv wv sv S log waits) (C:qdn wr F log) (D:log.map (·.t)=S.log) (p:waits.map (·.t)=S.waits)
 (q:∀k,G' k↔(qu b lv wv sv k\/∃m∈log++waits,m.blk k)) (r:∀k,G' k->G k\/w0.heap.size<=k) (hi:waits[i]?=some m) (u:S.log.length<200) (f:qd7 S=some m.t)
 (v:qc (qu b lv wv sv) wr w6) (y:∀k,qu b lv c sv k->qu b lv wv sv k\/wr.heap.size<=k)
 (E:vu o b j c l (vr {S with waits:=qdv S.waits m.t} m.t) (log++[m]) (waits.take i++waits.drop (i+1))) (H:∀k,qu b j c l k->qu b lv c sv k\/w6.heap.size<=k) (I:qc (qu b lv c sv) w6 o):
 qns w0 b G F S0 (qj5 S m.t) o:=by
 have z:=jcq hi
 have A:m.t∈S.waits:=by rw[<-p];exact jcz.2 ⟨m,z,rfl⟩
 have J:S.waits[i]?=some m.t:=by rw[<-p,jcv,hi];rfl
 have K:∀x∈waits.take i++waits.drop (i+1),x∈waits:=λx f=>by
  rcases jcf.1 f with a|a
  ·exact List.mem_of_mem_take a
  exact List.mem_of_mem_drop a
 have L:∀k,qu b j c l k->qu b lv wv sv k\/wr.heap.size<=k:=λk n=>by
  rcases H k n with a|a
  ·exact y k a
  exact .inr (by have:=v.size;omega)
 have g:=v.more I y;have M:qc G' wr o:=⟨g.os,g.tape,g.output,g.size,λk n N=>g.block k n (λe=>N ((q k).2 (.inl e)))⟩;refine⟨⟨λk=>qu b j c l k\/∃x∈(log++[m])++(waits.take i++waits.drop (i+1)),x.blk k,⟨j,c,l,log++[m],waits.take i++waits.drop (i+1),E,by rw[jdb,D];rfl,?_,λk=>jdl,C.touch B g (λx f=>jcf.2 (.inl f))⟩,λk n=>?_⟩,d.touch.more M r,d.inv.gone A u,?_,λX O=>d.go X (.step u f O)⟩
 ·show _=qdv S.waits m.t;rw[qpm d.inv.nums J,jdb,List.map_take,List.map_drop,p]
 ·rcases n with a|⟨x,f,a⟩
  ·rcases L k a with h|h
   ·exact r k ((q k).2 (.inl h))
   exact .inr (by have:=d.touch.size;omega)
  refine r k ((q k).2 (.inr ⟨x,?_,a⟩));rcases jcf.1 f with h|h
  ·rcases jcf.1 h with s|s
   ·exact jcf.2 (.inl s)
   rw[jcj.1 s];exact jcf.2 (.inr z)
  exact jcf.2 (.inr (K x h))
 have:=qf5 d.inv.nums A;have:=d.wn;show (qdv S.waits m.t).length<=1000;omega
theorem qsa {c:Value} {log waits:List TxM} (d:qns w0 b G F S0 S wr) (f:vu wr b lv wv sv S log waits) (q:qdn wr F log) (g:log.map (·.t)=S.log) (h:waits.map (·.t)=S.waits)
 (r:∀k,G' k↔(qu b lv wv sv k\/∃m∈log++waits,m.blk k)) (s:∀k,G' k->G k\/w0.heap.size<=k) (hi:waits[i]?=some m) (u:S.log.length<200) (v:qd7 S=some m.t)
 (j:qc (qu b lv wv sv) wr w6) (n:∀k,qu b lv c sv k->qu b lv wv sv k\/wr.heap.size<=k) (x:vu w6 b lv c sv {S with waits:=qdv S.waits m.t} log (waits.take i++waits.drop (i+1))):
 Ca 129 #[PP b,.agg (List.toArray (T9 m.t.site m.t.seq m.t.wall m.t.count m.t.d0 m.t.d1 m.t.d2 m.t.d3 m.wa m.t.ws.length m.wc))] w6 λe w'=>
  e=.returned (.tuple #[])/\qns w0 b G F S0 (qj5 S m.t) w'/\qc (qu b lv c sv) w6 w':=by
 have o:=jcq hi;have a:=f.hold m (jcf.2 (.inr o))
 have y:m.t∈S.waits:=by rw[<-h];exact jcz.2 ⟨m,o,rfl⟩
 obtain⟨⟨s0,s3⟩,B,C⟩:=qcg (d.inv.wt m.t y).1;have D:=d.inv.len
 have E:log.length=S.log.length:=by rw[<-g];simp
 refine(qj3 m w6 x ⟨a.1.kept (λk e=>j.block k (a.1.blk_lt k e) (a.2 k e)),λk e z=>?_⟩ s0 s3 (by show S.l.length+_<=_;omega) (by omega)).mono λe w' ⟨A,H,I,p1,p2,p3⟩=>⟨A,qwj d f q g h r s hi u v j n p1 p2 p3,p3⟩;rcases n k z with p|p
 ·exact a.2 k e p
 have:=a.1.blk_lt k e;omega
end
section
open Go.RowKit
noncomputable def jas:Code:=((Tryz.f84.body.bind (qfn 19)).getD .skip)
theorem qzp {b:Nat} {S:qe} {lv sv:Value} {G:Option Addr} {L:Nat} {log waits:List TxM} {y1 y2 y3 y4 y5 y6 y7 y9 y10 y11 y12 y13 y14 y15 y16 y17 y18 y19 y20 y21 y22 y23 y24 y25 y26 y27 y28 y29 y30 y31 y32 y33 y34 y35 y36 y37 y38 y39 y40 y41 y42 y43 y44 y45 y46 y47 y48 y49 y50 y51 y52 y53 y54 y55 y56 y57 y58 y59 y60 y61 y62 y63 y64 y65 y66 y67 y68 y69 y70 y71 y72 y73 y74 y75 y76 y77 y78 y79 y80 y81 y82 y83 y84 y85 y86 y87 y88 y89 y90 y91 y92 y93 y94 y95 y96 y97 y98 y99 y100 y101 y102 y103 y104 y105 y106 y107 y108 y109 y110 y111 y112 y113 y114 y115 y116 y117 y118 y119 y123 y124 y125 y126 y127 y128 y129 y130 y131 y132 y133 y134 y135 y136 y137 y138 y139 y140 y141 y142 y143 y144 y145 y146 y147 y148 y149 y150 y151 y152 y153 y154 y155 y156 y157 y158 y159 y160 y161 y162 y163 y164 y165 y166 y167 y168 y169 y170 y171 y172 y173 y174 y175 y176 y177 y178 y179 y180 y181 y182 y183 y184 y185 y186 y187 y188 y189 y190 y191 y192 y193 y194 y195 y196:Value} (w:World) (PM:vu w b lv (.slice G waits.length L) sv S log waits) (hw:waits.map (·.t)=S.waits) (hI:j3 S) (hn:waits.length<=1000) (R:Act->World->Prop)
 (hR:∀(u9 u10 u122 u123 u124 u125 u126 u127 u128 u129 u130 u131 u132 u133 u134 u135 u136 u137 u138 u139 u140 u141 u142 u143 u144 u145 u146 u147 u148 u149 u150 u151 u152 u153 u154 u155 u156 u157 u158 u159 u160 u161 u162 u163 u164 u165:Value) (z:Int) (w':World),qei S waits waits.length z->Bw w w'->R ⟨List.toArray ((PP b)::y1::y2::y3::y4::y5::y6::y7::(U z)::u9::u10::y11::y12::y13::y14::y15::y16::y17::y18::y19::y20::y21::y22::y23::y24::y25::y26::y27::y28::y29::y30::y31::y32::y33::y34::y35::y36::y37::y38::y39::y40::y41::y42::y43::y44::y45::y46::y47::y48::y49::y50::y51::y52::y53::y54::y55::y56::y57::y58::y59::y60::y61::y62::y63::y64::y65::y66::y67::y68::y69::y70::y71::y72::y73::y74::y75::y76::y77::y78::y79::y80::y81::y82::y83::y84::y85::y86::y87::y88::y89::y90::y91::y92::y93::y94::y95::y96::y97::y98::y99::y100::y101::y102::y103::y104::y105::y106::y107::y108::y109::y110::y111::y112::y113::y114::y115::y116::y117::y118::y119::(.slice G waits.length L)::(U waits.length)::u122::u123::u124::u125::u126::u127::u128::u129::u130::u131::u132::u133::u134::u135::u136::u137::u138::u139::u140::u141::u142::u143::u144::u145::u146::u147::u148::u149::u150::u151::u152::u153::u154::u155::u156::u157::u158::u159::u160::u161::u162::u163::u164::u165::y166::y167::y168::y169::y170::y171::y172::y173::y174::y175::y176::y177::y178::y179::y180::y181::y182::y183::y184::y185::y186::y187::y188::y189::y190::y191::y192::y193::y194::y195::y196::[]),[]⟩ w'):
 Code.wp Tryz.prog jas (λe a w=>e=.exit 4/\R a w) ⟨List.toArray ((PP b)::y1::y2::y3::y4::y5::y6::y7::(U (-1))::y9::y10::y11::y12::y13::y14::y15::y16::y17::y18::y19::y20::y21::y22::y23::y24::y25::y26::y27::y28::y29::y30::y31::y32::y33::y34::y35::y36::y37::y38::y39::y40::y41::y42::y43::y44::y45::y46::y47::y48::y49::y50::y51::y52::y53::y54::y55::y56::y57::y58::y59::y60::y61::y62::y63::y64::y65::y66::y67::y68::y69::y70::y71::y72::y73::y74::y75::y76::y77::y78::y79::y80::y81::y82::y83::y84::y85::y86::y87::y88::y89::y90::y91::y92::y93::y94::y95::y96::y97::y98::y99::y100::y101::y102::y103::y104::y105::y106::y107::y108::y109::y110::y111::y112::y113::y114::y115::y116::y117::y118::y119::(.slice G waits.length L)::(U waits.length)::(U 0)::y123::y124::y125::y126::y127::y128::y129::y130::y131::y132::y133::y134::y135::y136::y137::y138::y139::y140::y141::y142::y143::y144::y145::y146::y147::y148::y149::y150::y151::y152::y153::y154::y155::y156::y157::y158::y159::y160::y161::y162::y163::y164::y165::y166::y167::y168::y169::y170::y171::y172::y173::y174::y175::y176::y177::y178::y179::y180::y181::y182::y183::y184::y185::y186::y187::y188::y189::y190::y191::y192::y193::y194::y195::y196::[]),[]⟩ w:=by
 have HR:Hid _:=hR;have M:=hd3 PM hw hI
 have P:Hid (qdy w G L waits):=by
  obtain⟨a9,c9,e9,h9⟩:=yx PM.rwait;injection e9 with c g d;rw[c,d];exact h9
 have hvl:=P.out.len;have hvc:=P.out.cap;have hne:=qb.one
 conv=>arg 2;whnf
 go_loopw [8,122] (λbv iv wr=>∃(k:Nat) (z j:Int),k<=waits.length/\z=k/\bv=U j/\iv=U z/\Hid (qei S waits k j)/\Bw w wr) (λ_ i _=>waits.length-(intOf i).toNat)
 case atStart=>exact⟨0,0, -1,by omega,rfl,rfl,rfl,qyj S waits,jcc _ _⟩
 obtain⟨k,z,j,hk,hz,rfl,rfl,v,Q⟩:=hrel;have l:=hd1 hz;by_cases V:k<waits.length
 ·have g1:z<(waits.length:Int):=by omega
  have g2:z.toNat=k:=by omega
  have g3:0<=z:=by omega
  obtain⟨H,I,hwa,hcc⟩:∃H I,G=some (AD H I)/\∀i m r u,waits[i]?=some m->(txC m)[r]?=some u->w.cell? (AD H (I+(i*9+r)))=some u:=by
   rcases P.out.held with e|e
   ·rw[e]at V;simp at V
   exact e
  obtain⟨⟨⟨xs,f,n,o,h,c,g,d,p⟩,C,E⟩,W⟩:∃m,waits[k]?=some m:=⟨waits[k],jcg V⟩;have J:=hd1 W;have hok:=(M.out.2.2.wt ⟨xs,f,n,o,h,c,g,d,p⟩ (by rw[<-M.out.2.1];exact jcz.2 ⟨_,jcq W,rfl⟩)).1;obtain⟨⟨s0,s3⟩,_,_⟩:=qcg hok;simp only at s0 s3
  have s4:xs<4:=by omega
  have q:=λr u (hu:(txC ⟨⟨xs,f,n,o,h,c,g,d,p⟩,C,E⟩)[r]?=some u)=>(show wr.cell? (AD H (I+k*9+r))=some u by rw[Nat.add_assoc];exact cell_later Q (hcc k _ r u W hu));have x0:=q 0 _ rfl;have x1:=q 1 _ rfl;have x2:=q 2 _ rfl;have x3:=q 3 _ rfl;have x4:=q 4 _ rfl;have x5:=q 5 _ rfl;have x6:=q 6 _ rfl;have x7:=q 7 _ rfl;have x8:=q 8 _ rfl;rw[Nat.add_zero]at x0;have y:=boxed Q (.cells (List.toArray (T9 xs f n o h c g d C p.length E)) 102);have B:=qd.new (w:=wr) (T:=102) (T9 xs f n o h c g d C p.length E) rfl;change qd (wr.alloc (.cells (List.toArray (T9 xs f n o h c g d C p.length E)) 102)) wr.heap.size (T9 xs f n o h c g d C p.length E)at B;have F:=M.out.1.later y;have t0:=qb.cell (B.cell 0 _ rfl);have t1:=qb.cell (B.cell 1 _ rfl);have t4:=qb.cell (B.cell 4 _ rfl);have t5:=qb.cell (B.cell 5 _ rfl);have t6:=qb.cell (B.cell 6 _ rfl);have t7:=qb.cell (B.cell 7 _ rfl);have ks:=qb.cell (qkc F.box s0 s3);have k1:=qb.cell (F.box.cell 1 _ rfl);have k2:=qb.cell (F.box.cell 2 _ rfl);have k3:=qb.cell (F.box.cell 3 _ rfl);have k4:=qb.cell (F.box.cell 4 _ rfl);have k8:=qb.cell (F.box.cell 8 _ rfl);obtain⟨D,hD⟩:∃D,qp xs S.a0 S.a1 S.a2 S.a3=D:=⟨_,rfl⟩;have HD:=hd1 hD;have hdd:=M.out.2.2.dep xs;rw[hD]at ks hdd;have hwr:=qd1 hdd
  have X:Hid (qz S ⟨xs,f,n,o,h,c,g,d,p⟩=(decide (f=D+1)&&qa8 S.a0 S.a1 S.a2 S.a3 h c g d)):=by show qz S ⟨xs,f,n,o,h,c,g,d,p⟩=_;unfold qz;rw[HD.out]
  rw[hwa]at k8 ⊢;have HCC:=hd1 hcc;by_cases N:f=D+1
  ·have q2:(f==D+1)=true:=by simp[N]
   have HQ:=hd1 N;cases hc:qa8 S.a0 S.a1 S.a2 S.a3 h c g d
   ·have K:=hd1 hc
    have Y:Hid (qz S ⟨xs,f,n,o,h,c,g,d,p⟩=false):=by show _=_;rw[X.out,hc];simp
    go_wp2_with fail
    refine wrl ?_
    repeat (go_big_quiet_step (first|rfl|(go_at_call 77;with_reducible exact qg (yo K.out _))))
    refine wpQuiet_nil ?_;rintro O ⟨⟨_,s⟩,rfl⟩
    go_wp2_with fail
    go_roundw
    case rel=>exact⟨k+1,z+1,j,by omega,by have:=l.out;omega,rfl,by go_num,qz5 v.out J.out Y.out,qa y s⟩
    simp[intOf];have:=l.out;omega
   have K:=hd1 hc
   have HY:Hid (qz S ⟨xs,f,n,o,h,c,g,d,p⟩=true):=by show _=_;rw[X.out,hc,HQ.out];simp
   by_cases hbz:j<0
   ·have HE:Hid (j= -1):=by
     show _=_;rcases v.out with ⟨e,_⟩|⟨i,x,e,_⟩
     ·exact e
     omega
    go_wp2_with fail
    refine wrl ?_
    repeat (go_big_quiet_step (first|rfl|(go_at_call 77;with_reducible exact qg (yo K.out _))))
    refine wpQuiet_nil ?_;rintro O ⟨⟨_,s⟩,rfl⟩
    go_wp2_with fail
    go_roundw
    case rel=>exact⟨k+1,z+1,z,by omega,by have:=l.out;omega,rfl,by go_num,(by rw[l.out];exact qyl (by rw[<-HE.out];exact v.out) J.out HY.out),qa y s⟩
    simp[intOf];have:=l.out;omega
   obtain⟨i,⟨⟨bs,bq,bw,bc,f0,f1,f2,f3,bws⟩,ba,bcap⟩,hzi,hik,hbx⟩:=q90 v.out (by omega);have HBX:=hd1 hbx;have Z:=hd2 hzi (show qei S waits k i from by rw[<-hzi];exact v.out);have b1:=decide_eq_false hbz
   have z0:0<=j:=by omega
   have z1:j.toNat=i:=by omega
   have z2:j<(waits.length:Int):=by omega
   have cb:(wr.alloc (.cells (List.toArray (T9 xs f n o h c g d C p.length E)) 102)).cell? (AD H (I+i*9))=some (U bs):=cell_later y (HCC.out i _ 0 _ hbx rfl);have cbl:=qb.cell cb;by_cases hl:xs<bs
   ·have b2:=decide_eq_true hl
    go_wp2_with fail
    refine wrl ?_
    repeat (go_big_quiet_step (first|rfl|(go_at_call 77;with_reducible exact qg (yo K.out _))))
    refine wpQuiet_nil ?_;rintro O ⟨⟨_,s⟩,rfl⟩
    go_wp2_with fail
    go_roundw
    case rel=>exact⟨k+1,z+1,z,by omega,by have:=l.out;omega,rfl,by go_num,(by rw[l.out];exact q1o Z.out.2 HBX.out J.out HY.out hl),qa y s⟩
    simp[intOf];have:=l.out;omega
   have b2:=decide_eq_false hl
   go_wp2_with fail
   refine wrl ?_
   repeat (go_big_quiet_step (first|rfl|(go_at_call 77;with_reducible exact qg (yo K.out _))))
   refine wpQuiet_nil ?_;rintro O ⟨⟨_,s⟩,rfl⟩
   go_wp2_with fail
   go_roundw
   case rel=>exact⟨k+1,z+1,j,by omega,by have:=l.out;omega,rfl,by go_num,(by rw[Z.out.1];exact q2x Z.out.2 HBX.out J.out (by simp only;omega)),qa y s⟩
   simp[intOf];have:=l.out;omega
  have q2:(f==D+1)=false:=by simp[N]
  have Y:Hid (qz S ⟨xs,f,n,o,h,c,g,d,p⟩=false):=by show _=_;rw[X.out];simp[N]
  go_wp2_with fail
  refine wrl ?_
  repeat (go_big_quiet_step (first|rfl|fail))
  refine wpQuiet_nil ?_;rintro O ⟨⟨_,s⟩,rfl⟩
  go_wp2_with fail
  go_roundw
  case rel=>exact⟨k+1,z+1,j,by omega,by have:=l.out;omega,rfl,by go_num,qz5 v.out J.out Y.out,qa y s⟩
  simp[intOf];have:=l.out;omega
 have g1:¬z<(waits.length:Int):=by omega
 have hkk:k=waits.length:=by omega
 subst hkk
 go_wp2_with fail
 exact HR.out _ _ _ _ _ _ _ _ _ _ _ _ _ _ _ _ _ _ _ _ _ _ _ _ _ _ _ _ _ _ _ _ _ _ _ _ _ _ _ _ _ _ _ _ _ _ j wr v.out Q
end
section
open Go.RowKit
theorem qqk {b:Nat} {lv wv sv:Value} {S:qe} {log waits:List TxM} (a:Int) (w:World) (h:vu w b lv wv sv S log waits):
 Ca 87 #[PP b,U a] w λe w'=>
  e=.returned (.agg #[U (qj S (jw a)).v0,U (qj S (jw a)).v1,U (qj S (jw a)).v2,U (qj S (jw a)).v3])/\Bw w w':=by
 have F:=(qo.new w 77 0 0 0 0).boxed (.cells #[U S.a0,U S.a1,U S.a2,U S.a3] 77);have G:=qo.newest (w:=w.alloc (.cells #[U 0,U 0,U 0,U 0] 77)) (T:=77) (n:=w.heap.size+1) (a0:=S.a0) (a1:=S.a1) (a2:=S.a2) (a3:=S.a3) (by simp);have H:=boxed (boxed (jcc _ w) (.cells #[U 0,U 0,U 0,U 0] 77)) (.cells #[U S.a0,U S.a1,U S.a2,U S.a3] 77);have P:=hd1 h;have I:=h.box.lt;have Q:=h.box.cell 1 _ rfl;have R:=h.box.cell 2 _ rfl;have V:=h.box.cell 3 _ rfl;have X:=h.box.cell 4 _ rfl;clear h;go_enter Tryz.func87,Tryz.ntmps87
 go_wp2_with fail
 have s:Hid (StM w S 0 ((w.alloc (.cells #[U 0,U 0,U 0,U 0] 77)).alloc (.cells #[U S.a0,U S.a1,U S.a2,U S.a3] 77))):=⟨F,G,H⟩;obtain⟨W,J⟩:∃W,(w.alloc (.cells #[U 0,U 0,U 0,U 0] 77)).alloc (.cells #[U S.a0,U S.a1,U S.a2,U S.a3] 77)=W:=⟨_,rfl⟩;rw[J]at s ⊢;clear J F G H Q R V X I
 go_loopw [6] (λiv wr=>∃(k:Nat) (z:Int),k<=(jw a)/\z=k/\iv=U z/\Hid (StM w S k wr)) (λi _=>4-(intOf i).toNat)
 case atStart=>exact⟨0,0,by omega,rfl,rfl,s⟩
 clear s;obtain⟨k,z,hk,p,rfl,c⟩:=hrel;have K:=hd1 p;have hcut:(jw a)=min 4 a.toNat:=rfl;by_cases I:k<(jw a)
 ·have Y:z<a:=by omega
  have Z:z<4:=by omega
  have h5:0<=z:=by omega
  have h6:z.toNat=k:=by omega
  have aa:k<4:=by omega
  clear hcut;have f:=P.out.later c.out.b;have i0:=f.box.cell 0 _ rfl;by_cases t:z=S.id
  ·have e:Hid (qj S (k+1)=qj S k):=by
        show qj S (k+1)=qj S k
        have:(k:Int)=S.id:=by omega
        simp[qj,this]
   have ab:Hid (StM w S (k+1) wr):=⟨c.out.r,by rw[e.out];exact c.out.v,c.out.b⟩
   have hd:(z==S.id)=true:=by simp[t]
   clear p f
   go_wp2_with fail
   go_roundw
   case rel=>exact⟨k+1,z+1,by omega,by have:=K.out;omega,by go_num,ab⟩
   simp[intOf];omega
  have hd:(z==S.id)=false:=by simp[t]
  obtain⟨L,M,N,O⟩:=q27 (S:=S) (lv:=lv) (wv:=wv) (sv:=sv) aa;have q0:=f.box.cell _ _ L;have q1:=f.box.cell _ _ M;have q2:=f.box.cell _ _ N;have q3:=f.box.cell _ _ O;obtain⟨⟨g,j,l,m⟩,u⟩:∃v,qj S k=v:=⟨_,rfl⟩;obtain⟨p0,y⟩:∃x,S.oth (k*4)=x:=⟨_,rfl⟩;obtain⟨p1,B⟩:∃x,S.oth (k*4+1)=x:=⟨_,rfl⟩;obtain⟨p2,C⟩:∃x,S.oth (k*4+2)=x:=⟨_,rfl⟩;obtain⟨p3,D⟩:∃x,S.oth (k*4+3)=x:=⟨_,rfl⟩
  have EQ:Hid (qj S (k+1)=⟨qm g p0,qm j p1,qm l p2,qm m p3⟩):=by
   show qj S (k+1)=_
   have:¬(k:Int)=S.id:=by omega
   simp[qj,this,u,y,B,C,D]
  rw[y]at q0;rw[B]at q1;rw[C]at q2;rw[D]at q3
  have o:qo wr (w.heap.size+1) g j l m:=by have:=c.out.v;rw[u]at this;exact this
  have x0:=o.c0;have x1:=o.c1;have x2:=o.c2;have x3:=o.c3
  have PU:Hid (Ca 86 #[.agg #[U g,U j,U l,U m],.agg #[U p0,U p1,U p2,U p3]] wr.drew λe w'=>e=.returned (.agg #[U (qm g p0),U (qm j p1),U (qm l p2),U (qm m p3)])/\qo w' w.heap.size 0 0 0 0/\qo w' (w.heap.size+1) g j l m/\Bw w w'):=
   (qgh g j l m p0 p1 p2 p3 wr.drew).mono λe w' ⟨he,E⟩=>⟨he,qo.later E c.out.r.drew,qo.later E o.drew,qa c.out.b.drew E⟩
  have hB:w.heap.size<=w.heap.size+1:=by omega
  have hBB:=c.out.b.drew;clear p f L M N O u y B C D o c t
  go_wp2_with fail
  go_region_with
   (first|(go_at_call 86;with_reducible refine PU.out.mono ?_;rintro e w5 ⟨rfl,RR5,d,hb5⟩;have y0:=d.c0;have y1:=d.c1;have y2:=d.c2;have y3:=d.c3;have z0:=d.f0;have z1:=d.f1;have z2:=d.f2;have z3:=d.f3))
  all_goals
   have SM:Hid (StM w S (k+1) ((((w5.setCell (AD (w.heap.size+1) 0) (U (qm g p0))).setCell (AD (w.heap.size+1) 1) (U (qm j p1))).setCell (AD (w.heap.size+1) 2) (U (qm l p2))).setCell (AD (w.heap.size+1) 3) (U (qm m p3)))):=
        ⟨RR5.far4 (by omega),by rw[EQ.out];exact d.set,qj9 hb5 hB _ _ _ _⟩
   go_wp2_with fail
   go_roundw
   case rel=>exact⟨k+1,z+1,by omega,by have:=K.out;omega,by go_num,SM⟩
   simp[intOf];omega
 have hke:k=(jw a):=by omega
 by_cases Y:z<a
 have Z:¬z<4:=by omega
 all_goals
  clear hcut;subst hke;have r0:=c.out.r.c0;have r1:=c.out.r.c1;have r2:=c.out.r.c2;have r3:=c.out.r.c3;have f0:=c.out.r.f0;have f1:=c.out.r.f1;have f2:=c.out.r.f2;have f3:=c.out.r.f3;have x0:=c.out.v.c0;have x1:=c.out.v.c1;have x2:=c.out.v.c2;have x3:=c.out.v.c3;have q:=c.out.r.set (x0:=(qj S (jw a)).v0) (x1:=(qj S (jw a)).v1) (x2:=(qj S (jw a)).v2) (x3:=(qj S (jw a)).v3);have hbZ:=qj9 c.out.b (jcd _) (qj S (jw a)).v0 (qj S (jw a)).v1 (qj S (jw a)).v2 (qj S (jw a)).v3;have g0:=q.c0;have g1:=q.c1;have g2:=q.c2;have g3:=q.c3;clear p
  go_wp2_with fail
  exact bodyPost_ret (v:=.agg #[U (qj S (jw a)).v0,U (qj S (jw a)).v1,U (qj S (jw a)).v2,U (qj S (jw a)).v3]) (by simp[results,Tryz.results87,go_sem,g0,g1,g2,g3]) rfl ⟨rfl,hbZ⟩
end
section
open Go.RowKit
theorem qyt {F P:Nat} {sv:Value} {l:List Hd} (a0 a1 a2 a3:Int) (w:World) (Q:qfs w F P sv l) (hl:l.length<=1000):
 Ca 88 #[.pointer (some (AD F P)),.agg #[U a0,U a1,U a2,U a3]] w λe w'=>e=.returned (.tuple #[])/\qdg w F P sv (qcr a0 a1 a2 a3 l) w':=by
 have hne:=qb.one;obtain⟨a,cap,rfl,hH⟩:=qhq Q.own;have q:=qo.new w 77 a0 a1 a2 a3;have p:=boxed (jcc _ w) (.cells #[U a0,U a1,U a2,U a3] 77);have S1:=Q.later p;have s0:=S1.box.cell;have hsb:=Q.box.lt;go_enter Tryz.func88,Tryz.ntmps88
 go_wp2_with fail
 obtain⟨W,hWW⟩:∃W,w.alloc (.cells #[U a0,U a1,U a2,U a3] 77)=W:=⟨_,rfl⟩;rw[hWW]at q p ⊢
 go_loopw [4,14] (λsl iv wr=>∃(k:Nat) (z:Int) (t:List Hd) (lv:Value),lv=sl/\k<=l.length/\z=k/\iv=U z/\(l.take k).filter (qfh a0 a1 a2 a3 l)=t/\wr.ownsRow (w.heap.size+1) 185 7 lv t.length (qjb t)/\qo wr w.heap.size a0 a1 a2 a3/\Bw w wr) (λ_ i _=>l.length-(intOf i).toNat)
 case atStart=>exact⟨0,0,[],_,rfl,by omega,rfl,rfl,rfl,jcx _ _ _ _,q,p⟩
 obtain⟨k,z,t,lv,hsl,hk,hz,rfl,hkp,B,q,p⟩:=hrel;subst hsl;have R:=hd1 hkp;have HZ:=hd1 hz;by_cases D:k<l.length
 ·have h1:z<(l.length:Int):=by omega
  have h2:z.toNat=k:=by omega
  have h3:0<=z:=by omega
  have Y:=Q.later p;have hH4:=hH.later p
  obtain⟨b,J,rfl,Z⟩:∃b J,a=some (AD b J)/\∀i r u,i<l.length->(hdL (qbd l i))[r]?=some u->wr.cell? (AD b (J+(i*7+r)))=some u:=by
   rcases hH4.held with h0|h0
   ·rw[h0]at D;simp at D
   exact h0
  obtain⟨⟨y,⟨h,m,d,f,n,o⟩⟩,G⟩:∃x,qbd l k=x:=⟨_,rfl⟩;have x0:wr.cell? (AD b (J+k*7))=some (U y):=Z k 0 _ D (by rw[G];rfl);have x1:wr.cell? (AD b (J+k*7+1))=some (U h):=Z k 1 _ D (by rw[G];rfl);have x2:wr.cell? (AD b (J+k*7+2))=some (U m):=Z k 2 _ D (by rw[G];rfl);have x3:wr.cell? (AD b (J+k*7+3))=some (U d):=Z k 3 _ D (by rw[G];rfl);have x4:wr.cell? (AD b (J+k*7+4))=some (U f):=Z k 4 _ D (by rw[G];rfl);have x5:wr.cell? (AD b (J+k*7+5))=some (.string n):=Z k 5 _ D (by rw[G];rfl);have x6:wr.cell? (AD b (J+k*7+6))=some (.bool o):=Z k 6 _ D (by rw[G];rfl);have hsite:=qk5 (Q.ok (qbd l k) (by simp only[qbd,List.getD,jcg D,Option.getD_some];exact jdr D));rw[G]at hsite;simp only at hsite;obtain⟨t0,t1⟩:=hsite
  have t2:d<4:=by omega
  have HX:=hd1 G;replace Y:=Y.later (boxed (jcc _ wr) (.cells #[U y,U h,U m,U d,U f,.string n,.bool o] 185));replace hH4:=hH4.later (boxed (jcc _ wr) (.cells #[U y,U h,U m,U d,U f,.string n,.bool o] 185));replace q:=q.boxed (.cells #[U y,U h,U m,U d,U f,.string n,.bool o] 185);replace B:=B.alloc (.cells #[U y,U h,U m,U d,U f,.string n,.bool o] 185);replace p:=boxed p (.cells #[U y,U h,U m,U d,U f,.string n,.bool o] 185);have c:=qd.new (w:=wr) (T:=185) [U y,U h,U m,U d,U f,.string n,.bool o] rfl;have c0:=q.c0;have c1:=q.c1;have c2:=q.c2;have c3:=q.c3;have y0:=c.cell 0 _ rfl
  go_wp2_with fail
  refine(qri y a0 a1 a2 a3 _ (Y.box.cell) hH4 Q.ok (by omega)).mono ?_;rintro e w2 ⟨rfl,hb2⟩;obtain⟨best,hbest⟩:∃best,zn y a0 a1 a2 a3 l=best:=⟨_,rfl⟩
  have KE:Hid (qfh a0 a1 a2 a3 l (qbd l k)=(!(qga best)||eqV (best.getD jq) ⟨h,m,d,f,n,o⟩||!(qdp a0 a1 a2 a3 ⟨h,m,d,f,n,o⟩))):=by
   show qfh a0 a1 a2 a3 l (qbd l k)=_;rw[HX.out,<-hbest];rfl
  rw[hbest,qjl];obtain⟨sbv,hsbv⟩:∃s,qga best=s:=⟨_,rfl⟩;obtain⟨bv,hbv⟩:∃v,best.getD jq=v:=⟨_,rfl⟩;rw[hsbv,hbv]at KE ⊢;obtain⟨K,L,bs,M,N,O⟩:=bv;rw[show qh ⟨K,L,bs,M,N,O⟩=[U K,U L,U bs,U M,.string N,.bool O]from rfl];replace q:=(q.later hb2).boxed (.cells #[U K,U L,U bs,U M,.string N,.bool O] 130);replace c:=(c.later hb2).boxed (.cells #[U K,U L,U bs,U M,.string N,.bool O] 130);replace B:=(qe1 B hb2).alloc (.cells #[U K,U L,U bs,U M,.string N,.bool O] 130);replace p:=boxed (qa p hb2) (.cells #[U K,U L,U bs,U M,.string N,.bool O] 130);have RB:=qd.new (w:=w2) (T:=130) [U K,U L,U bs,U M,.string N,.bool O] rfl;have hat:=qb.cell (qk9 q t0 t1);have w0:=qb.cell (c.cell 0 _ rfl);have w1:=qb.cell (c.cell 1 _ rfl);have w2':=qb.cell (c.cell 2 _ rfl);have w3:=qb.cell (c.cell 3 _ rfl);have w4:=qb.cell (c.cell 4 _ rfl);have w5':=qb.cell (c.cell 5 _ rfl);have w6:=qb.cell (c.cell 6 _ rfl);have v0:=qb.cell (RB.cell 0 _ rfl);have v1:=qb.cell (RB.cell 1 _ rfl);have v2:=qb.cell (RB.cell 2 _ rfl);have v3:=qb.cell (RB.cell 3 _ rfl);have v4:=qb.cell (RB.cell 4 _ rfl);have v5:=qb.cell (RB.cell 5 _ rfl);cases sbv
  ·go_wp2_with fail
   refine wrl ?_
   repeat (go_big_quiet_step (fail))
   refine wpQuiet_nil ?_;rintro H ⟨⟨_,C⟩,rfl⟩;replace q:=q.later C;replace c:=c.later C;replace B:=qe1 B C;replace p:=qa p C
   have KF:Hid ((l.take (k+1)).filter (qfh a0 a1 a2 a3 l)=t++[⟨y,⟨h,m,d,f,n,o⟩⟩]):=by
        have e:qfh a0 a1 a2 a3 l (qbd l k)=true:=by rw[KE.out];rfl
        show (l.take (k+1)).filter (qfh a0 a1 a2 a3 l)=_;rw[qn0 D,jdk,R.out,<-HX.out];simp[e]
   have y0:=c.cell 0 _ rfl;have y1:=c.cell 1 _ rfl;have y2:=c.cell 2 _ rfl;have y3:=c.cell 3 _ rfl;have y4:=c.cell 4 _ rfl;have y5:=c.cell 5 _ rfl;have y6:=c.cell 6 _ rfl;obtain⟨i0,hi,hz0,hz1,hz2⟩:=info_parts qj2;have hk6:=qj6 R.out
   have hsz5:w.heap.size+1<=H.heap.size:=by have:=q.lt;omega
   go_wp2_with (at_builtin;refine wpList_append_lies _ rfl (.tmp 45) (.tmp 47) 81 rfl (w.heap.size+1) 185 i0 (.agg #[U 0,U 0,U 0,U 0,U 0,.string ⟨#[]⟩,.bool false]) 7 64 Tryz.underlying81 hi hz0 hz1 hz2 rfl (by decide) lv t.length (qjb t) rfl (B.alloc _) (AD H.heap.size 0) 1 1 (hdL ⟨y,⟨h,m,d,f,n,o⟩⟩) rfl rfl (World.news_of_block (heap_alloc_new H (.cells #[U y,U h,U m,U d,U f,.string n,.bool o] 185))) (by intro u S;simp[hdL]at S;rcases S with rfl|rfl|rfl|rfl|rfl|rfl|rfl<;>rfl) (by decide) (by simp only[maxLen];omega) (by omega) (by simp;omega) _ rfl ?_;intro g V wE ownE X egE ltE)
   have I:=λj E=>(B.lt j E).1;have RAE:=(q.boxed (.cells #[U y,U h,U m,U d,U f,.string n,.bool o] 185)).grown4 X (λe=>by have:=I _ e.symm;omega);have hbE:=(boxed p (.cells #[U y,U h,U m,U d,U f,.string n,.bool o] 185)).grown X (by have:=p.size;simp;omega) (λj E=>by have:=I j E;omega)
   go_roundw
   case rel=>exact⟨k+1,z+1,t++[⟨y,⟨h,m,d,f,n,o⟩⟩],_,rfl,by omega,by have:=HZ.out;omega,by go_num,KF.out,by rw[qh8,jcl];exact ownE,RAE,hbE⟩
   simp[intOf];omega
  cases ev:eqV ⟨K,L,bs,M,N,O⟩ ⟨h,m,d,f,n,o⟩
  ·have eqv2:=λw=>(qzu ⟨K,L,bs,M,N,O⟩ ⟨h,m,d,f,n,o⟩ w).trans (by rw[ev]);cases hh:qdp a0 a1 a2 a3 ⟨h,m,d,f,n,o⟩
   ·have dh:decide (qp d a0 a1 a2 a3<f)=true:=decide_eq_true (by have:=of_decide_eq_false (show decide (f<=qp d a0 a1 a2 a3)=false from hh);omega)
    go_wp2_with fail
    refine wrl ?_
    repeat (go_big_quiet_step (fail))
    refine wpQuiet_nil ?_;rintro H ⟨⟨_,C⟩,rfl⟩;replace q:=q.later C;replace c:=c.later C;replace B:=qe1 B C;replace p:=qa p C
    have KF:Hid ((l.take (k+1)).filter (qfh a0 a1 a2 a3 l)=t++[⟨y,⟨h,m,d,f,n,o⟩⟩]):=by
     have e:qfh a0 a1 a2 a3 l (qbd l k)=true:=by rw[KE.out];rw[ev,hh];rfl
     show (l.take (k+1)).filter (qfh a0 a1 a2 a3 l)=_;rw[qn0 D,jdk,R.out,<-HX.out];simp[e]
    have y0:=c.cell 0 _ rfl;have y1:=c.cell 1 _ rfl;have y2:=c.cell 2 _ rfl;have y3:=c.cell 3 _ rfl;have y4:=c.cell 4 _ rfl;have y5:=c.cell 5 _ rfl;have y6:=c.cell 6 _ rfl;obtain⟨i0,hi,hz0,hz1,hz2⟩:=info_parts qj2;have hk6:=qj6 R.out
    have hsz5:w.heap.size+1<=H.heap.size:=by have:=q.lt;omega
    go_wp2_with (at_builtin;refine wpList_append_lies _ rfl (.tmp 45) (.tmp 47) 81 rfl (w.heap.size+1) 185 i0 (.agg #[U 0,U 0,U 0,U 0,U 0,.string ⟨#[]⟩,.bool false]) 7 64 Tryz.underlying81 hi hz0 hz1 hz2 rfl (by decide) lv t.length (qjb t) rfl (B.alloc _) (AD H.heap.size 0) 1 1 (hdL ⟨y,⟨h,m,d,f,n,o⟩⟩) rfl rfl (World.news_of_block (heap_alloc_new H (.cells #[U y,U h,U m,U d,U f,.string n,.bool o] 185))) (by intro u S;simp[hdL]at S;rcases S with rfl|rfl|rfl|rfl|rfl|rfl|rfl<;>rfl) (by decide) (by simp only[maxLen];omega) (by omega) (by simp;omega) _ rfl ?_;intro g V wE ownE X egE ltE)
    have I:=λj E=>(B.lt j E).1;have RAE:=(q.boxed (.cells #[U y,U h,U m,U d,U f,.string n,.bool o] 185)).grown4 X (λe=>by have:=I _ e.symm;omega);have hbE:=(boxed p (.cells #[U y,U h,U m,U d,U f,.string n,.bool o] 185)).grown X (by have:=p.size;simp;omega) (λj E=>by have:=I j E;omega)
    go_roundw
    case rel=>exact⟨k+1,z+1,t++[⟨y,⟨h,m,d,f,n,o⟩⟩],_,rfl,by omega,by have:=HZ.out;omega,by go_num,KF.out,by rw[qh8,jcl];exact ownE,RAE,hbE⟩
    simp[intOf];omega
   have dh:decide (qp d a0 a1 a2 a3<f)=false:=decide_eq_false (by have:=of_decide_eq_true (show decide (f<=qp d a0 a1 a2 a3)=true from hh);omega)
   go_wp2_with fail
   refine wrl ?_
   repeat (go_big_quiet_step (fail))
   refine wpQuiet_nil ?_;rintro H ⟨⟨_,C⟩,rfl⟩;replace q:=q.later C;replace c:=c.later C;replace B:=qe1 B C;replace p:=qa p C
   have KF:Hid ((l.take (k+1)).filter (qfh a0 a1 a2 a3 l)=t):=by
        have e:qfh a0 a1 a2 a3 l (qbd l k)=false:=by rw[KE.out];rw[ev,hh];rfl
        show (l.take (k+1)).filter (qfh a0 a1 a2 a3 l)=t;rw[qn0 D,jdk,R.out];simp[e]
   go_wp2_with fail
   go_roundw
   case rel=>exact⟨k+1,z+1,t,_,rfl,by omega,by have:=HZ.out;omega,by go_num,KF.out,B,q,p⟩
   simp[intOf];omega
  have eqv2:=λw=>(qzu ⟨K,L,bs,M,N,O⟩ ⟨h,m,d,f,n,o⟩ w).trans (by rw[ev])
  go_wp2_with fail
  refine wrl ?_
  repeat (go_big_quiet_step (fail))
  refine wpQuiet_nil ?_;rintro H ⟨⟨_,C⟩,rfl⟩;replace q:=q.later C;replace c:=c.later C;replace B:=qe1 B C;replace p:=qa p C
  have KF:Hid ((l.take (k+1)).filter (qfh a0 a1 a2 a3 l)=t++[⟨y,⟨h,m,d,f,n,o⟩⟩]):=by
   have e:qfh a0 a1 a2 a3 l (qbd l k)=true:=by rw[KE.out];rw[ev];rfl
   show (l.take (k+1)).filter (qfh a0 a1 a2 a3 l)=_;rw[qn0 D,jdk,R.out,<-HX.out];simp[e]
  have y0:=c.cell 0 _ rfl;have y1:=c.cell 1 _ rfl;have y2:=c.cell 2 _ rfl;have y3:=c.cell 3 _ rfl;have y4:=c.cell 4 _ rfl;have y5:=c.cell 5 _ rfl;have y6:=c.cell 6 _ rfl;obtain⟨i0,hi,hz0,hz1,hz2⟩:=info_parts qj2;have hk6:=qj6 R.out
  have hsz5:w.heap.size+1<=H.heap.size:=by have:=q.lt;omega
  go_wp2_with (at_builtin;refine wpList_append_lies _ rfl (.tmp 45) (.tmp 47) 81 rfl (w.heap.size+1) 185 i0 (.agg #[U 0,U 0,U 0,U 0,U 0,.string ⟨#[]⟩,.bool false]) 7 64 Tryz.underlying81 hi hz0 hz1 hz2 rfl (by decide) lv t.length (qjb t) rfl (B.alloc _) (AD H.heap.size 0) 1 1 (hdL ⟨y,⟨h,m,d,f,n,o⟩⟩) rfl rfl (World.news_of_block (heap_alloc_new H (.cells #[U y,U h,U m,U d,U f,.string n,.bool o] 185))) (by intro u S;simp[hdL]at S;rcases S with rfl|rfl|rfl|rfl|rfl|rfl|rfl<;>rfl) (by decide) (by simp only[maxLen];omega) (by omega) (by simp;omega) _ rfl ?_;intro g V wE ownE X egE ltE)
  have I:=λj E=>(B.lt j E).1;have RAE:=(q.boxed (.cells #[U y,U h,U m,U d,U f,.string n,.bool o] 185)).grown4 X (λe=>by have:=I _ e.symm;omega);have hbE:=(boxed p (.cells #[U y,U h,U m,U d,U f,.string n,.bool o] 185)).grown X (by have:=p.size;simp;omega) (λj E=>by have:=I j E;omega)
  go_roundw
  case rel=>exact⟨k+1,z+1,t++[⟨y,⟨h,m,d,f,n,o⟩⟩],_,rfl,by omega,by have:=HZ.out;omega,by go_num,KF.out,by rw[qh8,jcl];exact ownE,RAE,hbE⟩
  simp[intOf];omega
 have h4:¬z<(l.length:Int):=by omega
 have e:k=l.length:=by omega
 have KP:Hid (qcr a0 a1 a2 a3 l=t):=by
  show qcr a0 a1 a2 a3 l=t;have:=R.out;rw[e,jc9]at this;exact this
 have Y:=Q.later p;have s0:=Y.box.cell;have s1:=Y.box.free;have I:=λj E=>(B.lt j E).1;obtain⟨a9,V,rfl,_⟩:=qhq B;have BZ:=Y.box.set (.slice a9 t.length V)
 have nsb:(Value.slice a9 t.length V).ownBlock≠some F:=λe=>by have:=I F e;omega
 have ownZ:=Joins.ownsRow_le (B.kept (row:=some F) (qhs F P wr (.slice a9 t.length V)) (.inr nsb)) (jcw _);have TZ:qc (q0q F (.slice a l.length cap)) w (wr.setCell (AD F P) (.slice a9 t.length V)):=(qc.ofBelow p).trans (qc.setCell wr (AD F P) _ (.inl rfl))
 have FIN:Hid (qdg w F P (.slice a l.length cap) t (wr.setCell (AD F P) (.slice a9 t.length V))):=
  ⟨_,⟨BZ,ownZ,nsb,λx G=>by
    rw[<-KP.out]at G
    exact Q.ok x (jdq.1 G).1⟩,λj E=>.inr (by have:=I j E;omega),TZ,(qc6.ofBlock (p.block F hsb)).trans (qc6.set F P wr _)⟩
 go_wp2_with fail
 go_end0;exact⟨rfl,by rw[KP.out];exact FIN.out⟩
end
section
open Go.RowKit
theorem q3m {L M:Nat} {sv:Value} {l:List Hd} (a0 a1 a2 a3:Int) (w:World) (D:qfs w L M sv l) (hl:l.length<=1000):
 Ca 43 #[.pointer (some (AD L M)),.agg #[U a0,U a1,U a2,U a3]] w λe w'=>∃v,e=.returned v/\w'.ownsRow (w.heap.size+1) 9 1 v 8 (qej a0 a1 a2 a3 l 8)/\Bw w w':=by
 obtain⟨a,cap,rfl,hH⟩:=qhq D.own;have c:=qo.new w 77 a0 a1 a2 a3;have d:=boxed (jcc _ w) (.cells #[U a0,U a1,U a2,U a3] 77);go_enter Tryz.func43,Tryz.ntmps43
 go_wp2_with fail
 obtain⟨W,N⟩:∃W,w.alloc (.cells #[U a0,U a1,U a2,U a3] 77)=W:=⟨_,rfl⟩;rw[N]at c d ⊢;clear N
 go_loopw [5,9] (λsl iv wr=>∃(k:Nat) (z:Int) (lv:Value),lv=sl/\k<=8/\z=k/\iv=U z/\wr.ownsRow (w.heap.size+1) 9 1 lv k (qej a0 a1 a2 a3 l k)/\qo wr w.heap.size a0 a1 a2 a3/\Bw w wr) (λ_ i _=>8-(intOf i).toNat)
 case atStart=>exact⟨0,0,_,rfl,by omega,rfl,rfl,jcx _ _ _ _,c,d⟩
 clear c d;obtain⟨k,z,lv,hsl,hk,O,rfl,r,c,d⟩:=hrel;subst hsl;have E:=hd1 O;by_cases hlt:k<8
 ·have h1:z<8:=by omega
  have h3:0<=z:=by omega
  have Q:=D.later d;have R:=hH.later d;have c0:=c.c0;have c1:=c.c1;have c2:=c.c2;have c3:=c.c3;clear O
  go_wp2_with fail
  refine(qrb z a0 a1 a2 a3 _ (Q.box.cell) R D.ok (by omega)).mono ?_;rintro e w2 ⟨rfl,q⟩;clear c0 c1 c2 c3 Q R;have F:=qoc (key:=z) (a0:=a0) (a1:=a1) (a2:=a2) (a3:=a3) D.ok
  have s:Hid (qdf a0 a1 a2 a3 l k=if (zz z a0 a1 a2 a3 l).2=0 then (⟨#[61]⟩:ByteArray)++(zz z a0 a1 a2 a3 l).1.data else ⟨#[]⟩):=by
   show qdf a0 a1 a2 a3 l k=_;rw[E.out];rfl
  obtain⟨⟨rv,S⟩,V⟩:∃x,zz z a0 a1 a2 a3 l=x:=⟨_,rfl⟩;rw[V]at s F ⊢;simp only at s F ⊢;clear V;obtain⟨f,m,bs,n,b,o⟩:=rv;simp only at s F;rw[show qh ⟨f,m,bs,n,b,o⟩=[U f,U m,U bs,U n,.string b,.bool o]from rfl];replace c:=(c.later q).boxed (.cells #[U f,U m,U bs,U n,.string b,.bool o] 130);have X:=r.kept (row:=none) ⟨q.os,q.tape,q.output,q.size,λj p _=>q.block j p⟩ (by cases lv.ownBlock<;>simp);replace r:=X.alloc (.cells #[U f,U m,U bs,U n,.string b,.bool o] 130);replace d:=boxed (qa d q) (.cells #[U f,U m,U bs,U n,.string b,.bool o] 130);have RB:=qd.new (w:=w2) (T:=130) [U f,U m,U bs,U n,.string b,.bool o] rfl;clear q X;have d3:=RB.cell 4 _ rfl;obtain⟨Y,hi,Z,aa,ab⟩:=info_parts qki
  have hsz:w.heap.size+1<=w2.heap.size+1:=by have h:=c.lt;rw[jdi]at h;omega
  by_cases t:S=0
  ·have ee:(S==0)=true:=by simp[t]
   have G:Hid (qdf a0 a1 a2 a3 l k=(⟨#[61]⟩:ByteArray)++b):=by show qdf a0 a1 a2 a3 l k=_;rw[s.out,if_pos t]
   have ad:=λw=>qfi (P:=Tryz.prog) (⟨#[61]⟩:ByteArray) b (by have z:(⟨#[61]⟩:ByteArray).size=1:=rfl;omega) w;clear t s
   have H:((w2.alloc (.cells #[U f,U m,U bs,U n,.string b,.bool o] 130)).alloc (.cells #[.string ((⟨#[61]⟩:ByteArray)++b)] 9)).heap[w2.heap.size+1]?=some (.cells #[.string ((⟨#[61]⟩:ByteArray)++b)] 9):=by have h:=heap_alloc_new (w2.alloc (.cells #[U f,U m,U bs,U n,.string b,.bool o] 130)) (.cells #[.string ((⟨#[61]⟩:ByteArray)++b)] 9);rw[jdi]at h;exact h
   go_wp2_with (at_builtin;refine wpList_append_lies _ rfl (.tmp 21) (.tmp 25) 42 rfl (w.heap.size+1) 9 Y (.string ⟨#[]⟩) 1 16 Tryz.underlying42 hi Z aa ab rfl (by decide) lv k (qej a0 a1 a2 a3 l k) rfl (r.alloc _) (AD (w2.heap.size+1) 0) 1 1 [.string ((⟨#[61]⟩:ByteArray)++b)] rfl rfl (World.news_of_block H) (by intro u y;simp at y;rw[y];rfl) (by decide) (by simp only[maxLen];omega) (by omega) (by simp;omega) _ rfl ?_;intro g cap9 wE I B egE ltE)
   have C:=λj p=>(r.lt j p).1;have J:=(c.boxed (.cells #[.string ((⟨#[61]⟩:ByteArray)++b)] 9)).grown4 B (λe=>by have:=C _ e.symm;omega);have K:=(boxed d (.cells #[.string ((⟨#[61]⟩:ByteArray)++b)] 9)).grown B (by have:=d.size;simp;omega) (λj p=>by have:=C j p;omega)
   go_roundw
   case rel=>exact⟨k+1,z+1,_,rfl,by omega,by have:=E.out;omega,by go_num,by rw[qi3,G.out];exact I,J,K⟩
   simp[intOf];omega
  have ee:=beq_eq_false_iff_ne.2 t
  have G:Hid (qdf a0 a1 a2 a3 l k=⟨#[]⟩):=by show qdf a0 a1 a2 a3 l k=_;rw[s.out,if_neg t]
  clear t s
  have H:((w2.alloc (.cells #[U f,U m,U bs,U n,.string b,.bool o] 130)).alloc (.cells #[.string ⟨#[]⟩] 9)).heap[w2.heap.size+1]?=some (.cells #[.string ⟨#[]⟩] 9):=by have h:=heap_alloc_new (w2.alloc (.cells #[U f,U m,U bs,U n,.string b,.bool o] 130)) (.cells #[.string ⟨#[]⟩] 9);rw[jdi]at h;exact h
  go_wp2_with (at_builtin;refine wpList_append_lies _ rfl (.tmp 27) (.tmp 28) 42 rfl (w.heap.size+1) 9 Y (.string ⟨#[]⟩) 1 16 Tryz.underlying42 hi Z aa ab rfl (by decide) lv k (qej a0 a1 a2 a3 l k) rfl (r.alloc _) (AD (w2.heap.size+1) 0) 1 1 [.string ⟨#[]⟩] rfl rfl (World.news_of_block H) (by intro u y;simp at y;rw[y];rfl) (by decide) (by simp only[maxLen];omega) (by omega) (by simp;omega) _ rfl ?_;intro g cap9 wE I B egE ltE)
  have C:=λj p=>(r.lt j p).1;have J:=(c.boxed (.cells #[.string ⟨#[]⟩] 9)).grown4 B (λe=>by have:=C _ e.symm;omega);have K:=(boxed d (.cells #[.string ⟨#[]⟩] 9)).grown B (by have:=d.size;simp;omega) (λj p=>by have:=C j p;omega)
  go_roundw
  case rel=>exact⟨k+1,z+1,_,rfl,by omega,by have:=E.out;omega,by go_num,by rw[qi3,G.out];exact I,J,K⟩
  simp[intOf];omega
 obtain rfl:k=8:=by omega
 go_wp2_with fail
 go_ret;exact⟨lv,rfl,r,d⟩
end
section
open Go.RowKit
variable {b:Nat} {G:Nat->Prop} {F:Nat->Option Obj} {S:qe}
theorem qug (a:Int) (w:World) (h:RS w b G F S):
 Ca 87 #[PP b,U a] w λe w'=>
  e=.returned (.agg #[U (qj S (jw a)).v0,U (qj S (jw a)).v1,U (qj S (jw a)).v2,U (qj S (jw a)).v3])/\Bw w w':=by
 obtain⟨lv,wv,sv,log,waits,h,_,_,_⟩:=h;exact qqk a w h
theorem q3z (a0 a1 a2 a3:Int) (w:World) (h:RS w b G F S) (a:j3 S):
 Ca 43 #[.pointer (some (AD b 9)),.agg #[U a0,U a1,U a2,U a3]] w λe w'=>∃v,e=.returned v/\w'.ownsRow (w.heap.size+1) 9 1 v 8 (qej a0 a1 a2 a3 S.l 8)/\Bw w w':=by
 obtain⟨lv,wv,sv,log,waits,h,_,_,_⟩:=h;exact q3m a0 a1 a2 a3 w h.st (by have:=a.len;have:=a.log;omega)
theorem qy5 (x0 x1 x2 x3:Int) (w:World) (h:RS w b G F S) (c:j3 S):
 Ca 88 #[.pointer (some (AD b 9)),.agg #[U x0,U x1,U x2,U x3]] w λe w'=>e=.returned (.tuple #[])/\RPo w b G F {S with l:=qcr x0 x1 x2 x3 S.l} w':=by
 obtain⟨lv,wv,sv,log,waits,h,f,g,i,j⟩:=h;refine(qyt x0 x1 x2 x3 w h.st (by have:=c.len;have:=c.log;omega)).mono λe w' ⟨k,n⟩=>⟨k,?_⟩;obtain⟨q,o,p,d⟩:=h.store n;exact RS.of f g i o p d (j.touch h d (λ_ a=>a)) (λm a=>.inl a)
end
section
open Go.RowKit
variable {b:Nat} {wv:Value} {s:qy}
theorem q9f {w w2:World} {c:Value} (d:Bw w w2) (B:qd w2 b (jr s c)) (x0 x1 x2 x3:Int):
 qep w b wv ⟨x0,x1,x2,x3,false,0,0,0,0,[]⟩ ((((((((((w2.setCell (AD b 0) (U x0)).setCell (AD b 1) (U x1)).setCell (AD b 2) (U x2)).setCell (AD b 3) (U x3)).setCell (AD b 8) (.bool false)).setCell (AD b 4) (U 0)).setCell (AD b 5) (U 0)).setCell (AD b 6) (U 0)).setCell (AD b 7) (U 0)).setCell (AD b 9) (.slice none 0 0)):=by
 have e:=B.set 0 (U x0) (by simp[jr]);have f:=e.set 1 (U x1) (by simp[jr]);have g:=f.set 2 (U x2) (by simp[jr]);have h:=g.set 3 (U x3) (by simp[jr]);have i:=h.set 8 (.bool false) (by simp[jr]);have j:=i.set 4 (U 0) (by simp[jr]);have l:=j.set 5 (U 0) (by simp[jr]);have m:=l.set 6 (U 0) (by simp[jr]);have n:=m.set 7 (U 0) (by simp[jr]);have o:=n.set 9 (.slice none 0 0) (by simp[jr]);refine qvt d (λk a=>?_) ?_ ?_ ?_ ?_ o rfl
 ·rw[jce _ _ _ _ a,jce _ _ _ _ a,jce _ _ _ _ a,jce _ _ _ _ a,jce _ _ _ _ a,jce _ _ _ _ a,jce _ _ _ _ a,jce _ _ _ _ a,jce _ _ _ _ a,jce _ _ _ _ a]
 ·simp only[World.setCell]
 ·simp only[World.setCell]
 ·simp only[World.setCell]
 simp only[World.setCell,Array.size_modify,jcd]
theorem qiv (w:World) (h:qgs w b wv s):
 Ca 35 #[PP b] w λe w'=>e=.returned (U (qi5 s))/\qep w b wv (qhh s) w':=by
 have f:=hd1 h;have g:=h.box.cell 8 _ rfl;cases ho:s.opn
 ·rw[ho]at g;have d:Hid (qi5 s=6/\qhh s=s):=⟨by unfold qi5;rw[ho];rfl,by unfold qhh;rw[ho];rfl⟩;go_enter Tryz.func35,Tryz.ntmps35
  go_wp2_with fail
  go_ret;refine⟨by rw[d.out.1];rfl,?_⟩;rw[d.out.2];exact qep.same f.out (jcc _ _)
 rw[ho]at g;have d:Hid (qi5 s=0/\qhh s=qc3 s):=⟨by unfold qi5;rw[ho];rfl,by unfold qhh;rw[ho];rfl⟩;have i:Bw w w.drew:=(jcc _ w).drew;have c:=h.box.later i;go_enter Tryz.func35,Tryz.ntmps35
 go_wp2_with fail
 have l:=c.cell 0 _ rfl;have m:=c.cell 1 _ rfl;have n:=c.cell 2 _ rfl;have o:=c.cell 3 _ rfl;have p:=c.cell 4 _ rfl;have q:=c.cell 5 _ rfl;have r:=c.cell 6 _ rfl;have t:=c.cell 7 _ rfl
 go_region_law (refine je rfl 83 #[.agg #[U s.p0,U s.p1,U s.p2,U s.p3],.agg #[U s.s0,U s.s1,U s.s2,U s.s3]] (by go_simp) (qp0 s.p0 s.p1 s.p2 s.p3 s.s0 s.s1 s.s2 s.s3 _) ?_
                rintro e u ⟨rfl,k⟩;refine⟨_,rfl,?_⟩;have j:=qa i k;have a:=f.out.box.later j;have v:=a.cell 0 _ rfl;have x:=a.cell 1 _ rfl;have y:=a.cell 2 _ rfl;have z:=a.cell 3 _ rfl;have B:=a.cell 4 _ rfl;have C:=a.cell 5 _ rfl;have D:=a.cell 6 _ rfl;have E:=a.cell 7 _ rfl;have F:=a.cell 8 _ rfl;have G:=a.cell 9 _ rfl;have H:=a.free 0 (by simp[jr]);have f1:=a.free 1 (by simp[jr]);have I:=a.free 2 (by simp[jr]);have J:=a.free 3 (by simp[jr]);have K:=a.free 4 (by simp[jr]);have L:=a.free 5 (by simp[jr]);have M:=a.free 6 (by simp[jr]);have N:=a.free 7 (by simp[jr]);have O:=a.free 8 (by simp[jr])
                have P:=a.free 9 (by simp[jr]))
 all_goals
  go_wp2_with fail
  go_ret;refine⟨by rw[d.out.1];rfl,?_⟩;rw[d.out.2];exact q9f j a _ _ _ _
end
section
open Go.RowKit
variable {b:Nat}
theorem qb9 {tmps:Array Value} {w:World} {x0 x1 x2 x3 d e f g ev:Int} {a:Option Addr} {n c:Nat} (h:qd w b (T9 x0 x1 x2 x3 d e f g a n c)) (i:tmps[6]?=some (PP b)) (j:tmps[7]?=some (U ev)):
 (results Tryz.f81 tmps).run Tryz.prog w=.ok (.tuple #[.agg (List.toArray (T9 x0 x1 x2 x3 d e f g a n c)),U ev]) w:=by
 obtain⟨k,l,m,o,p,q,r,s,t⟩:=h.c9;simp[results,Tryz.results81,go_sem,i,j,k,l,m,o,p,q,r,s,t]
theorem qmi {H:Nat} {G Gx:Nat->Prop} {F:Nat->Option Obj} {s:qy} {S:qe} (now:Int) (w:World) (h:RSe w b G s) (hS:RS w H Gx F S) (hI:j3 S) (hd:∀k,G k->¬Gx k) (hp:0<=s.p0):
 Ca 81 #[PP b,PP H,U now] w (q6u w b H G Gx F S s now):=by
 have d:=hd7 h hS hI hd hp h.lt hS.lt;obtain⟨wv,h0,hG⟩:=h;have P:=hd1 hG;have HS:=hd1 h0;have hb1:=boxed (jcc _ w) (.cells ZA 102);have RT:=qd.new (w:=w) (T:=102) ZL rfl;change qd (w.nu ZA 102) w.heap.size ZL at RT;have B1:=h0.box.later hb1;have k8:=B1.cell 8 _ rfl;cases ho:s.opn
 ·rw[ho]at k8;have o:Hid (qeg S s now=6/\qce S s now=tx0.t/\qcc S s now=S/\j0 S s now=s):=qmm ho;go_enter Tryz.func81,Tryz.ntmps81
  go_wp2_with fail
  refine bodyPost_ret (qb9 RT rfl rfl) rfl ⟨tx0,by rw[o.out.1];rfl,o.out.2.1.symm,qk4 _,?_⟩;rw[o.out.2.2.1,o.out.2.2.2];exact⟨F,⟨λ_ _ e=>e,λk f=>absurd f (qfb k)⟩,qod (p:=qjd b s) (q:=qek H F S) d.out.1 d.out.2.1 d.out.2.2.2.1 hb1 _ qfb⟩
 rw[ho]at k8;have L:=hd1 ho;have hb2:=boxed hb1 (.cells ZA 102);have AL:=qp1 ((w.nu ZA 102).nu ZA 102) (h0.later hb2);have RT2:=RT.boxed (.cells ZA 102);have RX2:=qd.new (w:=(w.nu ZA 102)) (T:=102) (n:=w.heap.size+1) ZL (by simp);change qd ((w.nu ZA 102).nu ZA 102) (w.heap.size+1) ZL at RX2;go_enter Tryz.func81,Tryz.ntmps81
 go_wp2_with fail
 refine AL.mono ?_;rintro e wA ⟨v,rfl,ownv,hbv⟩;obtain⟨va,vc,rfl,hWv⟩:=qbg ownv
 have HNA:Hid (∀k off,(jh s.ws)≠[]->va=some (AD k off)->w.heap.size+2<=k):=λk off hne e=>by
  have:=ownv.form (List.length_pos_iff.2 hne);obtain⟨g,cc,e1,e2,e3⟩:=this;injection e1 with e1;rw[e1]at e;injection e with e;injection e with e;simp at e2;omega
 have X:=qa hb2 hbv;have RTA:=RT2.later hbv;have RXA:=RX2.later hbv
 have HSZ:Hid (w.heap.size+2<=wA.heap.size):=by have:=hbv.size;simp at this;exact this
 have HWV:=hd1 hWv;have hcl:=hWv.len;have hcc:=hWv.cap
 have HN2:Hid (∀k,(k=w.heap.size\/k=w.heap.size+1)->w.heap.size<=k/\k<wA.heap.size):=λk e=>by
  have:=HSZ.out
  rcases e with e|e<;>omega
 by_cases hl:(jh s.ws).length=0
 ·have o:Hid (qeg S s now=0/\qce S s now=tx0.t/\qcc S s now=S/\j0 S s now=qc3 s):=qml L.out hl
  have l0:¬(0:Int)<((jh s.ws).length:Int):=by omega
  have AB:=qiv wA (HS.out.later X)
  go_wp2_with fail
  refine AB.mono ?_;rintro e wD ⟨rfl,Q⟩;rw[show qhh s=qc3 s by unfold qhh;rw[if_neg (by rw[L.out];decide)]]at Q;rw[show qi5 s=0 by unfold qi5;rw[if_neg (by rw[L.out];decide)]];have HPO:=hd1 Q;obtain⟨wv',hs',_,J⟩:=Q
  have R:∀k,w.heap.size<=k->¬(k=b\/wv.ownBlock=some k):=λk f e=>by have:=d.out.2.2.2.2.2.1 k ((P.out k).2 e);omega
  have RTD:=RTA.kept (J.block _ RTA.lt (R _ (jcd _))) J.size;have M:=RXA.kept (J.block _ RXA.lt (R _ (Nat.le_succ _))) J.size;have x0:=qb.cell (M.cell 0 _ rfl);have x1:=qb.cell (M.cell 1 _ rfl);have y0:∀x:qb wD,x.val.cell? (AD b 0)=some (U (jd s.p0 s.s0)):=qb.cell (hs'.box.cell 0 _ rfl);have hne:=qb.one;have g0:decide (jd s.p0 s.s0<0)=false:=decide_eq_false (by have:=d.out.2.2.2.2.1;unfold jd;split<;>omega)
  go_wp2_with fail
  refine wrl ?_
  repeat (go_big_quiet_step (first|rfl|fail))
  refine wpQuiet_nil ?_;rintro Z ⟨⟨_,E⟩,rfl⟩;have RTF:=RTD.later E;have RXF:=M.later E;obtain⟨x0,x1,x2,x3,x4,x5,x6,x7,x8⟩:=RXF.c9;obtain⟨r0,r1,r2,r3,r4,r5,r6,r7,r8⟩:=RTF.c9;obtain⟨p0,p1,p2,p3,p4,p5,p6,p7,p8⟩:=RTF.f9;have V:=yz RTF rfl 0 0 0 0 0 0 0 0 (.slice none 0 0);have K:=qid (p:=qjd b (qc3 s)) (q:=qek H F S) (Y:=tx0.blk) d.out.2.2.2.2.2.1 d.out.2.2.2.2.2.2 d.out.2.2.2.1 X HN2.out (RPo.same (d.out.2.1.later X) (jcc _ _)) (λk f=>absurd f (qfb k)) (qc.ofBelow (jcc _ _)) ((HPO.out.after E).left P.out) (qaz (b:=w.heap.size) (qc.ofBelow (jcc _ Z)) (.inl rfl) 0 0 0 0 0 0 0 0 (.slice none 0 0))
  go_wp2_with fail
  refine bodyPost_ret (qb9 V rfl rfl) rfl ⟨tx0,by rw[o.out.1];rfl,o.out.2.1.symm,qk4 _,?_⟩;rw[o.out.2.2.1,o.out.2.2.2];exact⟨F,⟨λ_ _ e=>e,λk f=>absurd f (qfb k)⟩,K.1⟩
 have W:Hid (qeg S s now=qfl S now s.s0 s.s1 s.s2 s.s3 (jh s.ws)/\qce S s now=qha S now s.s0 s.s1 s.s2 s.s3 (jh s.ws)/\qcc S s now=qf3 S now s.s0 s.s1 s.s2 s.s3 (jh s.ws)):=qjx L.out hl;have HLN:Hid ((jh s.ws).length≠0):=hl
 have l0:(0:Int)<((jh s.ws).length:Int):=by omega
 have CM:=qwq now s.s0 s.s1 s.s2 s.s3 wA (d.out.2.1.later X) d.out.2.2.1 HWV.out (λk off e1 e2 hg=>by have:=HNA.out k off e1 e2;have:=d.out.2.2.2.2.2.2 k hg;omega);have BA:=HS.out.box.later X;have c4:=BA.cell 4 _ rfl;have c5:=BA.cell 5 _ rfl;have c6:=BA.cell 6 _ rfl;have c7:=BA.cell 7 _ rfl;have HBA:=hd1 X;obtain⟨⟨a,c,r,u,y,z,B,C,i⟩,hct⟩:∃t,qha S now s.s0 s.s1 s.s2 s.s3 (jh s.ws)=t:=⟨_,rfl⟩;obtain⟨ce,hce⟩:∃ce,qfl S now s.s0 s.s1 s.s2 s.s3 (jh s.ws)=ce:=⟨_,rfl⟩
 go_wp2_with fail
 refine CM.mono ?_;rintro e wB ⟨⟨mt,j,l⟩,rfl,hmt,hh,hnew⟩;rw[hct]at hmt;simp only at hmt;subst hmt;rw[hce,show txV ⟨⟨a,c,r,u,y,z,B,C,i⟩,j,l⟩=.agg (List.toArray (T9 a c r u y z B C j i.length l))from rfl];obtain⟨hWB,F',hFE,hPB⟩:=hh.out;have HFE:=hd1 hFE;have I:=hd3 hPB (show qr wB j l i from hWB) hnew;obtain⟨H1,_,_,tB⟩:=hPB
 have nX:∀k,w.heap.size<=k->¬Gx k:=λk f e=>by have:=d.out.2.2.2.2.2.2 k e;omega
 have RTB:=RTA.kept (tB.block _ RTA.lt (nX _ (jcd _))) tB.size;have RXB:=RXA.kept (tB.block _ RXA.lt (nX _ (Nat.le_succ _))) tB.size;obtain⟨x0,x1,x2,x3,x4,x5,x6,x7,x8⟩:=RXB.c9;obtain⟨q0,q1,q2,q3,q4,q5,q6,q7,q8⟩:=RXB.f9;have RXC:=yz RXB rfl a c r u y z B C (.slice j i.length l);have RTC:=qtu RTB (by omega:w.heap.size≠w.heap.size+1) a c r u y z B C (.slice j i.length l);have TC:qc (λk=>k=w.heap.size\/k=w.heap.size+1) wB (js wB (w.heap.size+1) a c r u y z B C (.slice j i.length l)):=qaz (qc.ofBelow (jcc _ wB)) (.inr rfl) a c r u y z B C (.slice j i.length l);obtain⟨WC,hWC⟩:∃WC,js wB (w.heap.size+1) a c r u y z B C (.slice j i.length l)=WC:=⟨_,rfl⟩;rw[hWC]at RXC RTC TC;simp only[js]at hWC
 have hsC:qgs WC b wv s:=by
  have mid:=qz8 (q:=qek H F' (qf3 S now s.s0 s.s1 s.s2 s.s3 (jh s.ws))) d.out.2.2.2.2.2.1 d.out.2.2.2.1 HBA.out HN2.out I.out.1 TC;exact HS.out.keptB (λk e=>mid.1 k ((P.out k).2 e)) mid.2
 have R:∀k,w.heap.size<=k->¬(k=b\/wv.ownBlock=some k):=λk f e=>by have:=d.out.2.2.2.2.2.1 k ((P.out k).2 e);omega
 by_cases hE:ce=0
 ·subst hE
  have o:Hid (j0 S s now=atLeast a c (qc3 s)/\a=S.id):=by
   have:=qrv (S:=S) (s:=s) (now:=now) L.out HLN.out hce;rw[hct]at this;exact this
  have N:=hd2 (W.out.1.trans hce) (W.out.2.1.trans hct)
  have i0:0<=a:=by rw[o.out.2];exact d.out.2.2.1.id0
  have i3:a<=3:=by rw[o.out.2];exact d.out.2.2.1.id3
  have i4:a<4:=by omega
  have AB:=qiv WC hsC
  go_wp2_with (rw[hWC])
  refine AB.mono ?_;rintro e wD ⟨rfl,Q⟩;rw[show qhh s=qc3 s by unfold qhh;rw[if_neg (by rw[L.out];decide)]]at Q;rw[show qi5 s=0 by unfold qi5;rw[if_neg (by rw[L.out];decide)]];have HPO:=hd1 Q;obtain⟨wv',hs',_,J⟩:=Q;have RTD:=RTC.kept (J.block _ RTC.lt (R _ (jcd _))) J.size;have M:=RXC.kept (J.block _ RXC.lt (R _ (Nat.le_succ _))) J.size;obtain⟨D,hD⟩:∃D,qp a (qc3 s).p0 (qc3 s).p1 (qc3 s).p2 (qc3 s).p3=D:=⟨_,rfl⟩;have HB':=hd1 hs'.box
  have HPA:Hid ((jr (qc3 s) wv')[a.toNat]?=some (U D)):=by show _=_;rw[q86 i0 i3,hD]
  have HD:=hd1 hD;have x0:=qb.cell (M.cell 0 _ rfl);have x1:=qb.cell (M.cell 1 _ rfl);have y0:=qb.cell (HB'.out.cell _ _ HPA.out);have hne:=qb.one;by_cases hlt:D<c
  ·have HS2:Hid (j0 S s now=qnk a.toNat c (qc3 s)):=by show _=_;rw[o.out.1,qlh i0 i3,HD.out,qia hlt]
   go_wp2_with fail
   refine wrl ?_
   repeat (go_big_quiet_step (first|rfl|fail))
   refine wpQuiet_nil ?_;rintro Z ⟨⟨_,E⟩,rfl⟩;have B3:=HB'.out.later E;have RT3:=RTD.later E;have RX3:=M.later E;have x0:=RX3.cell 0 _ rfl;have x1:=RX3.cell 1 _ rfl;have y0:=B3.cell _ _ HPA.out;have g0:=B3.free a.toNat (by simp[jr];omega)
   go_wp2_with fail
   go_region
   all_goals
        have P4:=((HPO.out.after E).past (n:=a.toNat) (by omega) c).after ((jcc _ (Z.setCell (AD b a.toNat) (U c))).drew);have bne:b≠w.heap.size:=λe=>R b (by omega) (.inl rfl);have bne1:b≠w.heap.size+1:=λe=>R b (by omega) (.inl rfl);have O:=(RT3.far (AD b a.toNat) (U c) bne).drew;have RX4:=(RX3.far (AD b a.toNat) (U c) bne1).drew;obtain⟨W4,hW4⟩:∃W4,(Z.setCell (AD b a.toNat) (U c)).drew=W4:=⟨_,rfl⟩;rw[hW4]at P4 O RX4
        (try rw[hW4])
        obtain⟨x0,x1,x2,x3,x4,x5,x6,x7,x8⟩:=RX4.c9;obtain⟨r0,r1,r2,r3,r4,r5,r6,r7,r8⟩:=O.c9;obtain⟨p0,p1,p2,p3,p4,p5,p6,p7,p8⟩:=O.f9;have V:=yz O rfl a c r u y z B C (.slice j i.length l);have K:=qid (p:=qjd b (qnk a.toNat c (qc3 s))) (q:=qek H F' (qf3 S now s.s0 s.s1 s.s2 s.s3 (jh s.ws))) (Y:=(⟨⟨a,c,r,u,y,z,B,C,i⟩,j,l⟩:TxM).blk) d.out.2.2.2.2.2.1 d.out.2.2.2.2.2.2 d.out.2.2.2.1 HBA.out HN2.out I.out.1 (λk f=>⟨I.out.2.2 k f,qr.blk_lt (m:=(⟨⟨a,c,r,u,y,z,B,C,i⟩,j,l⟩:TxM)) I.out.2.1 k f⟩) TC (P4.left P.out) (qaz (b:=w.heap.size) (qc.ofBelow (jcc _ W4)) (.inl rfl) a c r u y z B C (.slice j i.length l));have WF:=qr.kept (m:=(⟨⟨a,c,r,u,y,z,B,C,i⟩,j,l⟩:TxM)) I.out.2.1 (λk f=>K.2 k f)
        go_wp2_with (rw[hW4])
        refine bodyPost_ret (qb9 V rfl rfl) rfl ⟨(⟨⟨a,c,r,u,y,z,B,C,i⟩,j,l⟩:TxM),by rw[N.out.1];rfl,N.out.2.symm,WF,?_⟩;rw[W.out.2.2,HS2.out];exact⟨F',HFE.out,K.1⟩
  have HS2:Hid (j0 S s now=qc3 s):=by show _=_;rw[o.out.1,qwy i0 i3 (by rw[HD.out];exact hlt)]
  go_wp2_with fail
  refine wrl ?_
  repeat (go_big_quiet_step (first|rfl|fail))
  refine wpQuiet_nil ?_;rintro Z ⟨⟨_,E⟩,rfl⟩;have P4:=HPO.out.after E;have O:=RTD.later E;have RX4:=M.later E;obtain⟨x0,x1,x2,x3,x4,x5,x6,x7,x8⟩:=RX4.c9;obtain⟨r0,r1,r2,r3,r4,r5,r6,r7,r8⟩:=O.c9;obtain⟨p0,p1,p2,p3,p4,p5,p6,p7,p8⟩:=O.f9;have V:=yz O rfl a c r u y z B C (.slice j i.length l);have K:=qid (p:=qjd b (qc3 s)) (q:=qek H F' (qf3 S now s.s0 s.s1 s.s2 s.s3 (jh s.ws))) (Y:=(⟨⟨a,c,r,u,y,z,B,C,i⟩,j,l⟩:TxM).blk) d.out.2.2.2.2.2.1 d.out.2.2.2.2.2.2 d.out.2.2.2.1 HBA.out HN2.out I.out.1 (λk f=>⟨I.out.2.2 k f,qr.blk_lt (m:=(⟨⟨a,c,r,u,y,z,B,C,i⟩,j,l⟩:TxM)) I.out.2.1 k f⟩) TC (P4.left P.out) (qaz (b:=w.heap.size) (qc.ofBelow (jcc _ Z)) (.inl rfl) a c r u y z B C (.slice j i.length l));have WF:=qr.kept (m:=(⟨⟨a,c,r,u,y,z,B,C,i⟩,j,l⟩:TxM)) I.out.2.1 (λk f=>K.2 k f)
  go_wp2_with fail
  refine bodyPost_ret (qb9 V rfl rfl) rfl ⟨(⟨⟨a,c,r,u,y,z,B,C,i⟩,j,l⟩:TxM),by rw[N.out.1];rfl,N.out.2.symm,WF,?_⟩;rw[W.out.2.2,HS2.out];exact⟨F',HFE.out,K.1⟩
 have o:=hd1 (qp7 L.out HLN.out (by rw[hce];exact hE));have N:=hd3 (W.out.1.trans hce) (W.out.2.1.trans o.out.2.2) (W.out.2.2.trans o.out.2.1)
 have HPS:Hid (RPo wA H Gx F' S wB):=by have:=I.out.1;rw[o.out.2.1]at this;exact this
 have V:=yz RTC rfl 0 0 0 0 0 0 0 0 (.slice none 0 0);have K:=qid (p:=qjd b s) (q:=qek H F' S) (Y:=tx0.blk) d.out.2.2.2.2.2.1 d.out.2.2.2.2.2.2 d.out.2.2.2.1 HBA.out HN2.out HPS.out (λk f=>absurd f (qfb k)) TC ((qep.same hsC (jcc _ _)).left P.out) (qaz (b:=w.heap.size) (qc.ofBelow (jcc _ WC)) (.inl rfl) 0 0 0 0 0 0 0 0 (.slice none 0 0));obtain⟨r0,r1,r2,r3,r4,r5,r6,r7,r8⟩:=RTC.c9;obtain⟨p0,p1,p2,p3,p4,p5,p6,p7,p8⟩:=RTC.f9
 go_wp2_with (rw[hWC])
 refine bodyPost_ret (qb9 V rfl rfl) rfl ⟨tx0,by rw[N.out.1];rfl,N.out.2.1.symm,qk4 _,?_⟩;rw[o.out.1,N.out.2.2];exact⟨F',⟨HFE.out.1,λk f=>absurd f (qfb k)⟩,K.1⟩
end
section
open Go.RowKit
variable {b:Nat}
theorem qdl {tmps:Array Value} {w:World} {x0 x1 x2 x3 d e f g:Int} {ev:Value} {a:Option Addr} {n c:Nat} (h:qd w b (T9 x0 x1 x2 x3 d e f g a n c)) (i:tmps[4]?=some (PP b)) (j:tmps[5]?=some ev):
 (results Tryz.f103 tmps).run Tryz.prog w=.ok (.tuple #[.agg (List.toArray (T9 x0 x1 x2 x3 d e f g a n c)),ev]) w:=by
 obtain⟨k,l,m,o,p,q,r,s,t⟩:=h.c9;simp[results,Tryz.results103,go_sem,i,j,k,l,m,o,p,q,r,s,t]
theorem q04 {G:Nat->Prop} {W:WoS} (w:World) (h:PW w b G W) (hw:WfW W) {i:Nat} (hi:i<W.c) (hok:0<(wcT W i).seq->okT (wcT W i)=true):
 Ca 103 #[PP b,U i] w (q9n w b G W i):=by
 obtain⟨M,H,h,hG⟩:=h;have ha:=hw.at_ i hi;have u:=hd6 h hG hi ha hw.n4 hok;have hb0:=boxed (jcc _ w) (.cells ZA 102);have RT:=qd.new (w:=w) (T:=102) ZL rfl;change qd (w.alloc (.cells ZA 102)) w.heap.size ZL at RT;obtain⟨cb,cc,c1,hcc,hcb,x0,x1⟩:=h.client hi;obtain⟨pb,pc,c0,hpc,hpb,y0,y1⟩:=h.place ha;have hlt:=h.box.lt;have IC:=yf (k:=i) (v:=true) _ (cell_later hb0 c1) (by simp;omega)
 have BG:Hid (∀w':World,Bw w w'->Ca 150 #[PP (M.bs i),.pointer (some (AD (M.bp (W.at_ i)) 0)),U (W.wall (W.at_ i))] w' λe z=>∃(j d l o p q r s:Int) (a:List Wr) (f:Option Addr) (g:Nat),e=.returned (.tuple #[.agg (List.toArray (T9 j d l o p q r s f a.length g)),jc (wcE W i)])/\Hid (⟨j,d,l,o,p,q,r,s,a⟩=wcT W i/\qr z f g a/\Bw w w'/\qfx (qix (M.bs i) (j0 (W.S (W.at_ i)) (W.ses i) (W.wall (W.at_ i)))) (qeu (M.bp (W.at_ i)) (qcc (W.S (W.at_ i)) (W.ses i) (W.wall (W.at_ i))) (⟨⟨j,d,l,o,p,q,r,s,a⟩,f,g⟩:TxM).blk) w' (H (W.n+i)) (H (W.at_ i)) (⟨⟨j,d,l,o,p,q,r,s,a⟩,f,g⟩:TxM).blk z)/\(∀k,w.heap.size<=k->k<w'.heap.size->z.heap[k]?=w'.heap[k]?)/\w'.heap.size<=z.heap.size):=λw' hb=>by
  refine(qol (W.wall (W.at_ i)) w' ((h.sess hi).later hb) ((h.site ha).later hb) (hw.inv _ ha) (λk h1 h2=>h.fam.apart _ _ k (by omega) (by omega) (by omega) h1 h2)).mono ?_;rintro e z ⟨⟨⟨j,d,l,o,p,q,r,s,a⟩,f,g⟩,rfl,I,R⟩;have h2:=R.out.2;obtain⟨_,_,_,_,_,_,_,_,tt⟩:=h2
  exact⟨j,d,l,o,p,q,r,s,a,f,g,rfl,⟨I,R.out.1,hb,R.out.2⟩,λk h1 h2=>tt.block k h2 (λe=>by
   rcases e with e|e
   ·have:k<w.heap.size:=h.ltG (by omega) e;omega
   have:k<w.heap.size:=h.ltG (by omega) e
   omega),tt.size⟩
 have q1:(i:Int)<(W.c:Int):=by omega
 have q2:(W.at_ i:Int)<(W.n:Int):=by omega
 have hbc:=boxed hb0 (.cells #[PP (M.bs i),U (W.at_ i)] 171);have RC:=qd.new (w:=w.alloc (.cells ZA 102)) (T:=171) (n:=w.heap.size+1) [PP (M.bs i),U (W.at_ i)] (by simp);have RT1:=RT.boxed (.cells #[PP (M.bs i),U (W.at_ i)] 171);obtain⟨D,hw1⟩:∃D,(w.alloc (.cells ZA 102)).alloc (.cells #[PP (M.bs i),U (W.at_ i)] 171)=D:=⟨_,rfl⟩
 have sz1:D.heap.size=w.heap.size+2:=by rw[<-hw1];simp
 have RC1:qd D (w.heap.size+1) [PP (M.bs i),U (W.at_ i)]:=by rw[<-hw1];exact RC
 have HR:Hid (qd D w.heap.size ZL/\Bw w D/\D.heap.size=w.heap.size+2):=by
  rw[hw1]at RT1 hbc;exact⟨RT1,hbc,sz1⟩
 have d0:=cell_later HR.out.2.1 c0;have e0:=cell_later HR.out.2.1 y0;have e1:=cell_later HR.out.2.1 y1;have f0:=RC1.cell 0 _ rfl;have f1:=RC1.cell 1 _ rfl
 have hlt1:b<D.heap.size:=by omega
 have hpb1:pb<D.heap.size:=by omega
 have hc1:w.heap.size+1<D.heap.size:=by omega
 go_enter Tryz.func103,Tryz.ntmps103
 go_wp2_with fail
 refine IC.mono ?_;rintro e w2 ⟨rfl,hw2⟩;have hw3:=hw2.symm;subst hw3
 go_wp2_with fail
 try rw[hw1]
 go_region
 have hbp:=(boxed (jcc _ D) (.cells #[.pointer (some (AD (M.bp (W.at_ i)) 0)),U (W.wall (W.at_ i))] 167)).drew;have RP:=(qd.new (w:=D) (T:=167) [.pointer (some (AD (M.bp (W.at_ i)) 0)),U (W.wall (W.at_ i))] rfl).drew;change qd (D.alloc (.cells #[.pointer (some (AD (M.bp (W.at_ i)) 0)),U (W.wall (W.at_ i))] 167)).drew D.heap.size [.pointer (some (AD (M.bp (W.at_ i)) 0)),U (W.wall (W.at_ i))]at RP;have g0:=RP.cell 0 _ rfl;have g1:=RP.cell 1 _ rfl;have f0:=cell_later hbp f0;have f1:=cell_later hbp f1;have hb2:=qa HR.out.2.1 hbp;have RT2:=HR.out.1.later hbp;have CM:=BG.out _ hb2
 go_wp2_with fail
 refine CM.mono ?_;rintro e z ⟨j,d,l,o,p,q,r,s,a,f,g,rfl,R,hkB,hsB⟩;have HRB:=hd1 (RT2.kept (hkB _ (jcd _) RT2.lt) hsB);have HM:=hd1 R.out.1;have HX:Hid (∃w',w.heap.size<w'.heap.size/\qr z f g a/\Bw w w'/\qfx (qix (M.bs i) (j0 (W.S (W.at_ i)) (W.ses i) (W.wall (W.at_ i)))) (qeu (M.bp (W.at_ i)) (qcc (W.S (W.at_ i)) (W.ses i) (W.wall (W.at_ i))) (⟨⟨j,d,l,o,p,q,r,s,a⟩,f,g⟩:TxM).blk) w' (H (W.n+i)) (H (W.at_ i)) (⟨⟨j,d,l,o,p,q,r,s,a⟩,f,g⟩:TxM).blk z):=⟨_,RT2.lt,R.out.2⟩;obtain⟨ce,hce⟩:∃ce,wcE W i=ce:=⟨_,rfl⟩;rw[hce];have hbC:=boxed (jcc _ z) (.cells (List.toArray (T9 j d l o p q r s f a.length g)) 102);have RXC:=qd.new (w:=z) (T:=102) (T9 j d l o p q r s f a.length g) rfl;change qd (z.alloc (.cells (List.toArray (T9 j d l o p q r s f a.length g)) 102)) z.heap.size (T9 j d l o p q r s f a.length g)at RXC;have N:=HRB.out.later hbC;have htl:=HRB.out.lt;obtain⟨x,V⟩:∃x,z.alloc (.cells (List.toArray (T9 j d l o p q r s f a.length g)) 102)=x:=⟨_,rfl⟩
 have HWX:Hid (∃B E,w.heap.size<B/\B<=x.heap.size/\PWo x b M (qd4 W i) E/\(∀m k,E m k->H m k\/B<=k)/\qc (λk=>H (W.n+i) k\/H (W.at_ i) k) w x/\(∀m k,m<W.n+W.c->(⟨⟨j,d,l,o,p,q,r,s,a⟩,f,g⟩:TxM).blk k->B<=k/\k<z.heap.size/\¬E m k)/\qr x f g a/\z.heap.size<x.heap.size):=by
  obtain⟨w',hlw,hwi,hbw,hl2⟩:=HX.out;have hl3:=hl2;obtain⟨_,_,_,_,_,_,_,_,tt⟩:=hl3;have ts:=tt.size
  have hs4:z.heap.size<x.heap.size:=by rw[<-V];simp
  rw[V]at hbC;obtain⟨E,J,K,L,C⟩:=u.out.1.com u.out.2.2.1 u.out.2.2.2.1 hbw hl2 hbC;exact⟨w'.heap.size,E,hlw,by omega,J,K,L,C,hwi.later hbC,hs4⟩
 rw[V]at RXC N;by_cases hE:ce=0
 ·subst hE;rw[show jc 0=.nilIface from rfl];obtain⟨x0,x1,x2,x3,x4,x5,x6,x7,x8⟩:=RXC.c9;by_cases hsq:0<d
  ·have HT:Hid (∀E,PWo x b M (qd4 W i) E->(∀k,(⟨⟨j,d,l,o,p,q,r,s,a⟩,f,g⟩:TxM).blk k->w.heap.size<=k)->qr x f g a->Ca 151 #[PP b,.agg (List.toArray (T9 j d l o p q r s f a.length g))] x λe w'=>e=.returned (.tuple #[])/\qby x b M E (λk=>x.heap.size<=k) (qam ⟨j,d,l,o,p,q,r,s,a⟩ W.n (qd4 W i)) w'):=λE h1 h3 h4=>
        q5o j d l o p q r s a f g x h1 u.out.2.2.2.2.1 h4 (λk off e1 e2=>by
         have:=h3 k ⟨e1,off,e2⟩;refine⟨λe=>?_,λe=>?_⟩
         ·have:k<w.heap.size:=u.out.1.ltF k (.inl e);omega
         ·have:k<w.heap.size:=u.out.1.ltF k (.inr (.inr (.inr (.inl e))))
          omega) (by
         have:=u.out.2.2.2.2.2;rw[<-HM.out]at this
         exact this hsq)
   obtain⟨B,E,rB,rC,J,K,L,C,O,X⟩:=HWX.out;have TL:=HT.out E J (λk y=>by have:=(C (W.at_ i) k (by omega) y).1;omega) O
   have HF:Hid (∀P,qby x b M E (λk=>x.heap.size<=k) (qam ⟨j,d,l,o,p,q,r,s,a⟩ W.n (qd4 W i)) P->∃F,PW P b F (wcW W i)/\(∀k,F k->G k\/B<=k)/\qc G w P/\∀k,(⟨⟨j,d,l,o,p,q,r,s,a⟩,f,g⟩:TxM).blk k->B<=k/\¬F k):=λP hs=>by
        have e:wcW W i=qam ⟨j,d,l,o,p,q,r,s,a⟩ W.n (qd4 W i):=by
         unfold wcW;rw[<-HM.out,if_pos hsq]
        rw[e];have sm:=zx ⟨j,d,l,o,p,q,r,s,a⟩ W.n (qd4 W i);exact u.out.1.told u.out.2.1 u.out.2.2.1 u.out.2.2.2.1 sm.n sm.c (by omega) rC K L (λm k I y=>⟨(C m k I y).1,by have:=(C m k I y).2.1;omega,(C m k I y).2.2⟩) hs
   have Q:=hd3 O (show (∀k,(⟨⟨j,d,l,o,p,q,r,s,a⟩,f,g⟩:TxM).blk k->w.heap.size<=k/\k<z.heap.size)from λk y=>⟨by have:=(C (W.at_ i) k (by omega) y).1;omega,(C (W.at_ i) k (by omega) y).2.1⟩) X;have Z:Hid (∀k,w.heap.size<=k->k≠b/\M.nv.ownBlock≠some k):=λk y=>⟨λe=>by have:k<w.heap.size:=u.out.1.ltF k (.inl e);omega,λe=>by have:k<w.heap.size:=u.out.1.ltF k (.inr (.inr (.inr (.inl e))));omega⟩;have HBB:=hd2 rB (PW.lt ⟨M,H,u.out.1,u.out.2.1⟩)
   go_wp2_with (rw[V])
   refine TL.mono ?_;rintro e P ⟨rfl,hS⟩;have XD:=RXC.kept (hS.block (by have:=Q.out.2.2;omega) (Z.out _ (by omega)).1 (Z.out _ (by omega)).2) hS.size;have TD:=N.kept (hS.block (by have:=Q.out.2.2;omega) (Z.out _ (jcd _)).1 (Z.out _ (jcd _)).2) hS.size;have FIN:=HF.out P hS;have WD:qr P f g a:=qr.kept (m:=(⟨⟨j,d,l,o,p,q,r,s,a⟩,f,g⟩:TxM)) Q.out.1 (λk y=>hS.block (by have:=Q.out.2.1 k y;have:=Q.out.2.2;omega) (Z.out k (Q.out.2.1 k y).1).1 (Z.out k (Q.out.2.1 k y).1).2);have HFN:=hd2 WD FIN;obtain⟨x0,x1,x2,x3,x4,x5,x6,x7,x8⟩:=XD.c9;obtain⟨r0,J,K,L,C,O,X,r7,r8⟩:=TD.c9;obtain⟨p0,p1,p2,p3,p4,p5,p6,p7,p8⟩:=TD.f9;have RZ:=yz TD rfl j d l o p q r s (.slice f a.length g);have END:=qxt (m:=(⟨⟨j,d,l,o,p,q,r,s,a⟩,f,g⟩:TxM)) HFN.out HBB.out.2 HBB.out.1 j d l o p q r s (.slice f a.length g)
   go_wp2_with fail
   exact bodyPost_ret (qdl RZ rfl rfl) rfl ⟨(⟨⟨j,d,l,o,p,q,r,s,a⟩,f,g⟩:TxM),by rw[hce];rfl,HM.out,END⟩
  have HFN:Hid (∃B,w.heap.size<B/\(∀k,G k->k<w.heap.size)/\qr x f g a/\∃F,PW x b F (wcW W i)/\(∀k,F k->G k\/B<=k)/\qc G w x/\∀k,(⟨⟨j,d,l,o,p,q,r,s,a⟩,f,g⟩:TxM).blk k->B<=k/\¬F k):=by
   obtain⟨B,E,rB,rC,J,K,L,C,O,X⟩:=HWX.out
   have e:wcW W i=qd4 W i:=by
        unfold wcW;rw[<-HM.out,if_neg hsq]
   rw[e];exact⟨B,rB,PW.lt ⟨M,H,u.out.1,u.out.2.1⟩,O,u.out.1.told (W1:=qd4 W i) u.out.2.1 u.out.2.2.1 u.out.2.2.2.1 rfl rfl (by omega) rC K L (λm k I y=>⟨(C m k I y).1,by have:=(C m k I y).2.1;omega,(C m k I y).2.2⟩) (qby.none J (jcc _ _) _)⟩
  obtain⟨r0,J,K,L,C,O,X,r7,r8⟩:=N.c9;obtain⟨p0,p1,p2,p3,p4,p5,p6,p7,p8⟩:=N.f9;have RZ:=yz N rfl j d l o p q r s (.slice f a.length g);obtain⟨B,hB,hGl,hF⟩:=HFN.out;have END:=qxt (m:=(⟨⟨j,d,l,o,p,q,r,s,a⟩,f,g⟩:TxM)) hF hGl hB j d l o p q r s (.slice f a.length g)
  go_wp2_with (rw[V])
  exact bodyPost_ret (qdl RZ rfl rfl) rfl ⟨(⟨⟨j,d,l,o,p,q,r,s,a⟩,f,g⟩:TxM),by rw[hce];rfl,HM.out,END⟩
 have HFN:Hid (∃B,w.heap.size<B/\(∀k,G k->k<w.heap.size)/\wcT W i=tx0.t/\qr x tx0.wa tx0.wc tx0.t.ws/\∃F,PW x b F (wcW W i)/\(∀k,F k->G k\/B<=k)/\qc G w x/\∀k,tx0.blk k->B<=k/\¬F k):=by
  obtain⟨B,E,rB,rC,J,K,L,C,O,X⟩:=HWX.out;have e0:wcT W i=tx0.t:=(qvj (by have:=hce;unfold wcE at this;rw[this];exact hE)).1
  have e:wcW W i=qd4 W i:=by
   unfold wcW;rw[e0,if_neg (by decide)]
  rw[e];exact⟨B,rB,PW.lt ⟨M,H,u.out.1,u.out.2.1⟩,e0,qk4 _,u.out.1.told (W1:=qd4 W i) (Y:=tx0.blk) u.out.2.1 u.out.2.2.1 u.out.2.2.2.1 rfl rfl (by omega) rC K L (λm k I y=>absurd y (qfb k)) (qby.none J (jcc _ _) _)⟩
 rw[show jc ce=.iface 26 (U ce) by unfold jc;rw[if_neg hE]];obtain⟨r0,J,K,L,C,O,X,r7,r8⟩:=N.c9;obtain⟨p0,p1,p2,p3,p4,p5,p6,p7,p8⟩:=N.f9;have RZ:=yz N rfl 0 0 0 0 0 0 0 0 (.slice none 0 0);obtain⟨B,hB,hGl,e0,hF⟩:=HFN.out;have END:=qxt (m:=tx0) hF hGl hB 0 0 0 0 0 0 0 0 (.slice none 0 0)
 go_wp2_with (rw[V])
 exact bodyPost_ret (qdl RZ rfl rfl) rfl ⟨tx0,by rw[hce];unfold jc;rw[if_neg hE];rfl,e0.symm,END⟩
end
section
open Tryz Go.RowKit
variable {i:Nat}
section
variable {w:World} {b:Nat} {G:Nat->Prop} {W:WoS}
theorem PW.lens (h:PW w b G W):∃a0 a a1 d a2 e,w.cell? (AD b 0)=some (.slice a0 W.n a)/\w.cell? (AD b 1)=some (.slice a1 W.c d)/\w.cell? (AD b 2)=some (.slice a2 W.net.length e)/\w.cell? (AD b 3)=some (U W.lost)/\b<w.heap.size:=by
 obtain⟨M,q,h,_⟩:=h;obtain⟨a0,a,k,_⟩:=qq h.pr;obtain⟨a1,d,m,_⟩:=qq h.cr;obtain⟨a2,e,o,_⟩:=qq h.nr
 have p:M.l.length=W.net.length:=by rw[<-h.nl];simp
 have f:=h.box.cell 0 _ rfl;have g:=h.box.cell 1 _ rfl;have j:=h.box.cell 2 _ rfl;rw[k]at f;rw[m]at g;rw[o,p]at j;exact⟨a0,a,a1,d,a2,e,f,g,j,h.box.cell 3 _ rfl,h.box.lt⟩
theorem qt8 (k:Int) (w:World) (h:PW w b G W) (j:¬(0<=k/\k<(W.c:Int))):
 Ca 98 #[PP b,U k] w (Rn (jc 2) w):=by
 obtain⟨a0,l,a1,m,a2,n,o,a,p,r,s⟩:=h.lens
 have d:=yf (k:=k) (v:=false) w a (by
  have q:¬(0<=k)\/¬(k<(W.c:Int)):=by omega
  rcases q with q|q<;>simp[q])
 go_enter func98,ntmps98
 go_wp2_with fail
 refine d.mono ?_;rintro e w2 ⟨rfl,f⟩;have g:=f.symm;subst g
 go_wp2_with fail
 go_ret;exact⟨rfl,jcc _ _⟩
theorem qzt (k:Int) (key:Int) (w:World) (h:PW w b G W) (j:¬(0<=k/\k<(W.c:Int))):
 Ca 113 #[PP b,U k,U key] w (Rn (.tuple #[.string ⟨#[]⟩,jc 2]) w):=by
 obtain⟨a0,l,a1,m,a2,n,o,a,p,r,s⟩:=h.lens
 have d:=yf (k:=k) (v:=false) w a (by
  have q:¬(0<=k)\/¬(k<(W.c:Int)):=by omega
  rcases q with q|q<;>simp[q])
 go_enter func113,ntmps113
 go_wp2_with fail
 refine d.mono ?_;rintro e w2 ⟨rfl,f⟩;have g:=f.symm;subst g
 go_wp2_with fail
 go_ret2;exact⟨rfl,jcc _ _⟩
theorem qm5 (k:Int) (a:Int) (d:ByteArray) (f:Bool) (w:World) (h:PW w b G W) (o:¬(0<=k/\k<(W.c:Int))):
 Ca 105 #[PP b,U k,.agg #[U a,.string d,.bool f]] w (Rn (jc 2) w):=by
 obtain⟨a0,p,a1,r,a2,s,t,g,u,x,y⟩:=h.lens;have j:=boxed (jcc _ w) (.cells #[U a,.string d,.bool f] 100)
 have l:=yf (k:=k) (v:=false) (w.nu #[U a,.string d,.bool f] 100) (cell_later j g) (by
  have q:¬(0<=k)\/¬(k<(W.c:Int)):=by omega
  rcases q with q|q<;>simp[q])
 go_enter func105,ntmps105
 go_wp2_with fail
 refine l.mono ?_;rintro e w2 ⟨rfl,m⟩;have n:=m.symm;subst n
 go_wp2_with fail
 go_ret;exact⟨rfl,boxed (jcc _ w) _⟩
theorem qsr (k:Int) (w:World) (h:PW w b G W) (o:¬(0<=k/\k<(W.c:Int))):
 Ca 103 #[PP b,U k] w (Rn (.tuple #[.agg ZA,jc 2]) w):=by
 obtain⟨a0,p,a1,r,a2,s,t,f,u,x,y⟩:=h.lens;have d:=boxed (jcc _ w) (.cells ZA 102);have a:=qd.new (w:=w) (T:=102) (n:=w.heap.size) ZL rfl;have z:=a.cell 0 _ rfl;have B:=a.free 0 (by simp);have C:=a.cell 1 _ rfl;have f1:=a.free 1 (by simp);have D:=a.cell 2 _ rfl;have E:=a.free 2 (by simp);have F:=a.cell 3 _ rfl;have H:=a.free 3 (by simp);have I:=a.cell 4 _ rfl;have J:=a.free 4 (by simp);have K:=a.cell 5 _ rfl;have L:=a.free 5 (by simp);have M:=a.cell 6 _ rfl;have N:=a.free 6 (by simp);have O:=a.cell 7 _ rfl;have P:=a.free 7 (by simp);have Q:=a.cell 8 _ rfl;have R:=a.free 8 (by simp);have RS:=yz a rfl 0 0 0 0 0 0 0 0 (.slice none 0 0);simp only[js]at RS;have g:Hid _:=a
 have j:=yf (k:=k) (v:=false) (w.nu ZA 102) (cell_later d f) (by
  have q:¬(0<=k)\/¬(k<(W.c:Int)):=by omega
  rcases q with q|q<;>simp[q])
 go_enter func103,ntmps103
 go_wp2_with fail
 refine j.mono ?_;rintro e w2 ⟨rfl,l⟩;have m:=l.symm;subst m
 go_wp2_with fail
 (try simp only[Exit.inBlock,Exit.then])
 exact bodyPost_ret (qdl g.out rfl rfl) rfl ⟨rfl,d⟩
theorem qwi (k:Int) (w:World) (h:PW w b G W) (j:¬(0<=k/\k<(W.c:Int))):
 Ca 94 #[PP b,U k] w (Rn (jc 2) w):=by
 obtain⟨a0,l,a1,m,a2,n,o,a,p,r,s⟩:=h.lens
 have d:=yf (k:=k) (v:=false) w a (by
  have q:¬(0<=k)\/¬(k<(W.c:Int)):=by omega
  rcases q with q|q<;>simp[q])
 go_enter func94,ntmps94
 go_wp2_with fail
 refine d.mono ?_;rintro e w2 ⟨rfl,f⟩;have g:=f.symm;subst g
 go_wp2_with fail
 go_ret;exact⟨rfl,jcc _ _⟩
theorem qo9 (k:Int) (w:World) (h:PW w b G W) (g:¬(0<=k/\k<(W.net.length:Int))):
 Ca 104 #[PP b,U k] w (Rn (jc 2) w):=by
 obtain⟨a0,j,a1,l,a2,m,n,o,a,p,r⟩:=h.lens
 have c:=qey (k:=k) (v:=false) w a (by
  have q:¬(0<=k)\/¬(k<(W.net.length:Int)):=by omega
  rcases q with q|q<;>simp[q])
 go_enter func104,ntmps104
 go_wp2_with fail
 refine c.mono ?_;rintro e w2 ⟨rfl,d⟩;have f:=d.symm;subst f
 go_wp2_with fail
 go_ret;exact⟨rfl,jcc _ _⟩
theorem qud (k:Int) (w:World) (h:PW w b G W) (g:¬(0<=k/\k<(W.net.length:Int))):
 Ca 109 #[PP b,U k] w (Rn (jc 2) w):=by
 obtain⟨a0,j,a1,l,a2,m,n,o,a,p,r⟩:=h.lens
 have c:=qey (k:=k) (v:=false) w a (by
  have q:¬(0<=k)\/¬(k<(W.net.length:Int)):=by omega
  rcases q with q|q<;>simp[q])
 go_enter func109,ntmps109
 go_wp2_with fail
 refine c.mono ?_;rintro e w2 ⟨rfl,d⟩;have f:=d.symm;subst f
 go_wp2_with fail
 go_ret;exact⟨rfl,jcc _ _⟩
theorem qss (k:Int) (w:World) (h:PW w b G W) (g:¬(0<=k/\k<(W.net.length:Int))):
 Ca 116 #[PP b,U k] w (Rn (jc 2) w):=by
 obtain⟨a0,j,a1,l,a2,m,n,o,a,p,r⟩:=h.lens
 have c:=qey (k:=k) (v:=false) w a (by
  have q:¬(0<=k)\/¬(k<(W.net.length:Int)):=by omega
  rcases q with q|q<;>simp[q])
 go_enter func116,ntmps116
 go_wp2_with fail
 refine c.mono ?_;rintro e w2 ⟨rfl,d⟩;have f:=d.symm;subst f
 go_wp2_with fail
 go_ret;exact⟨rfl,jcc _ _⟩
theorem qt6 (k:Int) (w:World) (h:PW w b G W) (g:¬(0<=k/\k<(W.n:Int))):
 Ca 115 #[PP b,U k] w (Rn (jc 2) w):=by
 obtain⟨a0,j,a1,l,a2,m,a,o,p,r,s⟩:=h.lens
 have c:=yi (k:=k) (v:=false) w a (by
  have q:¬(0<=k)\/¬(k<(W.n:Int)):=by omega
  rcases q with q|q<;>simp[q])
 go_enter func115,ntmps115
 go_wp2_with fail
 refine c.mono ?_;rintro e w2 ⟨rfl,d⟩;have f:=d.symm;subst f
 go_wp2_with fail
 go_ret;exact⟨rfl,jcc _ _⟩
theorem qy6 (k:Int) (y:Int) (w:World) (h:PW w b G W) (g:¬(0<=k/\k<(W.n:Int))):
 Ca 106 #[PP b,U k,U y] w (Rn (jc 2) w):=by
 obtain⟨a0,j,a1,l,a2,m,a,o,p,r,s⟩:=h.lens
 have c:=yi (k:=k) (v:=false) w a (by
  have q:¬(0<=k)\/¬(k<(W.n:Int)):=by omega
  rcases q with q|q<;>simp[q])
 go_enter func106,ntmps106
 go_wp2_with fail
 refine c.mono ?_;rintro e w2 ⟨rfl,d⟩;have f:=d.symm;subst f
 go_wp2_with fail
 go_ret;exact⟨rfl,jcc _ _⟩
theorem qyb (k:Int) (y:Int) (w:World) (h:PW w b G W) (j:¬(0<=k/\k<(W.c:Int))):
 Ca 112 #[PP b,U k,U y] w (Rn (jc 2) w):=by
 obtain⟨a0,l,a1,m,a2,n,o,a,p,r,s⟩:=h.lens
 have d:=yf (k:=k) (v:=false) w a (by
  have q:¬(0<=k)\/¬(k<(W.c:Int)):=by omega
  rcases q with q|q<;>simp[q])
 go_enter func112,ntmps112
 go_wp2_with fail
 refine d.mono ?_;rintro e w2 ⟨rfl,f⟩;have g:=f.symm;subst g
 go_wp2_with fail
 go_ret;exact⟨rfl,jcc _ _⟩
theorem qve (y:Int) (w:World) (h:PW w b G W) (hi:i<W.c) (p:¬(0<=y/\y<(W.n:Int))):
 Ca 112 #[PP b,U i,U y] w (Rn (jc 2) w):=by
 obtain⟨a0,r,a1,s,a2,t,a,d,u,x,z⟩:=h.lens;have f:=yf (k:=i) (v:=true) w d (by simp;omega)
 have g:=yi (k:=y) (v:=false) w a (by
  have q:¬(0<=y)\/¬(y<(W.n:Int)):=by omega
  rcases q with q|q<;>simp[q])
 go_enter func112,ntmps112
 go_wp2_with fail
 refine f.mono ?_;rintro e w2 ⟨rfl,j⟩;have l:=j.symm;subst l
 go_wp2_with fail
 refine g.mono ?_;rintro e B ⟨rfl,m⟩;have o:=m.symm;subst o
 go_wp2_with fail
 go_ret;exact⟨rfl,jcc _ _⟩
theorem qvi (y:Int) (w:World) (h:PW w b G W) (hi:i<W.n) (g:¬(0<=y/\y<=1099511627776)):
 Ca 106 #[PP b,U i,U y] w (Rn (jc 2) w):=by
 obtain⟨a0,j,a1,l,a2,m,a,o,p,q,r⟩:=h.lens;have c:=yi (k:=i) (v:=true) w a (by simp;omega);by_cases s:y<0;skip
 rotate_left
 have t:1099511627776<y:=by omega
 all_goals
  go_enter func106,ntmps106
  go_wp2_with fail
  refine c.mono ?_;rintro e w2 ⟨rfl,d⟩;have f:=d.symm;subst f
  go_wp2_with fail
  go_ret;exact⟨rfl,jcc _ _⟩
theorem q2g (k:Int) (y:Int) (w:World) (h:PW w b G W) (g:¬(0<=k/\k<(W.n:Int))):
 Ca 96 #[PP b,U k,U y] w (Rn (jc 2) w):=by
 obtain⟨a0,j,a1,l,a2,m,a,o,p,r,s⟩:=h.lens
 have c:=yi (k:=k) (v:=false) w a (by
  have q:¬(0<=k)\/¬(k<(W.n:Int)):=by omega
  rcases q with q|q<;>simp[q])
 go_enter func96,ntmps96
 go_wp2_with fail
 refine c.mono ?_;rintro e w2 ⟨rfl,d⟩;have f:=d.symm;subst f
 go_wp2_with fail
 go_ret;exact⟨rfl,jcc _ _⟩
theorem qxx (y:Int) (w:World) (h:PW w b G W) (hi:i<W.n) (m:¬(0<=y/\y<(W.n:Int))):
 Ca 96 #[PP b,U i,U y] w (Rn (jc 2) w):=by
 obtain⟨a0,o,a1,p,a2,r,a,s,t,u,x⟩:=h.lens;have c:=yi (k:=i) (v:=true) w a (by simp;omega)
 have d:=yi (k:=y) (v:=false) w a (by
  have q:¬(0<=y)\/¬(y<(W.n:Int)):=by omega
  rcases q with q|q<;>simp[q])
 go_enter func96,ntmps96
 go_wp2_with fail
 refine c.mono ?_;rintro e w2 ⟨rfl,f⟩;have g:=f.symm;subst g
 go_wp2_with fail
 refine d.mono ?_;rintro e z ⟨rfl,j⟩;have l:=j.symm;subst l
 go_wp2_with fail
 go_ret;exact⟨rfl,jcc _ _⟩
theorem q7z (w:World) (h:PW w b G W):Ca 111 #[PP b] w λe w'=>e=.returned (U W.lost)/\w'=w:=by
 obtain⟨a0,a,a1,c,a2,d,f,g,j,k,l⟩:=h.lens;go_enter func111,ntmps111
 go_wp2_with fail
 go_ret;exact⟨rfl,rfl⟩
theorem qxw (k:Int) (w:World) (h:PW w b G W) (m:¬(0<=k/\k<(W.n:Int))):
 Ca 114 #[PP b,U k] w (Rn (.tuple #[.agg #[U 0,U 0,U 0,U 0],U 0,.slice none 0 0,U 0,jc 2]) w):=by
 obtain⟨a0,o,a1,p,a2,r,d,s,t,u,x⟩:=h.lens;have c:=boxed (jcc _ w) (.cells #[U 0,U 0,U 0,U 0] 77);have a:=qd.new (w:=w) (T:=77) (n:=w.heap.size) [U 0,U 0,U 0,U 0] rfl;have y:=a.cell 0 _ rfl;have z:=a.free 0 (by simp);have B:=a.cell 1 _ rfl;have f1:=a.free 1 (by simp);have C:=a.cell 2 _ rfl;have D:=a.free 2 (by simp);have E:=a.cell 3 _ rfl;have F:=a.free 3 (by simp);have f:Hid _:=a
 have g:=yi (k:=k) (v:=false) (w.nu #[U 0,U 0,U 0,U 0] 77) (cell_later c d) (by
  have q:¬(0<=k)\/¬(k<(W.n:Int)):=by omega
  rcases q with q|q<;>simp[q])
 go_enter func114,ntmps114
 go_wp2_with fail
 refine g.mono ?_;rintro e w2 ⟨rfl,j⟩;have l:=j.symm;subst l
 go_wp2_with fail
 (try simp only[Exit.inBlock,Exit.then])
 exact bodyPost_ret (qlr f.out rfl rfl rfl rfl rfl) rfl ⟨rfl,c⟩
theorem qtc (k:Int) (w:World) (h:PW w b G W) (p:¬(0<=k/\k<(W.c:Int))):
 Ca 101 #[PP b,U k] w (Rn (.tuple #[U 0,.agg #[U 0,U 0,U 0,U 0],.agg #[U 0,U 0,U 0,U 0],.bool false,jc 2]) w):=by
 obtain⟨a0,r,a1,s,a2,t,u,j,x,y,z⟩:=h.lens;have f:=boxed (boxed (jcc _ w) (.cells #[U 0,U 0,U 0,U 0] 77)) (.cells #[U 0,U 0,U 0,U 0] 77);have a:=(qd.new (w:=w) (T:=77) (n:=w.heap.size) [U 0,U 0,U 0,U 0] rfl).later (boxed (jcc _ _) (.cells #[U 0,U 0,U 0,U 0] 77));have d:=qd.new (w:=w.nu #[U 0,U 0,U 0,U 0] 77) (T:=77) (n:=w.heap.size+1) [U 0,U 0,U 0,U 0] (by simp);have B:=a.cell 0 _ rfl;have C:=a.free 0 (by simp);have D:=d.cell 0 _ rfl;have E:=d.free 0 (by simp);have F:=a.cell 1 _ rfl;have f1:=a.free 1 (by simp);have H:=d.cell 1 _ rfl;have I:=d.free 1 (by simp);have J:=a.cell 2 _ rfl;have K:=a.free 2 (by simp);have L:=d.cell 2 _ rfl;have M:=d.free 2 (by simp);have N:=a.cell 3 _ rfl;have O:=a.free 3 (by simp);have P:=d.cell 3 _ rfl;have Q:=d.free 3 (by simp);have g:Hid _:=And.intro a d
 have l:=yf (k:=k) (v:=false) ((w.nu #[U 0,U 0,U 0,U 0] 77).nu #[U 0,U 0,U 0,U 0] 77) (cell_later f j) (by
  have q:¬(0<=k)\/¬(k<(W.c:Int)):=by omega
  rcases q with q|q<;>simp[q])
 go_enter func101,ntmps101
 go_wp2_with fail
 refine l.mono ?_;rintro e w2 ⟨rfl,m⟩;have o:=m.symm;subst o
 go_wp2_with fail
 (try simp only[Exit.inBlock,Exit.then])
 exact bodyPost_ret (qjo g.out.1 g.out.2 rfl rfl rfl rfl rfl) rfl ⟨rfl,f⟩
theorem q2a {n c:Int} (a:¬((1<=n/\n<=4)/\(0<=c/\c<=6))) (w:World):
 Ca 65 #[U n,U c] w (Rn (.tuple #[.pointer none,jc 2]) w):=by
 by_cases d:n<1;skip
 rotate_left
 by_cases e:4<n;skip
 rotate_left
 by_cases f:c<0;skip
 rotate_left
 have g:6<c:=by omega
 all_goals
  go_enter func65,ntmps65
  go_wp2_with fail
  go_ret2;exact⟨rfl,jcc _ _⟩
end
end
section
open Go.RowKit
variable {k m i:Nat} {g:GrS} {W:WoS}
section
variable {W W':WoS} {j:Nat}
theorem PlI.bring (a:qaf W W'):PlI j W->PlI j W':=by
 induction a with
 |none _=>exact id
 |step _ hd _ ih=>exact λh=>ih (h.deliver hd)
theorem PlI.asks (b:qdo k m W W'):PlI j W->k<W.n->m<=W.n->PlI j W':=by
 induction b with
 |zero=>exact λh _ _=>h
 |self _ _ ih=>exact λh a c=>ih h a (by omega)
 |@ask W W1 W' m h1 hne hb ih=>
  intro h a c;have d:=ih h a (by omega);have e:=h1.keep.n;exact PlI.bring hb (d.send (g:=⟨m,.ask k (W1.S k).a0 (W1.S k).a1 (W1.S k).a2 (W1.S k).a3⟩) (by show m<W1.n;omega) (by show 0<=(k:Int)/\(k:Int)<(W1.n:Int);omega))
theorem PlI.round (a:qc1 m W W'):PlI j W->m<=W.n->PlI j W':=by
 induction a with
 |zero=>exact λh _=>h
 |@next W W1 W' m h1 h2 ih=>
  intro h b;have c:=h1.keep.n;exact PlI.asks h2 (ih h (by omega)) (by omega) (jcd _)
theorem PlI.calm (h:PlI j W) (a:qg9 W W'):PlI j W':=by
 obtain⟨W1,b,c⟩:=a;exact PlI.round c (PlI.bring b h) (jcd _)
theorem q9p (x:Int):wfI (wrap64 x):=by
 unfold wfI wrap64;omega
theorem qhw (h:wfI W.lost):wfI (zk W g).lost:=by
 unfold zk;split
 ·exact q9p _
 exact h
theorem qms {t:TxP}:∀(k:Nat),wfI W.lost->wfI (qam t k W).lost
 |0,_,h=>h
 |k+1,_,h=>by
  unfold qam;split
  ·exact qms k h
  exact qhw (qms k h)
theorem qo1 {o:Nat}:∀(l:List TxP),wfI W.lost->wfI (zl o l W).lost
 |[],_,h=>h
 |t::l,_,h=>by
  unfold zl;refine qo1 l ?_;split
  ·exact h
  exact qhw h
theorem q30 (a:qeo W g W') (h:wfI W.lost):wfI W'.lost:=by
 unfold qeo at a;split at a
 ·obtain⟨S',_,rfl⟩:=a;exact h
 split at a
 ·rw[a];exact qo1 _ h
 rw[a];exact h
theorem qmh (a:zy W i W') (h:wfI W.lost):wfI W'.lost:=by
 obtain⟨g,_,b⟩:=a;exact q30 b h
theorem qqa (a:qaf W W'):wfI W.lost->wfI W'.lost:=by
 induction a with
 |none _=>exact id
 |step _ hd _ ih=>exact λh=>ih (qmh hd h)
theorem q2m (a:qdo k m W W'):wfI W.lost->wfI W'.lost:=by
 induction a with
 |zero=>exact id
 |self _ _ ih=>exact ih
 |ask _ _ hb ih=>exact λh=>qqa hb (qhw (ih h))
theorem qzq (a:qc1 m W W'):wfI W.lost->wfI W'.lost:=by
 induction a with
 |zero=>exact id
 |next _ h2 ih=>exact λh=>q2m h2 (ih h)
theorem q1r (a:qg9 W W') (h:wfI W.lost):wfI W'.lost:=by
 obtain⟨W1,b,c⟩:=a;exact qzq c (qqa b h)
end
structure qe9 (s:qy):Prop where
 p0:qag s.p0
 p1:qag s.p1
 p2:qag s.p2
 p3:qag s.p3
 s0:qag s.s0
 s1:qag s.s1
 s2:qag s.s2
 s3:qag s.s3
 ws:∀x∈s.ws,x.data.size<=12
theorem qdx {a b:Int} (h:qag a) (k:qag b):qag (jd a b):=by unfold jd;split<;>assumption
theorem qeh:qag 0:=⟨by decide,by decide⟩
theorem qe9.new:qe9 qez:=⟨qeh,qeh,qeh,qeh,qeh,qeh,qeh,qeh,λ_ h=>(by cases h)⟩
variable {S:qe} {s:qy}
theorem qe9.begin (h:qe9 s) (a:j3 S):qe9 (qhd S s):=by
 unfold qhd;split
 ·exact⟨h.p0,h.p1,h.p2,h.p3,a.a0,a.a1,a.a2,a.a3,λ_ h=>(by cases h)⟩
 exact h
theorem qe9.write (h:qe9 s) (x:Wr):qe9 (qd2 s x):=by
 unfold qd2;split
 ·rename_i q;refine⟨h.p0,h.p1,h.p2,h.p3,h.s0,h.s1,h.s2,h.s3,λy a=>?_⟩;rcases jcf.1 a with r|r
  ·exact h.ws y r
  rw[jcj.1 r];unfold qaj at q
  repeat' split at q
  all_goals first|omega|(exfalso;revert q;decide)
 exact h
theorem qe9.end_ (h:qe9 s):qe9 (qc3 s):=⟨qdx h.p0 h.s0,qdx h.p1 h.s1,qdx h.p2 h.s2,qdx h.p3 h.s3,qeh,qeh,qeh,qeh,λ_ h=>(by cases h)⟩
theorem qe9.abort (h:qe9 s):qe9 (qhh s):=by
 unfold qhh;split
 ·exact h
 exact h.end_
theorem qe9.atLeast (h:qe9 s) {b a:Int} (c:qag a):qe9 (atLeast b a s):=by
 refine⟨?_,?_,?_,?_,h.s0,h.s1,h.s2,h.s3,h.ws⟩
 ·show qag (if b=0 then jd s.p0 a else s.p0);split;exact qdx h.p0 c;exact h.p0
 ·show qag (if b=1 then jd s.p1 a else s.p1);split;exact qdx h.p1 c;exact h.p1
 ·show qag (if b=2 then jd s.p2 a else s.p2);split;exact qdx h.p2 c;exact h.p2
 show qag (if b=3 then jd s.p3 a else s.p3);split;exact qdx h.p3 c;exact h.p3
theorem qe9.commit {now:Int} (h:qe9 s) (a:qag (qce S s now).seq):qe9 (j0 S s now):=by
 unfold j0;split
 ·exact h
 split
 ·exact h.end_
 exact h.end_.atLeast a
structure DkI (W:WoS):Prop where
 pl:∃j,PlI j W
 ses:∀k,k<W.c->qe9 (W.ses k)
 lost:wfI W.lost
variable {er:Int} {t:List UInt8}
section
variable {W W':WoS} {k:Nat}
theorem DkI.new {n c:Nat} (a:1<=n) (b:n<=4) (d:c<=6):DkI (qcb n c):=⟨⟨0,PlI.new a b d⟩,λ_ _=>qe9.new,(by show wfI 0;exact⟨by decide,by decide⟩)⟩
theorem DkI.set {a:qy} (h:DkI W) (b:∃j,PlI j (vf W k a)) (c:qe9 a):DkI (vf W k a):=⟨b,λi hi=>by
 show qe9 (jj W.ses k a i);by_cases q:i=k
 ·rw[q,qt];exact c
 rw[yq _ _ q];exact h.ses i hi,h.lost⟩
theorem q2w (h:DkI W) (b:k<W.c):qag (wcT W k).seq:=by
 by_cases q:0<(wcT W k).seq
 ·obtain⟨j,a⟩:=h.pl;have:=(a.told b q).1;simp only[okT,jt,jct,jk]at this;exact⟨by omega,by omega⟩
 unfold wcT qce at q ⊢;split at q
 ·rename_i e;rw[if_pos e];exact qeh
 rename_i e;rw[if_neg e];unfold qha at q ⊢;split at q
 ·rename_i f;rw[if_pos f]
  exfalso
  apply q
  obtain⟨j,a⟩:=h.pl;have d:=a.wf.inv _ (a.wf.at_ k b);have:=qis (ws:=jh (W.ses k).ws) d f;simp only[okT,jt,jct,jk]at this;have:=this.1.1.1.1.2.1;omega
 rename_i f;rw[if_neg f];exact qeh
theorem DkI.cmd {l:List Int} {d:ByteArray} (h:DkI W) (a:qaa i W l d W' er t):DkI W':=by
 obtain⟨j,b⟩:=h.pl;unfold qaa at a;split at a
 case h_1 k=>
  obtain⟨_,a⟩:=a;split at a
  ·rename_i q
   have f:k.toNat<W.c:=by have:=q.1;have:=q.2;omega
   rw[a.1];exact h.set ⟨_,b.abort f⟩ (h.ses _ f).abort
  rw[a.1];exact h
 case h_2 k o=>
  obtain⟨_,a⟩:=a;split at a
  ·rename_i q;rw[a.1];exact⟨⟨j,b.send (g:=⟨o.toNat,.ask k.toNat (W.S k.toNat).a0 (W.S k.toNat).a1 (W.S k.toNat).a2 (W.S k.toNat).a3⟩) (by show o.toNat<W.n;have:=q.2.1.1;have:=q.2.1.2;omega) (by show 0<=(k.toNat:Int)/\(k.toNat:Int)<(W.n:Int);have:=q.1.1;have:=q.1.2;omega)⟩,by rw[show (qme W k.toNat o.toNat).c=W.c from(yb _ _).c,show (qme W k.toNat o.toNat).ses=W.ses from(yb _ _).ses];exact h.ses,qhw h.lost⟩
  rw[a.1];exact h
 case h_3 k=>
  obtain⟨_,a⟩:=a;split at a
  ·rename_i q
   have f:k.toNat<W.c:=by have:=q.1;have:=q.2;omega
   rw[a.1];exact h.set ⟨_,b.begin f⟩ ((h.ses _ f).begin (b.wf.inv _ (b.wf.at_ _ f)))
  rw[a.1];exact h
 case h_4=>exact⟨⟨j,b.calm a.2.1⟩,by rw[a.2.1.keep.c,a.2.1.keep.ses];exact h.ses,q1r a.2.1 h.lost⟩
 case h_5=>rw[a.1];exact h
 case h_6 k=>
  split at a
  ·rename_i q
   have f:k.toNat<W.c:=by have:=q.1;have:=q.2;omega
   rw[a.2.1]
   have p:∀i,i<W.c->qe9 ((qd4 W k.toNat).ses i):=λi hi=>by
        show qe9 (jj W.ses k.toNat _ i);by_cases e:i=k.toNat
        ·rw[e,qt];exact(h.ses _ f).commit (q2w h f)
        rw[yq _ _ e];exact h.ses i hi
   refine⟨⟨j,b.commit f⟩,?_,?_⟩
   ·unfold wcW;split
    ·rw[(zx _ _ _).c,(zx _ _ _).ses];exact p
    exact p
   unfold wcW;split
   ·exact qms _ h.lost
   exact h.lost
  rw[a.2.1];exact h
 case h_7 k=>
  obtain⟨_,a⟩:=a;split at a
  ·exact⟨⟨j,b.deliver a.1⟩,by rw[a.1.keep.c,a.1.keep.ses];exact h.ses,qmh a.1 h.lost⟩
  rw[a.1];exact h
 case h_8 k key=>
  obtain⟨_,a⟩:=a;split at a
  ·rename_i q
   have f:k.toNat<W.c:=by have:=q.1;have:=q.2;omega
   rw[a.1];exact h.set ⟨_,b.write f _⟩ ((h.ses _ f).write _)
  rw[a.1];exact h
 case h_9 k y=>
  obtain⟨_,a⟩:=a;split at a
  ·rename_i q;rw[a.1];exact⟨⟨j,b.goes q.2.1 (by have:=q.1.1;have:=q.1.2;omega)⟩,h.ses,h.lost⟩
  rw[a.1];exact h
 case h_10=>rw[a.2.1];exact h
 case h_11 k=>
  obtain⟨_,a⟩:=a;split at a
  ·rw[a.1];exact⟨⟨j,b.drop _⟩,h.ses,h.lost⟩
  rw[a.1];exact h
 case h_12=>rw[a.2.1];exact h
 case h_13 k to_=>
  obtain⟨_,a⟩:=a;split at a
  ·rename_i q;rw[a.1]
   refine⟨⟨j,b.move (by have:=q.2.1;have:=q.2.2;omega)⟩,?_,?_⟩<;>unfold qhx<;>split<;>first|exact h.ses|exact h.lost
  rw[a.1];exact h
 case h_14=>rw[a.1];exact h
 case h_15=>rw[a.1];exact h
 case h_16 k=>
  obtain⟨_,a⟩:=a;split at a
  ·rename_i q;rw[a.1];exact⟨⟨j,b.sweep (by have:=q.1;have:=q.2;omega)⟩,h.ses,h.lost⟩
  rw[a.1];exact h
 case h_17 k=>
  obtain⟨_,a⟩:=a;split at a
  ·obtain⟨⟨g,r,rfl⟩,_⟩:=a;exact⟨⟨j,b.send (b.wf.to g (jcq r)) (b.nt g (jcq r))⟩,by rw[(yb _ _).c,(yb _ _).ses];exact h.ses,qhw h.lost⟩
  rw[a.1];exact h
 case h_18 n c=>
  obtain⟨_,a⟩:=a;split at a
  ·rename_i q;rw[a.1];exact DkI.new (by omega) (by omega) (by omega)
  rw[a.1];exact h
 case h_19 k key=>
  obtain⟨_,a⟩:=a;split at a
  ·rename_i q
   have f:k.toNat<W.c:=by have:=q.1;have:=q.2;omega
   rw[a.1];exact h.set ⟨_,b.write f _⟩ ((h.ses _ f).write _)
  rw[a.1];exact h
 case h_20=>exact a.elim
theorem DkI.does {rest:List ByteArray} (h:DkI W) (a:qc2 i W rest W' er t):DkI W':=by
 unfold qc2 at a;split at a
 ·rw[a.1];exact h
 exact h.cmd a
end
end
section
open Go.RowKit
def jb1 (o:Option Int) (e:Ending):Prop:=match o with
 |some v=>e=.returned (.tuple #[U v,.bool true])
 |none=>e=.returned (.tuple #[U 0,.bool false])
theorem qwe (s:ByteArray) (p:s.size<=1000000) (w:World) (g:Gl w):
 Ca 29 #[.string s] w λe w'=>jb1 (qbw s) e/\Bw w w':=by
 by_cases a:∃v,Lib.parseIntB 64 s.data.toList=.ok v
 ·obtain⟨v,a⟩:=a
  have b:wfI v:=by have:=Lib.parseIntB_bounds a;simp at this;exact⟨by omega,by omega⟩
  have i:=qvu s p v a w
  have j:Hid (qbw s=if bya (Lib.itoa v)=s then some v else none):=by show qbw s=_;unfold qbw;rw[a]
  have c:=λw' q=>qq9 v b w' (g.later (w':=w') q);have k:=q93 (bya (Lib.itoa v)) s
  generalize bya (Lib.itoa v)=t at j c k
  go_enter Tryz.func29,Tryz.ntmps29
  go_wp2_with fail
  refine i.mono ?_;rintro e m ⟨rfl,d⟩;replace c:=c m d;by_cases h:t=s
  ·have r:(t.toList==s.toList)=true:=by rw[k];simp[h]
   have f:Hid (qbw s=some v):=by show qbw s=_;rw[j.out,if_pos h]
   go_wp2_with fail
   refine c.mono ?_;rintro e w2 ⟨rfl,l⟩
   go_wp2
   go_ret2;exact⟨by rw[f.out];rfl,qa d l⟩
  have r:(t.toList==s.toList)=false:=by rw[k];simp[h]
  have f:Hid (qbw s=none):=by show qbw s=_;rw[j.out,if_neg h]
  go_wp2_with fail
  refine c.mono ?_;rintro e w2 ⟨rfl,l⟩
  go_wp2
  go_ret2;exact⟨by rw[f.out];rfl,qa d l⟩
 have o:∀v,Lib.parseIntB 64 s.data.toList≠.ok v:=λv b=>a ⟨v,b⟩;have i:=jeh s (by omega) o w g.es g.er
 have f:Hid (qbw s=none):=by
  show qbw s=none;unfold qbw;split
  ·rename_i v b;exact absurd b (o v)
  rfl
 go_enter Tryz.func29,Tryz.ntmps29
 go_wp2_with fail
 refine i.mono ?_;rintro e m ⟨n,N,rfl,d⟩
 go_wp2
 go_ret2;exact⟨by rw[f.out];rfl,d⟩
theorem qb7 {b o cap:Nat} {l:List Int} (t:l≠[]) (C:l.length<=8) (K:∀x∈l,wfI x) (w:World) (g:Gl w) (i:b<w.heap.size) (m:∀(j:Nat) x,l[j]?=some x->w.cell? (AD b (o+j))=some (U x)):
 Ca 17 #[.slice (some (AD b o)) l.length cap] w λe w'=>e=.returned (.string (bya (qv l)))/\Bw w w':=by
 obtain⟨L,hi,M,N,O⟩:=info_parts qki;have f:=hd6 g K i m t C;go_enter Tryz.func17,Tryz.ntmps17
 go_wp2
 go_loopw [3,8] (λD iv wr=>∃(k:Nat) (z:Int),k<=l.length/\z=k/\iv=U z/\Hid (wr.ownsRow w.heap.size 9 1 D k ((l.take k).map (λx=>Value.string (qen x)))/\Bw w wr)) (λ_ iv _=>l.length-(intOf iv).toNat)
 case atStart=>exact⟨0,0,jcw _,rfl,rfl,jcx w _ _ _,jcc _ _⟩
 rename_i D _;obtain⟨k,z,hk,P,rfl,a⟩:=hrel;have Q:=hd1 P;by_cases E:k<l.length
 ·have R:z<(l.length:Int):=by omega
  have g2:0<=z:=by omega
  have g3:z.toNat=k:=by omega
  have g4:z<8:=by have:=f.out.2.2.2.2.2;omega
  obtain⟨x,v⟩:∃x,l[k]?=some x:=⟨_,jcg E⟩;obtain⟨F,B,i,m,_⟩:=f.out;have c0:=(a.out.2.cell (p:=AD b (o+k)) i).trans (m k x v);have T:=qsn x (B x (jcq v)) wr (F.later a.out.2)
  have S:Hid ((l.take (k+1)).map (λx=>Value.string (qen x))=(l.take k).map (λx=>Value.string (qen x))++[.string (qen x)]):=by
   show _=_;rw[jdu,v];simp
  go_wp2_with fail
  refine T.mono ?_;rintro e w2 ⟨rfl,n⟩;have V:=boxed (jcc _ w2) (.cells #[.string (qen x)] 9);have G:=qg3 (qg3 a.out.1 n) V;have d:=hd1 (qa a.out.2 n)
  go_wp2_with (at_builtin;refine wpList_append_lies _ rfl _ _ 42 rfl w.heap.size 9 L (.string ⟨#[]⟩) 1 16 Tryz.underlying42 hi M N O rfl (by decide) _ _ _ rfl G (AD w2.heap.size 0) 1 1 [.string (qen x)] rfl rfl (World.news_of_block (heap_alloc_new w2 (.cells #[.string (qen x)] 9))) ?c2 (by decide) ?c3 ?c4 ?c5 _ rfl ?_)
  case c2=>intro u H;simp at H;subst H;rfl
  case c3=>have:=f.out.2.2.2.2.2;unfold maxLen;omega
  case c4=>have:=f.out.2.2.2.2.2;omega
  case c5=>have:=d.out.size;simp;omega
  intro r s I W X at3 lt3
  have Y:Hid (I.ownsRow w.heap.size 9 1 (.slice (PT r) (k+1) s) (k+1) ((l.take (k+1)).map (λx=>Value.string (qen x)))/\Bw w I):=by
   refine⟨by rw[S.out];simpa[List.map_take]using W,?_⟩;exact(d.out.alloc d.out.size _).grown X (by have:=d.out.size;simp;omega) (λq e=>(G.lt q e).1)
  go_wp2
  go_roundw
  case rel=>exact⟨k+1,z+1,E,by have:=Q.out;omega,by go_num,Y.out⟩
  simp[intOf];omega
 have R:¬z<(l.length:Int):=by omega
 have Z:k=l.length:=by omega
 subst Z;rw[jc9]at a;obtain⟨F,B,i,m,t,C⟩:=f.out;have aa:=List.length_pos_iff.2 t;obtain⟨r,s,rfl,hB,ab⟩:=a.out.1.form aa;have ac:=a.out.1.cells (g:=r) rfl
 have ad:l.length<=s:=by
  rcases a.out.1.2 with ⟨h,_⟩|⟨g',c',cur,hv,_,_,hnc,_⟩
  ·cases h
  cases hv;exact hnc
 have J:=jd1 r 0 s (l.map qen) ⟨#[32]⟩ wr (λj y c=>by
  have:=ac j (.string y) (by rw[jcv]at c ⊢;cases hq:l[j]?with
   |none=>rw[hq]at c;cases c
   |some q=>rw[hq]at c;injection c with c;subst c;rfl)
  rcases Nat.eq_zero_or_pos j with rfl|hj
  ·simpa[Addr.add]using this
  simpa[Addr.add,Nat.ne_of_gt hj]using this) ab (by simp;omega) (by simpa using ad) (by
  rw[show (⟨#[32]⟩:ByteArray).data.toList=[32]from rfl,qn2];have:=ze B
  omega)
 rw[jdh,show (⟨#[32]⟩:ByteArray).data.toList=[32]from rfl,qn2]at J;have d:=hd1 a.out.2
 go_wp2_with fail
 refine J.mono ?_;rintro e w2 ⟨rfl,n⟩
 go_wp2
 go_ret;exact⟨rfl,qa d.out n⟩
end
section
variable {t:List UInt8}
section
variable {W W':WoS} {j:Nat}
theorem PlI.cmd {i:Nat} {l:List Int} {d:ByteArray} {er:Int} (e:PlI j W) (a:qaa i W l d W' er t):PlI (j+1) W':=by
 have h:=e.mono (Nat.le_succ j)
 have b:∀{k:Int} {n:Nat},ye k n->k.toNat<n:=λq=>by have:=q.1;have:=q.2;omega
 unfold qaa at a;split at a
 case h_1 k=>
  obtain⟨_,a⟩:=a;split at a
  ·rename_i q;rw[a.1];exact(e.abort (b q)).mono (Nat.le_succ j)
  rw[a.1];exact h
 case h_2 k o=>
  obtain⟨_,a⟩:=a;split at a
  ·rename_i q;rw[a.1];exact h.send (g:=⟨o.toNat,.ask k.toNat (W.S k.toNat).a0 (W.S k.toNat).a1 (W.S k.toNat).a2 (W.S k.toNat).a3⟩) (by show o.toNat<W.n;exact b q.2.1) (by show 0<=(k.toNat:Int)/\(k.toNat:Int)<(W.n:Int);have:=q.1.1;have:=q.1.2;omega)
  rw[a.1];exact h
 case h_3 k=>
  obtain⟨_,a⟩:=a;split at a
  ·rename_i q;rw[a.1];exact(e.begin (b q)).mono (Nat.le_succ j)
  rw[a.1];exact h
 case h_4=>exact h.calm a.2.1
 case h_5=>rw[a.1];exact h
 case h_6 k=>
  split at a
  ·rename_i q;rw[a.2.1];exact h.commit (b q)
  rw[a.2.1];exact h
 case h_7 k=>
  obtain⟨_,a⟩:=a;split at a
  ·exact h.deliver a.1
  rw[a.1];exact h
 case h_8 k key=>
  obtain⟨_,a⟩:=a;split at a
  ·rename_i q;rw[a.1];exact e.write (b q) _
  rw[a.1];exact h
 case h_9 k y=>
  obtain⟨_,a⟩:=a;split at a
  ·rename_i q;rw[a.1];exact h.goes q.2.1 (b q.1)
  rw[a.1];exact h
 case h_10=>rw[a.2.1];exact h
 case h_11 k=>
  obtain⟨_,a⟩:=a;split at a
  ·rw[a.1];exact h.drop _
  rw[a.1];exact h
 case h_12=>rw[a.2.1];exact h
 case h_13 k to_=>
  obtain⟨_,a⟩:=a;split at a
  ·rename_i q;rw[a.1];exact h.move (b q.2)
  rw[a.1];exact h
 case h_14=>rw[a.1];exact h
 case h_15=>rw[a.1];exact h
 case h_16 k=>
  obtain⟨_,a⟩:=a;split at a
  ·rename_i q;rw[a.1];exact h.sweep (b q)
  rw[a.1];exact h
 case h_17 k=>
  obtain⟨_,a⟩:=a;split at a
  ·obtain⟨⟨g,f,rfl⟩,_⟩:=a;exact h.send (e.wf.to g (jcq f)) (e.nt g (jcq f))
  rw[a.1];exact h
 case h_18 n c=>
  obtain⟨_,a⟩:=a;split at a
  ·rename_i q;rw[a.1];exact(PlI.new (n:=n.toNat) (c:=c.toNat) (by omega) (by omega) (by omega)).mono (jcw _)
  rw[a.1];exact h
 case h_19 k key=>
  obtain⟨_,a⟩:=a;split at a
  ·rename_i q;rw[a.1];exact e.write (b q) _
  rw[a.1];exact h
 case h_20=>exact a.elim
theorem PlI.ans {d:ByteArray} (c:PlI j W) (h:qas W d W' t):PlI (j+1) W':=by
 have b:=c.mono (Nat.le_succ j);unfold qas at h;split at h
 ·rw[h.1];exact b
 split at h
 ·rw[h.1];exact b
 obtain⟨er,u,a,_⟩:=h;unfold qc2 at a;split at a
 ·rw[a.1];exact b
 exact c.cmd a
theorem qd8.few {l:List ByteArray} {s:List UInt8} (h:qd8 W l s W'):PlI j W->PlI (j+l.length) W':=by
 induction h with
 |nil=>exact λh=>h
 |snoc h1 h2 ih=>
  intro h;rw[jcl];exact(ih h).ans h2
end
end
def qao:List UInt8->List (List UInt8)
 |[]=>[[]]
 |c::r=>if c=10 then []::qao r else
  match qao r with
  |h::t=>(c::h)::t
  |[]=>[[c]]
def qfq (s:List UInt8):List (List UInt8):=qao (Lib.trimSuffix s [10])
theorem qrs (s:List UInt8):qao s≠[]:=by
 cases s with
 |nil=>simp[qao]
 |cons c r=>
  unfold qao;split
  ·simp
  split<;>simp
theorem qg4 (c:UInt8) (r:List UInt8):qao (c::r)=if c=10 then []::qao r else match qao r with|h::t=>(c::h)::t|[]=>[[c]]:=rfl
theorem qxl (s t:List UInt8):qao (s++10::t)=qao s++qao t:=by
 induction s with
 |nil=>simp[qao]
 |cons c r ih=>
  rw[jdj,qg4,qg4 c r];by_cases e:c=10
  ·rw[if_pos e,if_pos e,ih];rfl
  rw[if_neg e,if_neg e,ih];cases h:qao r with
  |nil=>exact absurd h (qrs r)
  |cons x y=>rfl
theorem qtq (a:List UInt8):Lib.trimSuffix (a++[10]) [10]=a:=by
 unfold Lib.trimSuffix;rw[if_pos (by simp[Lib.hasSuffix])];simp
theorem q4s (a b:List UInt8) (f:b≠[]):Lib.trimSuffix (a++b) [10]=a++Lib.trimSuffix b [10]:=by
 obtain⟨c,x,rfl⟩:∃c x,b=c++[x]:=by
  rcases List.eq_nil_or_concat b with e|⟨c,x,e⟩
  ·exact absurd e f
  exact⟨c,x,by simpa using e⟩
 by_cases e:x=10
 ·subst e;rw[<-jcy,qtq,qtq]
 unfold Lib.trimSuffix
 have d:∀z:List UInt8,¬Lib.hasSuffix (z++[x]) [10]=true:=λz q=>by
  have g:=List.isSuffixOf_iff_suffix.1 q;obtain⟨u,h⟩:=g;have:=List.append_inj_right' h rfl;injection this with this;exact e this.symm
 rw[if_neg (by rw[<-jcy];exact d _),if_neg (d _)]
theorem q0e:Lib.cut [] [10]=([],[],false):=by decide
theorem qt7 (c:UInt8) (r:List UInt8):Lib.cut (c::r) [10]=if c=10 then ([],r,true)else (c::(Lib.cut r [10]).1,(Lib.cut r [10]).2.1,(Lib.cut r [10]).2.2):=by
 have a:Lib.index (c::r) [10]=if c=10 then 0 else if Lib.index r [10]== -1 then-1 else Lib.index r [10]+1:=by
  conv=>lhs;unfold Lib.index
  by_cases e:c=10
  ·simp[e,List.isPrefixOf]
  simp[e,List.isPrefixOf,Ne.symm e]
 have d:=Lib.index_ge r [10];unfold Lib.cut;rw[a];by_cases e:c=10
 ·simp[e]
 rw[if_neg e,if_neg e];by_cases q:Lib.index r [10]= -1
 ·simp[q]
 have b:0<=Lib.index r [10]:=by omega
 rw[if_neg (show ¬(Lib.index r [10]== -1)=true by simp[q]),if_pos (show 0<=Lib.index r [10]+1 by omega),if_pos b,show (Lib.index r [10]+1).toNat=(Lib.index r [10]).toNat+1 by omega];simp
theorem qxi (s:List UInt8):qao s=if (Lib.cut s [10]).2.2=true then (Lib.cut s [10]).1::qao (Lib.cut s [10]).2.1 else [(Lib.cut s [10]).1]:=by
 induction s with
 |nil=>rw[q0e];rfl
 |cons c r ih=>
  rw[qg4,qt7];by_cases e:c=10
  ·simp[e]
  rw[if_neg e,if_neg e,ih];by_cases q:(Lib.cut r [10]).2.2=true
  ·simp[q]
  simp[q]
theorem q4q (s:List UInt8) (h:(Lib.cut s [10]).2.2=true):(Lib.cut s [10]).2.1.length<s.length:=by
 induction s with
 |nil=>rw[q0e]at h;cases h
 |cons c r ih=>
  rw[qt7]at h ⊢;by_cases e:c=10
  ·simp[e]
  rw[if_neg e]at h ⊢;have:=ih h;simp only[List.length_cons];omega
def vm (c:UInt8):List UInt8->List (List UInt8)
 |[]=>[[]]
 |x::r=>if x=c then []::vm c r else
  match vm c r with
  |h::t=>(x::h)::t
  |[]=>[[x]]
theorem qgw (s:List UInt8):qao s=vm 10 s:=by
 induction s with
 |nil=>rfl
 |cons x r ih=>
  unfold qao vm;rw[ih]
  generalize vm 10 r=z
  cases z<;>rfl
theorem qg2 (c x:UInt8) (r:List UInt8):Lib.index (x::r) [c]=if x=c then 0 else if Lib.index r [c]== -1 then-1 else Lib.index r [c]+1:=by
 conv=>lhs;unfold Lib.index
 by_cases e:x=c
 ·simp[e,List.isPrefixOf]
 simp[e,List.isPrefixOf,Ne.symm e]
theorem qoi (c:UInt8):Lib.index [] [c]= -1:=by unfold Lib.index;simp
theorem qvv (c:UInt8) (s:List UInt8) (h:s.count c=0):Lib.index s [c]= -1:=by
 induction s with
 |nil=>exact qoi c
 |cons x r ih=>
  have e:¬x=c:=λe=>by subst e;simp at h
  rw[qg2,if_neg e,ih (by rw[List.count_cons]at h;omega)];rfl
theorem qu2 (c:UInt8) (s:List UInt8):∀k,s.count c<=k->Lib.splitK [c] 0 k s=vm c s:=by
 induction s with
 |nil=>
  intro k _;cases k with
  |zero=>rfl
  |succ k=>unfold Lib.splitK;rw[qoi];rfl
 |cons x r ih=>
  intro k a;by_cases e:x=c
  ·subst e;rw[List.count_cons_self]at a;obtain⟨m,rfl⟩:∃m,k=m+1:=⟨k-1,by omega⟩;unfold Lib.splitK vm;rw[qg2,if_pos rfl,if_pos rfl];show []::Lib.splitK [x] 0 m r=_;rw[ih m (by omega)]
  have d:r.count c<=k:=by rw[List.count_cons]at a;simp[e]at a;exact a
  have I:=ih k d;have g:=Lib.index_ge r [c];unfold vm;rw[if_neg e,<-I];by_cases q:Lib.index r [c]= -1
  ·have b:Lib.index (x::r) [c]= -1:=by rw[qg2,if_neg e,q];rfl
   cases k with
   |zero=>rfl
   |succ m=>
    unfold Lib.splitK;rw[q,b];rfl
  cases k with
  |zero=>exact absurd (qvv c r (by omega)) q
  |succ m=>
   have b:Lib.index (x::r) [c]=Lib.index r [c]+1:=by rw[qg2,if_neg e,if_neg (by simpa using q)]
   unfold Lib.splitK;rw[b,if_neg (show ¬(Lib.index r [c]+1== -1)=true by simp;omega),if_neg (show ¬(Lib.index r [c]== -1)=true by simpa using q)]
   have f:(Lib.index r [c]+1).toNat=(Lib.index r [c]).toNat+1:=by omega
   rw[f];rfl
end Go.Proofs.YtoanjdndmlffdaaGreatDoor
