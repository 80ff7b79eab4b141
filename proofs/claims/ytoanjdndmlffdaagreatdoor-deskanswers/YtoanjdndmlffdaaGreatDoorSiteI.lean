import Derived.Test.YtoanjdndmlffdaaGreatDoorSiteH
import Derived.Lib.ItoaLen
set_option maxHeartbeats 16000000
set_option maxRecDepth 1000000
namespace Go.Proofs.YtoanjdndmlffdaaGreatDoor
open Go.RowKit
section
variable {i:Nat} {G:Nat->Prop}
section
variable {w:World} {b:Nat} {M:RoM} {W:WoS} {Gs:Nat->Nat->Prop}
theorem RWo.sitesAt (h:RWo w b M W Gs) (hi:i<W.n):∃g cap,w.cell? (AD b 0)=some (.slice (PT g) W.n cap)/\W.n<=cap/\g<w.heap.size/\∀j,j<W.n->w.cell? (AD g j)=some (PP (M.bp j)):=by
 obtain⟨a,cap,d,r⟩:=qq h.sr;rcases r.held with l|⟨g,rfl,e,f⟩
 ·omega
 exact⟨g,cap,by have:=h.box.c 0;rw[d]at this;exact this,r.len,e,λj k=>f j _ (qn4 k)⟩
theorem RS.applied {F:Nat->Option Obj} {S:qe} (h:RS w b G F S):w.cell? (AD b 1)=some (U S.a0)/\w.cell? (AD b 2)=some (U S.a1)/\w.cell? (AD b 3)=some (U S.a2)/\w.cell? (AD b 4)=some (U S.a3)/\b<w.heap.size:=by
 obtain⟨_,_,_,_,_,a,_⟩:=h;exact⟨a.box.c 1,a.box.c 2,a.box.c 3,a.box.c 4,a.box.lt⟩
end
variable {b:Nat} {W:WoS}
theorem q5z (w:World) (h:RW w b G W) {o:Nat} (hi:i<W.n):
 Ca 36 #[PP b,U i,U o] w λe w'=>e=.returned (.tuple #[])/\qae w b G (qme W i o) w':=by
 obtain⟨M,Gs,h,d⟩:=h;obtain⟨g,cap,q,r,s,f⟩:=h.sitesAt hi;have t:=f i hi;obtain⟨a0,a1,a2,a3,u⟩:=(h.site hi).applied
 have v:(i:Int)<(W.n:Int):=by omega
 have x:=h.box.lt;have j:=qlu w h ⟨⟨o,.ask i (W.S i).a0 (W.S i).a1 (W.S i).a2 (W.S i).a3⟩,none,0⟩ ⟨⟨jcd _,jcw _,.inl rfl⟩,λk l=>absurd rfl l.1,λ_ _ _ _ _ _=>⟨rfl,rfl⟩⟩ rfl;have m:=hd1 d;go_enter Tryz.func36,Tryz.ntmps36
 go_wp2_with fail
 refine j.mono ?_;rintro e y ⟨rfl,p⟩
 go_wp2_with fail
 go_end0;have a:=yb W ⟨o,.ask i (W.S i).a0 (W.S i).a1 (W.S i).a2 (W.S i).a3⟩;exact⟨rfl,p.post (W:=W) m.out a.n a.c⟩
theorem q4u (w:World) (h:RW w b G W) {g:GrS} (hi:W.net[i]?=some g):
 Ca 39 #[PP b,U i] w λe w'=>e=.returned (.tuple #[])/\qae w b G (zk W g) w':=by
 obtain⟨M,Gs,h,m⟩:=h
 have E:M.l.length=W.net.length:=by rw[<-h.nl];simp
 have o:i<M.l.length:=by have:=(jck.1 hi).1;omega
 obtain⟨x,d⟩:∃x,M.l[i]?=some x:=⟨_,jcg o⟩
 have p:x.g=g:=by
  have:=hi;rw[<-h.nl,jcv,d]at this;exact jcu this
 subst p;have q:=jcq d;obtain⟨s,F,t,r⟩:=qq h.yr
 obtain⟨v,rfl,H,y⟩:∃g,s=some (AD g 0)/\g<w.heap.size/\∀j u,(qcm M.l)[j]?=some u->w.cell? (AD g j)=some u:=by
  rcases r.held with f|f
  ·omega
  exact f
 have z:=h.box.c 4;rw[t]at z;have a:=λr u (hu:(qbj x)[r]?=some u)=>y _ _ (qyc d hu);have x0:w.cell? (AD v (i*15))=some (U x.g.tj):=a 0 _ rfl;have x1:=a 1 _ rfl;have x2:=a 2 _ rfl;have x3:=a 3 _ rfl;have I:=a 4 _ rfl;have J:=a 5 _ rfl;have K:=a 6 _ rfl;have L:=a 7 _ rfl;have N:=a 8 _ rfl;have O:=a 9 _ rfl;have P:=a 10 _ rfl;have Q:=a 11 _ rfl;have R:=a 12 _ rfl;have S:=a 13 _ rfl;have T:=a 14 _ rfl;have B:=qlu w h x (h.gr x q) rfl;have C:=hd1 m;have V:=h.box.lt
 have X:(i:Int)<(M.l.length:Int):=by omega
 have Y:=r.len;go_enter Tryz.func39,Tryz.ntmps39
 go_wp2_with fail
 refine B.mono ?_;rintro e Z ⟨rfl,D⟩
 go_wp2_with fail
 go_end0;have k:=yb W x.g;exact⟨rfl,D.post (W:=W) C.out k.n k.c⟩
end
section
structure qhz (w:World) (a:Option Addr) (cap:Nat) (l:List GrR):Prop where
 len:l.length<=cap
 cap:cap<=9223372036854775807
 held:l=[]\/∃b off,a=some (AD b off)/\∀i m r u,l[i]?=some m->(qbj m)[r]?=some u->w.cell? (AD b (off+(i*15+r)))=some u
variable {w:World} {a:Option Addr} {l:List GrR}
theorem qhz.later {w':World} {cap:Nat} (d:Bw w w') (h:qhz w a cap l):qhz w' a cap l:=
 ⟨h.len,h.cap,h.held.elim .inl λ⟨b,f,e,c⟩=>.inr ⟨b,f,e,λi m r u hi j=>cell_later d (c i m r u hi j)⟩⟩
theorem q1n {B:Nat} {T:TypeId} {v:Value} (h:w.ownsRow B T 15 v l.length (qcm l)):∃a cap,v=.slice a l.length cap/\qhz w a cap l:=by
 rcases h.2 with ⟨rfl,b⟩|⟨g,cap,cur,rfl,k,o,e,f,p,q⟩
 ·exact⟨none,0,by rw[b],⟨by omega,by omega,.inl (jc2 b)⟩⟩
 refine⟨_,cap,rfl,⟨e,by simp only[maxLen]at f;omega,.inr ⟨g,0,rfl,λi m r u hi j=>?_⟩⟩⟩;have d:=h.cells (g:=g) rfl _ _ (qyc hi j);rw[qal]at d;rw[Nat.zero_add];exact d
theorem q5y (l:List GrR):∀u∈qcm l,u.oneCell'=true:=by
 intro u b;obtain⟨x,_,d⟩:=List.mem_flatMap.1 b;exact qqh x u d
theorem qv0:∀(l:List GrR) (j:Nat) (u:Value),(qcm l)[j]?=some u->∃m,l[j/15]?=some m/\(qbj m)[j%15]?=some u
 |[],j,u,h=>by simp[qcm]at h
 |x::l,j,u,h=>by
  have e:qcm (x::l)=qbj x++qcm l:=rfl;rw[e]at h;have b:(qbj x).length=15:=rfl;by_cases d:j<15
  ·rw[jc3 (by rw[b];exact d)]at h;exact⟨x,by rw[Nat.div_eq_of_lt d];rfl,by rw[Nat.mod_eq_of_lt d];exact h⟩
  rw[jc0 (by rw[b];omega),b]at h;obtain⟨m,f,i⟩:=qv0 l (j-15) u h;refine⟨m,?_,?_⟩
  ·rw[show j/15=(j-15)/15+1 by omega];simpa using f
  rw[show j%15=(j-15)%15 by omega];exact i
variable {wb:Nat}
theorem q41 {b:Nat} (h:∀i m r u,l[i]?=some m->(qbj m)[r]?=some u->w.cell? (AD wb (b+(i*15+r)))=some u):∀j u,(qcm l)[j]?=some u->w.cell? (((AD wb b):Addr).add j)=some u:=λj u d=>by
 obtain⟨m,e,f⟩:=qv0 l j u d
 have k:((AD wb b):Addr).add j=(AD wb (b+j)):=by unfold Addr.add;split<;>simp_all
 rw[k];have:=h (j/15) m (j%15) u e f;rw[show j/15*15+j%15=j by omega]at this;exact this
theorem qmr (w:World) (b:TypeId) (g n cap c:Nat) (d:n<=cap):(Builtin.append_ #[72,72] b #[.slice (PT g) n cap,.slice none 0 c]).run Tryz.prog w=.ok (.slice (PT g) n cap) w:=by
 simp[Builtin.append_,go_sem,Builtin.lenOf,Builtin.firstCells,d]
variable {g n c:Nat} {xs:List Value}
theorem qpb (w:World) (f:TypeId) {cap:Nat} (b:w.ownsRow 0 108 15 (.slice (PT g) n cap) n xs) (m:qhz w a c l) (E:n+l.length<=2000):
 ∃g' d w',(Builtin.append_ #[72,72] f #[.slice (PT g) n cap,.slice a l.length c]).run Tryz.prog w=.ok (.slice (PT g') (n+l.length) d) w'/\
  w'.ownsRow 0 108 15 (.slice (PT g') (n+l.length) d) (n+l.length) (xs++qcm l)/\w.grownBy w' (some g)/\(g'=g\/g'=w.heap.size)/\g'<w'.heap.size:=by
 obtain⟨o,hi,p,q,r⟩:=info_parts qra;have s:=(b.lt g (by simp[Value.ownBlock])).2
 have t:n<=cap:=by
  rcases b.2 with ⟨h,_⟩|⟨F,G,cur,e,_,_,i,_⟩
  ·cases h
  injection e with _ _ e3;rw[e3];exact i
 cases a with
 |none=>
  have v:l=[]:=by
   rcases m.held with h|⟨_,_,h,_⟩
   ·exact h
   cases h
  subst v;refine⟨g,cap,w,qmr w f g n cap c t,?_,⟨rfl,rfl,rfl,jcd _,λ_ _ _=>rfl⟩,.inl rfl,s⟩;show w.ownsRow 0 _ 15 _ n (xs++[]);rw[jdx];exact b
 |some ad=>
  have x:∀j u,(qcm l)[j]?=some u->w.cell? (ad.add j)=some u:=by
   rcases m.held with h|⟨wb,H,h,y⟩
   ·subst h;intro j u z;simp[qcm]at z
   injection h with h;subst h;exact q41 y
  obtain⟨v',w',B,k,i,C,D⟩:=run_append_own_at (P:=Tryz.prog) w 0 72 f 108 o (.agg #[U 0,U 0,U 0,U 0,U 0,U 0,U 0,U 0,U 0,.slice none 0 0,U 0,U 0,U 0,U 0,U 0]) 15 136 Tryz.underlying72 hi p q r rfl (by decide) (.slice (PT g) n cap) n xs b ad l.length c (qcm l) (quf l) x (q5y l) (by simp only[maxLen];omega) (by omega) (jcw _);rcases k.2 with ⟨e,_⟩|⟨g',d,cur,rfl,_,_⟩
  ·have:=(C.1 e).1;cases this
  refine⟨g',d,w',B,k,i,?_,(k.lt g' (by simp[Value.ownBlock])).2⟩;rcases D with h|h
  ·exact .inl (by simpa[Value.ownBlock]using h)
  exact .inr (by simpa[Value.ownBlock]using h)
theorem qdk {d:Array Oper} {o:Oper} {a:Act} {K:Act->World->Prop} {Q:Exit->Act->World->Prop} {E:Prop} (w:World) (e:o.guard=none) (s x:Operand) (f:o.op=.call {callee:=.builtin .append,args:=#[s,x],argTypes:=#[72,72]})
 {cap:Nat} (i:a.eval s=.slice (PT g) n cap) (j:w.ownsRow 0 108 15 (.slice (PT g) n cap) n xs) {sa:Option Addr} (k:a.eval x=.slice sa l.length c) (m:qhz w sa c l) (p:n+l.length<=2000)
 (h:∀g' b w',w'.ownsRow 0 108 15 (.slice (PT g') (n+l.length) b) (n+l.length) (xs++qcm l)->w.grownBy w' (some g)->(g'=g\/g'=w.heap.size)->g'<w'.heap.size->K (a.put o.dst (.slice (PT g') (n+l.length) b)) w'):
 if Region.wanted o (yielded d a.tmps)=true then Oper.wp Tryz.prog o a w K Q else E:=by
 have q:Region.wanted o (yielded d a.tmps)=true:=by simp[Region.wanted,e]
 rw[if_pos q];obtain⟨g',b,w',r,t,u,v,y⟩:=qpb w o.type j m p;unfold Oper.wp execOp;simp only[f,resolve,invoke,builtin,Sem.run_bind,Sem.run_pure,Result.andThen_ok,List.map_toArray,List.map_cons,List.map_nil,i,k,r];exact h g' b w' t u v y
theorem qop (w:World) (T:TypeId) (b:w.heap.size=n):(w.alloc (.cells #[] T)).ownsRow 0 T 15 (.slice (PT n) 0 0) 0 []:=by
 subst b;exact⟨rfl,.inr ⟨w.heap.size,0,#[],rfl,jcw _,heap_alloc_new w (.cells #[] T),jcd _,by decide,rfl,rfl⟩⟩
theorem qhz.take {d:Nat} (h:qhz w (some (AD wb d)) c l) (k:Nat) (s:k<=l.length):qhz w (some (AD wb d)) c (l.take k):=by
 refine⟨by rw[jc5];have:=h.len;omega,h.cap,?_⟩;rcases h.held with f|⟨j,o,e,p⟩
 ·exact .inl (by rw[f];simp)
 refine .inr ⟨j,o,e,λi m r u b q=>p i m r u ?_ q⟩;rw[List.getElem?_take]at b;split at b
 ·exact b
 cases b
theorem qhz.drop {b:Nat} (h:qhz w (some (AD wb b)) c l) (k:Nat) (p:k<=l.length):qhz w (some (AD wb (b+k*15))) (c-k) (l.drop k):=by
 refine⟨by rw[jdt];have:=h.len;omega,by have:=h.cap;omega,?_⟩;rcases h.held with f|⟨q,s,e,j⟩
 ·exact .inl (by rw[f];simp)
 injection e with e;injection e with e1 e2;subst e1 e2;refine .inr ⟨_,_,rfl,λi m r u d o=>?_⟩;rw[List.getElem?_drop]at d;have:=j (k+i) m r u d o;rw[show b+k*15+(i*15+r)=b+((k+i)*15+r) by omega];exact this
theorem qwo (l b:List GrR):qcm (l++b)=qcm l++qcm b:=by simp[qcm]
end
section
def qgi (b:Nat):World->Nat->List Value->World
 |W,_,[]=>W
 |W,j,v::l=>qgi b (W.setCell (AD b j) v) (j+1) l
theorem qnb {b:Nat}:∀(l a rest:List Value) (W:World),qd W b (a++rest)->rest.length=l.length->qd (qgi b W a.length l) b (a++l)
 |[],a,rest,W,h,hl=>by
  have:rest=[]:=jc2 hl;subst this;exact h
 |v::l,a,[],W,h,hl=>by simp at hl
 |v::l,a,r::rest,W,h,hl=>by
  have c:=h.set a.length v (by simp)
  have e:(a++r::rest).set a.length v=a++v::rest:=by simp
  rw[e]at c;have:=qnb l (a++[v]) rest (W.setCell (AD b a.length) v) (by simpa using c) (by simpa using hl);simpa[qgi]using this
variable {b:Nat} {W:World}
theorem qyw {xs l:List Value} (h:qd W b xs) (a:xs.length=l.length):qd (qgi b W 0 l) b l:=qnb l [] xs W h a
theorem qf4 {k:Nat} (a:k≠b):∀(l:List Value) (j:Nat) (W:World),(qgi b W j l).heap[k]?=W.heap[k]?
 |[],_,_=>rfl
 |_::l,j,_=>(qf4 a l (j+1) _).trans (jce _ _ _ _ a)
theorem qjm {b:Nat}:∀(l:List Value) (j:Nat) (W:World),(qgi b W j l).os=W.os/\(qgi b W j l).tape=W.tape/\(qgi b W j l).output=W.output/\(qgi b W j l).heap.size=W.heap.size
 |[],_,_=>⟨rfl,rfl,rfl,rfl⟩
 |v::l,j,W=>by
  have h:=qjm (b:=b) l (j+1) (W.setCell (AD b j) v);exact⟨h.1,h.2.1,h.2.2.1,h.2.2.2.trans (by simp[World.setCell])⟩
theorem ql1 {F:Nat->Prop} {w:World} (h:qc F w W) (d:w.heap.size<=b) (l:List Value):qc F w (qgi b W 0 l):=by
 have s:=qjm (b:=b) l 0 W;exact⟨s.1.trans h.os,s.2.1.trans h.tape,s.2.2.1.trans h.output,by rw[s.2.2.2];exact h.size,λk a c=>(qf4 (by omega) l 0 W).trans (h.block k a c)⟩
section
variable {w W9:World} {b:Nat} {M:RoM} {W:WoS} {Gs:Nat->Nat->Prop}
theorem RWo.outed (h:RWo w b M W Gs) {a:Value} {i:Nat} (c:qc (λk=>k=b) w W9) (d:qd W9 b [M.sv,M.wv,M.cv,M.av,a,U W.lost]) (own:W9.ownsRow 0 108 15 a (M.l.eraseIdx i).length (qcm (M.l.eraseIdx i))) (f:∀k,a.ownBlock=some k->w.heap.size<=k):
 RWo W9 b {M with yv:=a,l:=M.l.eraseIdx i} (qai W i) Gs:=
 h.reway (λk g j _=>c.block k g j) c.size d own (λk e=>.inr (f k e)) (by rw[<-h.nl,jdf,jdf,jdb,List.map_take,List.map_drop]) (λx m=>.inl (jdn m))
end
end
theorem qfg {w w':World} {p:Addr} (a:Bw w w') (h:w.frozen? p=false) (b:p.block<w.heap.size):w'.frozen? p=false:=by rw[a.frozen b];exact h
def jaj (w:World) (b:Nat) (l:List GrR) (w':World):Prop:=∃g c w7,w'=w7.setCell (AD b 4) (.slice (PT g) l.length c)/\Bw w w7/\w.heap.size<=g/\w7.ownsRow 0 108 15 (.slice (PT g) l.length c) l.length (qcm l)
noncomputable def jbr:Code:=((Tryz.f38.body.bind (qa0 2)).getD .skip)
theorem q3o {b i p q r:Nat} {l:List GrR} {M N O P Q S T V W X Y y13 y14 y15 y16 y17 y18 y19 y20 y21 y22 y23 y24 y25 y26 y27 y28 y29 y30 y31 Z:Value} (a:World) (t:a.cell? (AD b 4)=some (.slice (some (AD p q)) l.length r)) (w:a.frozen? (AD b 4)=false) (x:qhz a (some (AD p q)) r l) (hil:i<l.length) (hl:l.length<=300) (R:Act->World->Prop)
 (hR:∀(u13 u14 u15 u16 u17 u18 u19 u20 u21 u22 u23 u24 u25 u26 u27 u28 u29 u30 u31:Value) (w8:World),jaj a b (l.eraseIdx i) w8->R ⟨List.toArray ((PP b)::(U i)::M::N::O::P::Q::S::T::V::W::X::Y::u13::u14::u15::u16::u17::u18::u19::u20::u21::u22::u23::u24::u25::u26::u27::u28::u29::u30::u31::Z::[]),[]⟩ w8):
 Code.wp Tryz.prog jbr (Exit.then R (λ_ _ _=>False)) ⟨List.toArray ((PP b)::(U i)::M::N::O::P::Q::S::T::V::W::X::Y::y13::y14::y15::y16::y17::y18::y19::y20::y21::y22::y23::y24::y25::y26::y27::y28::y29::y30::y31::Z::[]),[]⟩ a:=by
 have HR:Hid _:=hR;clear hR;have z:=hd1 x;have y:b<a.heap.size:=jcr _ _ t;have hrl:=x.len;have hrc:=x.cap;have u:=hd1 hl
 have q1:(i:Int)<(l.length:Int):=by omega
 have j2:(i:Int)<=(l.length:Int):=by omega
 have j4:((i:Int)+1)<=(l.length:Int):=by omega
 have j5:(0:Int)<=(i:Int)+1:=by omega
 have j6:((i:Int)+1).toNat=i+1:=by omega
 have j7:(i:Int)<=(r:Int):=by omega
 have j8:(0:Int)<=(i:Int):=by omega
 have hwz:IntKind.i64.wrap ((i:Int)+1)=(i:Int)+1:=by have:=u.out;unfold IntKind.wrap;simp[IntKind.signed,IntKind.bits];omega
 have B:=hd1 hil
 have FIN:Hid (∀f s k m,m=0+(l.take i).length+(l.drop (i+1)).length->Bw a k->a.heap.size<=f->k.ownsRow 0 108 15 (.slice (PT f) (0+(l.take i).length+(l.drop (i+1)).length) s) (0+(l.take i).length+(l.drop (i+1)).length) ([]++qcm (l.take i)++qcm (l.drop (i+1)))->jaj a b (l.eraseIdx i) (k.setCell (AD b 4) (.slice (PT f) m s))):=λf s k m hm h hg ho=>by
  have hN:0+(l.take i).length+(l.drop (i+1)).length=(l.eraseIdx i).length:=by rw[jdf];simp<;>omega
  rw[hN]at hm ho;subst hm;refine⟨f,s,k,rfl,h,hg,?_⟩
  have e:qcm (l.eraseIdx i)=[]++qcm (l.take i)++qcm (l.drop (i+1)):=by rw[jdf,qwo];rfl
  rw[e];exact ho
 clear x hl
 conv=>arg 2;whnf
 by_cases hvz:r=i+1
 ·subst hvz
  have j9:(i:Int)<=(i:Int)+1:=by omega
  go_region_law (first
   |(refine qdk _ rfl (.tmp 14) (.tmp 20) rfl (g:=a.heap.size) (n:=0) (cap:=0) (xs:=[]) (by simp[Act.eval,Act.put]) (qop a 108 rfl) (sa:=some (AD p q)) (c:=i+1) (l:=l.take i) (by simp[Act.eval,Act.put]<;>omega) ((z.out.take i (by have:=B.out;omega)).later (by repeat (first|(with_reducible assumption)|(with_reducible exact jcc _ _)|(with_reducible refine boxed ?_ _)|(with_reducible refine jc6 ?_)))) (by have:=u.out;simp;omega) ?_
     intro C c1_ D E F G H;have v:=hd2 (show a.heap.size<=C from by simp at G;omega) H;have d:Bw a D:=jd0 (by repeat (first|(with_reducible assumption)|(with_reducible exact jcc _ _)|(with_reducible refine boxed ?_ _)|(with_reducible refine jc6 ?_))) F (by simp<;>omega) (λj o=>by simp at o;omega);have c46:=cell_later d t
     have f46:=qfg d w y)
   |(refine qdk _ rfl (.tmp 21) (.tmp 28) rfl (by simp[Act.eval,Act.put]) E (sa:=some (AD p q)) (c:=0) (l:=l.drop (i+1)) (by simp[Act.eval,Act.put]<;>omega) (⟨by simp;omega,by omega,.inl (jdw (by omega))⟩) (by have:=u.out;simp;omega) ?_
     intro f s k I J eg7 K;have h:=jd0 d J d.size (λj o=>by have:=v.out;simp at o;omega);have L:=hd2 (show a.heap.size<=f from by have:=v.out;have:=d.size;omega) K;have c47:=cell_later h t
     have f47:=qfg h w y))
  all_goals
   go_simp
   refine HR.out _ _ _ _ _ _ _ _ _ _ _ _ _ _ _ _ _ _ _ _ ?_;exact FIN.out _ _ _ _ (by simp<;>omega) h L.out.1 I
 skip
 go_region_law (first
  |(refine qdk _ rfl (.tmp 14) (.tmp 20) rfl (g:=a.heap.size) (n:=0) (cap:=0) (xs:=[]) (by simp[Act.eval,Act.put]) (qop a 108 rfl) (sa:=some (AD p q)) (c:=r) (l:=l.take i) (by simp[Act.eval,Act.put]<;>omega) ((z.out.take i (by have:=B.out;omega)).later (by repeat (first|(with_reducible assumption)|(with_reducible exact jcc _ _)|(with_reducible refine boxed ?_ _)|(with_reducible refine jc6 ?_)))) (by have:=u.out;simp;omega) ?_
    intro C c1_ D E F G H;have v:=hd2 (show a.heap.size<=C from by simp at G;omega) H;have d:Bw a D:=jd0 (by repeat (first|(with_reducible assumption)|(with_reducible exact jcc _ _)|(with_reducible refine boxed ?_ _)|(with_reducible refine jc6 ?_))) F (by simp<;>omega) (λj o=>by simp at o;omega);have c46:=cell_later d t
    have f46:=qfg d w y)
  |(refine qdk _ rfl (.tmp 21) (.tmp 28) rfl (by simp[Act.eval,Act.put]) E (sa:=some (AD p (q+(i+1)*15))) (c:=r-(i+1)) (l:=l.drop (i+1)) (by simp[Act.eval,Act.put]<;>omega) ((z.out.drop (i+1) (by have:=B.out;omega)).later d) (by have:=u.out;simp;omega) ?_
    intro f s k I J eg7 K;have h:=jd0 d J d.size (λj o=>by have:=v.out;simp at o;omega);have L:=hd2 (show a.heap.size<=f from by have:=v.out;have:=d.size;omega) K;have c47:=cell_later h t
    have f47:=qfg h w y))
 all_goals
  go_simp
  refine HR.out _ _ _ _ _ _ _ _ _ _ _ _ _ _ _ _ _ _ _ _ ?_;exact FIN.out _ _ _ _ (by simp<;>omega) h L.out.1 I
section
variable {y0 y1 y2 y3 y4 y5 y6 y7 y8 z0 z1 z2 z3 z4:Int} {a:Option Addr} {n c:Nat}
theorem qus {tmps:Array Value} {w:World} {g:Nat} (h:qd w g [U y0,U y1,U y2,U y3,U y4,U y5,U y6,U y7,U y8,.slice a n c,U z0,U z1,U z2,U z3,U z4]) (b:tmps[4]?=some (PP g)):(results Tryz.f38 tmps).run Tryz.prog w=.ok (.agg #[U y0,U y1,U y2,U y3,U y4,U y5,U y6,U y7,U y8,.slice a n c,U z0,U z1,U z2,U z3,U z4]) w:=by
 obtain⟨d,e,f,i,j,k,l,m,o,p,q,r,s,t,u⟩:=h.c15;simp[results,Tryz.results38,go_sem,b,d,e,f,i,j,k,l,m,o,p,q,r,s,t,u]
theorem q95 {b:Nat} {M:RoM} {W:WoS} {S:Nat->Nat->Prop} (w:World) (h:RWo w b M W S) (hn:W.net.length<=300) {i:Nat} {x:GrR} (D:M.l[i]?=some x) (hc:qbj x=[U y0,U y1,U y2,U y3,U y4,U y5,U y6,U y7,U y8,.slice a n c,U z0,U z1,U z2,U z3,U z4]):
 Ca 38 #[PP b,U i] w λe w'=>e=.returned (.agg #[U y0,U y1,U y2,U y3,U y4,U y5,U y6,U y7,U y8,.slice a n c,U z0,U z1,U z2,U z3,U z4])/\∃V,RWo w' b {M with yv:=V,l:=M.l.eraseIdx i} (qai W i) S/\(∀k,V.ownBlock=some k->w.heap.size<=k)/\qc (λk=>k=b) w w':=by
 have hlen:M.l.length=W.net.length:=by rw[<-h.nl];simp
 have G:=(jck.1 D).1;obtain⟨na,vc,X,r⟩:=q1n h.yr
 obtain⟨H,B,rfl,Y⟩:∃g B,na=some (AD g B)/\∀i m r u,M.l[i]?=some m->(qbj m)[r]?=some u->w.cell? (AD g (B+(i*15+r)))=some u:=by
  rcases r.held with I|I
  ·rw[I]at G;simp at G
  exact I
 have J:=h.box.c 4;have Z:=h.box.f 4;rw[X]at J;have j:=λr u (hu:[U y0,U y1,U y2,U y3,U y4,U y5,U y6,U y7,U y8,.slice a n c,U z0,U z1,U z2,U z3,U z4][r]?=some u)=>(show w.cell? (AD H (B+i*15+r))=some u by rw[Nat.add_assoc];exact Y i x r u D (by rw[hc];exact hu));have x0:w.cell? (AD H (B+i*15))=some (U y0):=j 0 _ rfl;have x1:=j 1 _ rfl;have x2:=j 2 _ rfl;have x3:=j 3 _ rfl;have x4:=j 4 _ rfl;have x5:=j 5 _ rfl;have x6:=j 6 _ rfl;have x7:=j 7 _ rfl;have x8:=j 8 _ rfl;have x9:=j 9 _ rfl;have x10:=j 10 _ rfl;have x11:=j 11 _ rfl;have x12:=j 12 _ rfl;have x13:=j 13 _ rfl;have x14:=j 14 _ rfl;have hlt:=h.box.lt;have hblt:H<w.heap.size:=jcr _ _ x0
 have q1:(i:Int)<(M.l.length:Int):=by omega
 have C:=hd4 h D r (show M.l.length<=300 from by omega);have hrl:=r.len;have hrc:=r.cap;clear h D r Y j hlen X hn;go_enter Tryz.func38,Tryz.ntmps38
 go_wp2_with fail
 obtain⟨s,y⟩:∃s,((w.alloc (.cells #[U 0,U 0,U 0,U 0,U 0,U 0,U 0,U 0,U 0,.slice none 0 0,U 0,U 0,U 0,U 0,U 0] 108)).alloc (.cells #[U y0,U y1,U y2,U y3,U y4,U y5,U y6,U y7,U y8,.slice a n c,U z0,U z1,U z2,U z3,U z4] 108))=s:=⟨_,rfl⟩
 have E:Bw w s:=by rw[<-y];exact boxed (boxed (jcc _ w) _) _
 have RZ:qd s w.heap.size [U 0,U 0,U 0,U 0,U 0,U 0,U 0,U 0,U 0,.slice none 0 0,U 0,U 0,U 0,U 0,U 0]:=by rw[<-y];exact(qd.new (w:=w) (T:=108) [U 0,U 0,U 0,U 0,U 0,U 0,U 0,U 0,U 0,.slice none 0 0,U 0,U 0,U 0,U 0,U 0] rfl).later (boxed (jcc _ _) _)
 have RG:qd s (w.heap.size+1) [U y0,U y1,U y2,U y3,U y4,U y5,U y6,U y7,U y8,.slice a n c,U z0,U z1,U z2,U z3,U z4]:=by
  rw[<-y];have:=qd.new (w:=w.alloc (.cells #[U 0,U 0,U 0,U 0,U 0,U 0,U 0,U 0,U 0,.slice none 0 0,U 0,U 0,U 0,U 0,U 0] 108)) (T:=108) [U y0,U y1,U y2,U y3,U y4,U y5,U y6,U y7,U y8,.slice a n c,U z0,U z1,U z2,U z3,U z4] rfl;simpa using this
 have aa:s.heap.size=w.heap.size+2:=by rw[<-y];simp
 have HV5:=hd1 (C.out.2.2.1.later E);have c45:=cell_later E J;have f45:=qfg E Z hlt
 have l5:b<s.heap.size:=by omega
 have SZ5:=hd1 aa;rw[y];clear aa y x0 x1 x2 x3 x4 x5 x6 x7 x8 x9 x10 x11 x12 x13 x14 J Z;refine qma (q3o s c45 f45 HV5.out G C.out.2.2.2 _ ?_);rintro u13 u14 u15 u16 u17 u18 u19 u20 u21 u22 u23 u24 u25 u26 u27 u28 u29 u30 u31 w8 ⟨p,K,w7,ab,F,ac,L⟩;have ad:=hd2 ac ((L.lt p rfl).2);have N:=qa E F;obtain⟨t,O⟩:∃t,w8=t:=⟨_,rfl⟩
 have z:w7.setCell (AD b 4) (.slice (PT p) (M.l.eraseIdx i).length K)=t:=by rw[<-O,ab]
 have B8:qd t b [M.sv,M.wv,M.cv,M.av,.slice (PT p) (M.l.eraseIdx i).length K,U W.lost]:=by rw[<-z];exact(C.out.1.box.later N).set 4 _ (by simp)
 have own9:t.ownsRow 0 108 15 (.slice (PT p) (M.l.eraseIdx i).length K) (M.l.eraseIdx i).length (qcm (M.l.eraseIdx i)):=by
  rw[<-z];exact qf L (λk e=>jce _ _ _ _ (λq=>by have P:p=k:=jcu e;have:=ad.out;simp only at q;omega))
 have o:qd t (w.heap.size+1) [U y0,U y1,U y2,U y3,U y4,U y5,U y6,U y7,U y8,.slice a n c,U z0,U z1,U z2,U z3,U z4]:=by rw[<-z];exact(RG.later F).far _ _ (by simp only;omega)
 have d:qd t w.heap.size [U 0,U 0,U 0,U 0,U 0,U 0,U 0,U 0,U 0,.slice none 0 0,U 0,U 0,U 0,U 0,U 0]:=by rw[<-z];exact(RZ.later F).far _ _ (by simp only;omega)
 have T8:qc (λk=>k=b) w t:=by rw[<-z];exact(qc.ofBelow N).trans (qc.setCell _ _ _ rfl)
 have v:=hd5 B8 own9 d T8 (show w.heap.size+2<=p from by have:=ad.out;have:=SZ5.out;omega);have g0_:=o.c 0;have p0_:=d.f 0;have s0_:=d.c 0;have g1_:=o.c 1;have p1_:=d.f 1;have s1_:=d.c 1;have g2_:=o.c 2;have p2_:=d.f 2;have s2_:=d.c 2;have g3_:=o.c 3;have p3_:=d.f 3;have s3_:=d.c 3;have g4_:=o.c 4;have p4_:=d.f 4;have s4_:=d.c 4;have g5_:=o.c 5;have p5_:=d.f 5;have s5_:=d.c 5;have g6_:=o.c 6;have p6_:=d.f 6;have s6_:=d.c 6;have g7_:=o.c 7;have p7_:=d.f 7;have s7_:=d.c 7;have g8_:=o.c 8;have p8_:=d.f 8;have s8_:=d.c 8;have g9_:=o.c 9;have p9_:=d.f 9;have s9_:=d.c 9;have g10_:=o.c 10;have p10_:=d.f 10;have s10_:=d.c 10;have g11_:=o.c 11;have p11_:=d.f 11;have s11_:=d.c 11;have g12_:=o.c 12;have p12_:=d.f 12;have s12_:=d.c 12;have g13_:=o.c 13;have p13_:=d.f 13;have s13_:=d.c 13;have g14_:=o.c 14;have p14_:=d.f 14;have s14_:=d.c 14;rw[O];clear O z ab L B8 own9 o d T8 N F ac;have hbl:=C.out.1.box.lt;have Q:=And.intro (qyw (l:=[U y0,U y1,U y2,U y3,U y4,U y5,U y6,U y7,U y8,.slice a n c,U z0,U z1,U z2,U z3,U z4]) v.out.2.2.1 rfl) (And.intro (C.out.1.outed (i:=i) (ql1 v.out.2.2.2.1 (jcd _) [U y0,U y1,U y2,U y3,U y4,U y5,U y6,U y7,U y8,.slice a n c,U z0,U z1,U z2,U z3,U z4]) (v.out.1.kept (qf4 (by omega) _ _ _) (by rw[(qjm _ _ _).2.2.2];exact jcd _)) (qf v.out.2.1 (λk e=>qf4 (by have P:p=k:=jcu e;have:=v.out.2.2.2.2;omega) _ _ _)) (λk e=>by have P:p=k:=jcu e;have:=v.out.2.2.2.2;omega)) (ql1 v.out.2.2.2.1 (jcd _) [U y0,U y1,U y2,U y3,U y4,U y5,U y6,U y7,U y8,.slice a n c,U z0,U z1,U z2,U z3,U z4]));simp only[qgi]at Q;have R:Hid _:=Q;clear Q hbl
 go_wp2_with fail
 (try simp only[Exit.inBlock,Exit.then])
 refine bodyPost_ret (qus R.out.1 rfl) rfl ⟨rfl,_,R.out.2.1,λk e=>?_,R.out.2.2⟩;have P:p=k:=jcu e;have:=v.out.2.2.2.2;omega
end
theorem qfc {b c wall d e f g i:Int} {a:Option Addr} {cap:Nat} {l:List Wr} {w:World} {v:Bool} (j:qr w a cap l) (h:jt b c wall d e f g i l=v):
 Ca 128 #[.agg (List.toArray (T9 b c wall d e f g i a l.length cap))] w (Rn (.bool v) w):=by
 subst h;exact qpf b c wall d e f g i a cap l w j
theorem qxa {b:Nat} {G:Nat->Prop} {F:Nat->Option Obj} {S:qe} (m:TxM) (w:World) (h:RS w b G F S) (hI:j3 S) (hn:S.waits.length<=900) (hW:qr w m.wa m.wc m.t.ws) (hnz:jf S m.t≠0):
 Ca 84 #[PP b,txV m] w λe w'=>e=.returned (U (jf S m.t))/\∃S',zu S m.t S'/\RPo w b G F S' w':=by
 obtain⟨⟨d,f,wall,p,g,l,n,o,ws⟩,a,cap⟩:=m;simp only at hW hnz ⊢;have HNZ:=hd1 hnz;clear hnz;have hb:=boxed (jcc _ w) (.cells (List.toArray (T9 d f wall p g l n o a ws.length cap)) 102);have L:=qd.new (w:=w) (T:=102) (T9 d f wall p g l n o a ws.length cap) rfl;change qd (w.nu (List.toArray (T9 d f wall p g l n o a ws.length cap)) 102) w.heap.size (T9 d f wall p g l n o a ws.length cap)at L;have hne:=qb.one;have P1:=h.later hb;have W1:=hW.later hb
 have NO:∀q ev,jf S ⟨d,f,wall,p,g,l,n,o,ws⟩=ev->ev≠0->Bw w q->Hid ((.returned (U ev):Ending)=.returned (U (jf S ⟨d,f,wall,p,g,l,n,o,ws⟩))/\∃S',zu S ⟨d,f,wall,p,g,l,n,o,ws⟩ S'/\RPo w b G F S' q):=λq ev e1 e2 e3=>by
  show _/\_;rw[e1];exact⟨rfl,S,.inl ⟨by rw[e1];exact e2,rfl⟩,RPo.same h e3⟩
 clear h hW;show Ca 84 #[PP b,.agg (List.toArray (T9 d f wall p g l n o a ws.length cap))] w _;obtain⟨lv,wv,sv,log,waits,PM,hl,hw,hG,hF⟩:=id P1;obtain⟨la,lc,rfl,hLT⟩:=yx PM.rlog;obtain⟨va,vc,rfl,hVT⟩:=yx PM.rwait;have k0:=qb.cell (PM.box.c 0);have X:=qb.cell (L.c 0);have Y:=qb.cell (L.c 1);have t2:=qb.cell (L.c 2);have t3:=qb.cell (L.c 3);have t4:=qb.cell (L.c 4);have t5:=qb.cell (L.c 5);have t6:=qb.cell (L.c 6);have t7:=qb.cell (L.c 7);have t8:=qb.cell (L.c 8);cases hok:okT ⟨d,f,wall,p,g,l,n,o,ws⟩
 ·have HK:Hid (jt d f wall p g l n o ws=false):=hok
  have E:jf S ⟨d,f,wall,p,g,l,n,o,ws⟩=1:=by unfold jf;rw[if_pos hok]
  have v:=λq s=>NO q 1 E (by decide) s;clear E NO hok PM hl hw hG P1 hI;go_enter Tryz.func84,Tryz.ntmps84
  go_wp2_with fail
  refine wrl ?_
  repeat (go_big_quiet_step (first|rfl|(go_at_call 128;with_reducible exact qg (qfc (W1.later (qb.below _)) HK.out))))
  refine wpQuiet_nil ?_;rintro w2 ⟨⟨_,V⟩,rfl⟩
  go_wp2_with fail
  go_ret;exact(v _ (qa hb V)).out
 have HK:Hid (jt d f wall p g l n o ws=true):=hok;obtain⟨⟨s0,s3⟩,⟨sq1,sq2⟩,sw⟩:=qcg hok;simp only at s0 s3 sq1 sq2 sw;have HOK:=hd1 hok;clear hok;by_cases Z:d=S.id
 ·have E:jf S ⟨d,f,wall,p,g,l,n,o,ws⟩=1:=by unfold jf;rw[if_neg (by rw[HOK.out];decide),if_pos Z]
  have v:=λq s=>NO q 1 E (by decide) s
  have i1:(d==S.id)=true:=by simp[Z]
  have i2:decide (d=S.id)=true:=by simp[Z]
  clear E NO PM hl hw hG P1 hI Z;go_enter Tryz.func84,Tryz.ntmps84
  go_wp2_with fail
  refine wrl ?_
  repeat (go_big_quiet_step (first|rfl|(go_at_call 128;with_reducible exact qg (qfc (W1.later (qb.below _)) HK.out))))
  refine wpQuiet_nil ?_;rintro w2 ⟨⟨_,V⟩,rfl⟩
  go_wp2_with fail
  go_ret;exact(v _ (qa hb V)).out
 have i1:(d==S.id)=false:=by simp[Z]
 have i2:decide (d=S.id)=false:=by simp[Z]
 have HID:=hd1 Z;have HPM:=hd4 PM hl hw hG;have HI:=hd1 hI;have I:=hd1 NO;have HVT:=hd2 hVT hLT;have hvl:=hVT.len;have hvc:=hVT.cap;have hll:=hLT.len;have hlc:=hLT.cap;clear NO PM hl hw hG P1 hI Z hVT hLT;go_enter Tryz.func84,Tryz.ntmps84
 go_wp2_with fail
 refine wrl ?_
 repeat (go_big_quiet_step (first|rfl|(go_at_call 128;with_reducible exact qg (qfc (W1.later (qb.below _)) HK.out))))
 refine wpQuiet_nil ?_;rintro w2 ⟨⟨_,V⟩,rfl⟩;clear X Y t2 t3 t4 t5 t6 t7 t8 k0;have PM2:=hd1 (HPM.out.1.later V);have RB2:=L.later V;have hbw:=qa hb V;have HB2:Hid (Below (w.nu (List.toArray (T9 d f wall p g l n o a ws.length cap)) 102).heap.size (w.nu (List.toArray (T9 d f wall p g l n o a ws.length cap)) 102) w2):=V;clear L hb V;have X:=qb.cell (RB2.c 0);have Y:=qb.cell (RB2.c 1);have ks:=qb.cell (qkc PM2.out.box s0 s3)
 have s4:d<4:=by omega
 obtain⟨D,hD⟩:∃D,qp d S.a0 S.a1 S.a2 S.a3=D:=⟨_,rfl⟩;have HD:=hd1 hD;rw[hD]at ks;clear hD;by_cases hle:f<=D
 ·have E:jf S ⟨d,f,wall,p,g,l,n,o,ws⟩=9:=by unfold jf;rw[if_neg (by rw[HOK.out];decide),if_neg HID.out,if_pos (by rw[HD.out];exact hle)]
  have v:=λq s=>I.out q 9 E (by decide) s;clear E I HPM HI
  go_wp2_with fail
  refine wrl ?_
  repeat (go_big_quiet_step (first|rfl|fail))
  refine wpQuiet_nil ?_;rintro w3 ⟨⟨_,hb3⟩,rfl⟩
  go_wp2_with fail
  go_ret;exact(v _ (qa hbw hb3)).out
 have HLE:Hid (D<f):=by show _<_;omega
 have q1:=decide_eq_false hle;clear hle
 go_wp2_with fail
 refine wrl ?_
 repeat (go_big_quiet_step (first|rfl|fail))
 refine wpQuiet_nil ?_;rintro w3 ⟨⟨_,hb3⟩,rfl⟩;have PM3:=hd1 (PM2.out.later hb3);have RB3:=hd1 (RB2.later hb3);have hbw3:=qa hbw hb3;have HB3:=hd1 (qa HB2.out hb3);clear RB2 hbw hb3 X Y ks PM2 HB2;have s8:=PM3.out.box.c 8
 go_wp2_with fail
 go_loopw [39] (λiv wr=>∃(k:Nat) (z:Int),k<=waits.length/\z=k/\iv=U z/\Hid (∀j x,j<k->waits[j]?=some x->vv x.t ⟨d,f,wall,p,g,l,n,o,ws⟩=false)/\Bw w3 wr) (λi _=>waits.length-(intOf i).toNat)
 case atStart=>exact⟨0,0,by omega,rfl,rfl,(λj x hj=>by omega),jcc _ _⟩
 obtain⟨k,z,hk,hz,rfl,HNM,P⟩:=hrel;have HZ:=hd1 hz;by_cases hlt:k<waits.length
 ·have g1:z<(waits.length:Int):=by omega
  have g2:z.toNat=k:=by omega
  have g3:0<=z:=by omega
  clear hz
  obtain⟨wb,off,hwa,hcc⟩:∃wb off,va=some (AD wb off)/\∀i m r u,waits[i]?=some m->(txC m)[r]?=some u->(w.nu (List.toArray (T9 d f wall p g l n o a ws.length cap)) 102).cell? (AD wb (off+(i*9+r)))=some u:=by
   rcases HVT.out.1.held with e|e
   ·rw[e]at hlt;simp at hlt
   exact e
  obtain⟨⟨⟨xs,xq,xw,xc,y0,y1,y2,y3,yw⟩,ya,yc⟩,B⟩:∃m,waits[k]?=some m:=⟨waits[k],jcg hlt⟩;have HX:=hd1 B;have Q:=λr u (hu:(txC ⟨⟨xs,xq,xw,xc,y0,y1,y2,y3,yw⟩,ya,yc⟩)[r]?=some u)=>(show wr.cell? (AD wb (off+k*9+r))=some u by rw[Nat.add_assoc];exact cell_later (qa HB3.out P) (hcc k _ r u B hu));have x0:=Q 0 _ rfl;have x1:=Q 1 _ rfl;have x2:=Q 2 _ rfl;have x3:=Q 3 _ rfl;have x4:=Q 4 _ rfl;have x5:=Q 5 _ rfl;have x6:=Q 6 _ rfl;have x7:=Q 7 _ rfl;have x8:=Q 8 _ rfl;rw[Nat.add_zero]at x0;have C:=RB3.out.later P;have X:=C.c 0;have Y:=C.c 1;have lt0:=C.lt;rw[hwa];clear Q hcc B C;by_cases hs:xs=d
  ·by_cases J:xq=f
   ·have e1:(xs==d)=true:=by simp[hs]
    have e2:(xq==f)=true:=by simp[J]
    have E:jf S ⟨d,f,wall,p,g,l,n,o,ws⟩=9:=by
     unfold jf;rw[if_neg (by rw[HOK.out];decide),if_neg HID.out,if_neg (by rw[HD.out];have:=HLE.out;simp only;omega),if_pos];rw[<-HPM.out.2.2.1];exact List.any_eq_true.2 ⟨_,jcz.2 ⟨_,jcq HX.out,rfl⟩,qe5.2 ⟨hs,J⟩⟩
    have v:=λq s=>I.out q 9 E (by decide) s;have s:=qa hbw3 P;clear E I HPM HI hs J HX hwa
    go_wp2_with fail
    go_ret;exact(v _ (boxed s _)).out
   have e1:(xs==d)=true:=by simp[hs]
   have e2:(xq==f)=false:=by simp[J]
   have HNQ:Hid (vv ⟨xs,xq,xw,xc,y0,y1,y2,y3,yw⟩ ⟨d,f,wall,p,g,l,n,o,ws⟩=false):=by show _=_;simp[vv,J]
   clear hs J hwa
   go_wp2_with fail
   go_roundw
   case rel=>exact⟨k+1,z+1,by omega,by have:=HZ.out;omega,by go_num,(λj x hj B=>by
        rcases jc7 j k with h1|h1
        ·exact HNM.out j x h1 B
        have:j=k:=by omega
        subst this;rw[HX.out]at B;injection B with B;subst B
        exact HNQ.out),boxed P _⟩
   simp[intOf];have:=HZ.out;omega
  have e1:(xs==d)=false:=by simp[hs]
  have HNQ:Hid (vv ⟨xs,xq,xw,xc,y0,y1,y2,y3,yw⟩ ⟨d,f,wall,p,g,l,n,o,ws⟩=false):=by show _=_;simp[vv,hs]
  clear hs hwa
  go_wp2_with fail
  go_roundw
  case rel=>exact⟨k+1,z+1,by omega,by have:=HZ.out;omega,by go_num,(λj x hj B=>by
   rcases jc7 j k with h1|h1
   ·exact HNM.out j x h1 B
   have:j=k:=by omega
   subst this;rw[HX.out]at B;injection B with B;subst B
   exact HNQ.out),boxed P _⟩
  simp[intOf];have:=HZ.out;omega
 have g1:¬z<(waits.length:Int):=by omega
 have HNA:Hid (∀x∈waits,vv x.t ⟨d,f,wall,p,g,l,n,o,ws⟩=false):=λx B=>by
  obtain⟨j,hj⟩:=List.getElem?_of_mem B;exact HNM.out j x (by have:=(jck.1 hj).1;omega) hj
 clear hz HNM;have M:=hd1 (PM3.out.later P);have C:=hd1 (RB3.out.later P);have hbwr:=qa hbw3 P;have HBr:=hd1 (qa HB3.out P);clear hbw3 P PM3 RB3 HB3 s8 hk;have X:=qb.cell (C.out.c 0);have Y:=qb.cell (C.out.c 1);have t4:=qb.cell (C.out.c 4);have t5:=qb.cell (C.out.c 5);have t6:=qb.cell (C.out.c 6);have t7:=qb.cell (C.out.c 7);have ks:=qb.cell (qkc M.out.box s0 s3);have k1:=qb.cell (M.out.box.c 1);have k2:=qb.cell (M.out.box.c 2);have k3:=qb.cell (M.out.box.c 3);have k4:=qb.cell (M.out.box.c 4);rw[HD.out]at ks;have hdd:=HI.out.dep d;rw[HD.out]at hdd;have hwr:=qd1 hdd
 have hlw:waits.length=S.waits.length:=by rw[<-HPM.out.2.2.1];simp
 have hlg:log.length=S.log.length:=by rw[<-HPM.out.2.1];simp
 have HLN:=hd3 hlw hlg hn
 have HRE:Hid (qz S ⟨d,f,wall,p,g,l,n,o,ws⟩=(decide (f=D+1)&&qa8 S.a0 S.a1 S.a2 S.a3 g l n o)):=by show qz S ⟨d,f,wall,p,g,l,n,o,ws⟩=_;unfold qz;rw[HD.out]
 have HAN:Hid (S.waits.any (λx=>vv x ⟨d,f,wall,p,g,l,n,o,ws⟩)=false):=by
  show _=_;rw[<-HPM.out.2.2.1,List.any_eq_false];intro x B;obtain⟨y,hy,rfl⟩:=jcz.1 B;rw[HNA.out y hy]
  decide
 have R:Hid (jf S ⟨d,f,wall,p,g,l,n,o,ws⟩=if 200<=log.length then 12 else if 40<=waits.length/\qz S ⟨d,f,wall,p,g,l,n,o,ws⟩=false then 12 else 0):=by
  show jf S ⟨d,f,wall,p,g,l,n,o,ws⟩=_;unfold jf;rw[if_neg (by rw[HOK.out];decide),if_neg HID.out,if_neg (by rw[HD.out];have:=HLE.out;simp only;omega),if_neg (by rw[HAN.out];decide),HLN.out.1,HLN.out.2.1]
 clear hn hdd hlw hlg;by_cases J:f=D+1
 have q2:(f==D+1)=true:=by simp[J]
 have HQ:=hd1 J;clear J;cases hc:qa8 S.a0 S.a1 S.a2 S.a3 g l n o;have HC:=hd1 hc
 have HR:Hid (qz S ⟨d,f,wall,p,g,l,n,o,ws⟩=false):=by show _=_;rw[HRE.out,hc];simp
 clear hc
 go_wp2_with fail
 refine wrl ?_
 repeat (go_big_quiet_step (first|rfl|(go_at_call 77;with_reducible exact qg (yo HC.out _))))
 refine wpQuiet_nil ?_;rintro w4 ⟨⟨_,H⟩,rfl⟩;clear HQ HC q2;have PM4:=hd1 (M.out.later H);have RB4:=hd1 (C.out.later H);have hbw4:=qa hbwr H;have HB4:=hd1 (qa HBr.out H);clear hbwr H M C HBr X Y t4 t5 t6 t7 ks k1 k2 k3 k4;have s7:=PM4.out.box.c 7;have s8:=PM4.out.box.c 8;by_cases N:200<=log.length
 ·have E:jf S ⟨d,f,wall,p,g,l,n,o,ws⟩=12:=by rw[R.out,if_pos N]
  have v:=λq s=>I.out q 12 E (by decide) s
  have h2:(200:Int)<=(log.length:Int):=by omega
  clear E I N
  go_wp2_with fail
  go_ret;exact(v _ hbw4).out
 have h2:¬(200:Int)<=(log.length:Int):=by omega
 have W:Hid (log.length<200):=by show _<_;omega
 clear N;by_cases K:40<=waits.length
 ·have g40:(40:Int)<=(waits.length:Int):=by omega
  first
   |(have O:=HR
     have E:jf S ⟨d,f,wall,p,g,l,n,o,ws⟩=12:=by rw[R.out,if_neg (by have:=W.out;omega),if_pos ⟨K,O.out⟩]
     have v:=λq s=>I.out q 12 E (by decide) s;clear E I K
     go_wp2_with fail
     go_ret
     exact(v _ hbw4).out)
   |(have O:Hid (qz S ⟨d,f,wall,p,g,l,n,o,ws⟩=true):=HR
     have EZ:Hid (jf S ⟨d,f,wall,p,g,l,n,o,ws⟩=0):=by show _=_;rw[R.out,if_neg (by have:=W.out;omega),if_neg (λe=>by rw[O.out]at e;cases e.2)]
     clear K
     exact absurd EZ.out HNZ.out)
 rotate_left
 have HC:=hd1 hc
 have HR:Hid (qz S ⟨d,f,wall,p,g,l,n,o,ws⟩=true):=by show _=_;rw[HRE.out,hc,HQ.out];simp
 clear hc
 go_wp2_with fail
 refine wrl ?_
 repeat (go_big_quiet_step (first|rfl|(go_at_call 77;with_reducible exact qg (yo HC.out _))))
 refine wpQuiet_nil ?_;rintro w4 ⟨⟨_,H⟩,rfl⟩;clear HQ HC q2;have PM4:=hd1 (M.out.later H);have RB4:=hd1 (C.out.later H);have hbw4:=qa hbwr H;have HB4:=hd1 (qa HBr.out H);clear hbwr H M C HBr X Y t4 t5 t6 t7 ks k1 k2 k3 k4;have s7:=PM4.out.box.c 7;have s8:=PM4.out.box.c 8;by_cases N:200<=log.length
 ·have E:jf S ⟨d,f,wall,p,g,l,n,o,ws⟩=12:=by rw[R.out,if_pos N]
  have v:=λq s=>I.out q 12 E (by decide) s
  have h2:(200:Int)<=(log.length:Int):=by omega
  clear E I N
  go_wp2_with fail
  go_ret;exact(v _ hbw4).out
 have h2:¬(200:Int)<=(log.length:Int):=by omega
 have W:Hid (log.length<200):=by show _<_;omega
 clear N;by_cases K:40<=waits.length
 ·have g40:(40:Int)<=(waits.length:Int):=by omega
  first
   |(have O:Hid (qz S ⟨d,f,wall,p,g,l,n,o,ws⟩=false):=HR
     have E:jf S ⟨d,f,wall,p,g,l,n,o,ws⟩=12:=by rw[R.out,if_neg (by have:=W.out;omega),if_pos ⟨K,O.out⟩]
     have v:=λq s=>I.out q 12 E (by decide) s;clear E I K
     go_wp2_with fail
     go_ret
     exact(v _ hbw4).out)
   |(have O:=HR
     have EZ:Hid (jf S ⟨d,f,wall,p,g,l,n,o,ws⟩=0):=by show _=_;rw[R.out,if_neg (by have:=W.out;omega),if_neg (λe=>by rw[O.out]at e;cases e.2)]
     clear K
     exact absurd EZ.out HNZ.out)
 rotate_left
 have q2:(f==D+1)=false:=by simp[J]
 have HR:Hid (qz S ⟨d,f,wall,p,g,l,n,o,ws⟩=false):=by show _=_;rw[HRE.out];simp[J]
 clear J
 go_wp2_with fail
 refine wrl ?_
 repeat (go_big_quiet_step (first|rfl|fail))
 refine wpQuiet_nil ?_;rintro w4 ⟨⟨_,H⟩,rfl⟩;clear q2;have PM4:=hd1 (M.out.later H);have RB4:=hd1 (C.out.later H);have hbw4:=qa hbwr H;have HB4:=hd1 (qa HBr.out H);clear hbwr H M C HBr X Y t4 t5 t6 t7 ks k1 k2 k3 k4;have s7:=PM4.out.box.c 7;have s8:=PM4.out.box.c 8;by_cases N:200<=log.length
 ·have E:jf S ⟨d,f,wall,p,g,l,n,o,ws⟩=12:=by rw[R.out,if_pos N]
  have v:=λq s=>I.out q 12 E (by decide) s
  have h2:(200:Int)<=(log.length:Int):=by omega
  clear E I N
  go_wp2_with fail
  go_ret;exact(v _ hbw4).out
 have h2:¬(200:Int)<=(log.length:Int):=by omega
 have W:Hid (log.length<200):=by show _<_;omega
 clear N;by_cases K:40<=waits.length
 ·have g40:(40:Int)<=(waits.length:Int):=by omega
  first
   |(have O:=HR
     have E:jf S ⟨d,f,wall,p,g,l,n,o,ws⟩=12:=by rw[R.out,if_neg (by have:=W.out;omega),if_pos ⟨K,O.out⟩]
     have v:=λq s=>I.out q 12 E (by decide) s;clear E I K
     go_wp2_with fail
     go_ret
     exact(v _ hbw4).out)
   |(have O:Hid (qz S ⟨d,f,wall,p,g,l,n,o,ws⟩=true):=HR
     have EZ:Hid (jf S ⟨d,f,wall,p,g,l,n,o,ws⟩=0):=by show _=_;rw[R.out,if_neg (by have:=W.out;omega),if_neg (λe=>by rw[O.out]at e;cases e.2)]
     clear K
     exact absurd EZ.out HNZ.out)
 all_goals
  have g40:¬(40:Int)<=(waits.length:Int):=by omega
  have EZ:Hid (jf S ⟨d,f,wall,p,g,l,n,o,ws⟩=0):=by show _=_;rw[R.out,if_neg (by have:=W.out;omega),if_neg (λe=>K e.1)]
  clear K;exact absurd EZ.out HNZ.out
noncomputable def q7x:Code:=((Tryz.f84.body.bind (qa0 26)).getD .skip)
theorem qgv {w w':World} {p:Addr} (a:Below w.heap.size w w') (h:w.frozen? p=false) (b:p.block<w.heap.size):w'.frozen? p=false:=by rw[a.frozen b];exact h
theorem qvg {b:Nat} {z:Int} {i:Nat} {m o p:Nat} {waits:List TxM} {N O P Q S T V W X Y Z aa ab ac ad ae af ag ah ai aj ak al am an ao ap aq ar au av aw ax ay az aA aB aC aD aE aF aG aH aI aJ aK aL aM aN aO aP aQ aR aS aT aU aV aW aX aY aZ a0 a1 a2 a3 a4 a5 a6 a7 a8 a9 ba bb bc bd be bf bg bh bi bj bk bl bm bn bo bp bq br bs bt bu bv bw bx bz bA bB bC bD bE bF bG bH bI bJ bK bL bM bN bO bP bQ bR bS bT bU bV bW bX bY bZ b0 b1 b2 b3 b4 b5 b6 b7 b8 b9 ca cb cc cd ce cf cg ch ci cj ck cl cm cn co cp cq cr cs ct cu cv cw cx cy cz cA cB cC cD cE cF cG cH cI cJ cK cL cM cN cO y175 y176 y177 y178 y179 y180 y181 y182 y183 y184 y185 y186 y187 y188 y189 y190 y191 y192 y193 cP cQ cR:Value} (a:World) (r:Hid (qdy a (some ⟨m,o,none⟩) p waits)) (s:Hid (waits.length<=1000)) (q:Hid (z=i/\i<waits.length))
 (t:a.cell? ⟨b,8,none⟩=some (.slice (some ⟨m,o,none⟩) waits.length p)) (D:a.frozen? ⟨b,8,none⟩=false) (R:Act->World->Prop)
 (hR:∀(u175 u176 u177 u178 u179 u180 u181 u182 u183 u184 u185 u186 u187 u188 u189 u190 u191 u192 u193:Value) (d:World) (e c2 E:Nat),Below a.heap.size a d->a.heap.size<=e->e<d.heap.size->E=(waits.take i++waits.drop (i+1)).length->d.ownsRow 0 102 9 (.slice (some ⟨e,0,none⟩) E c2) E (zw (waits.take i++waits.drop (i+1)))->R ⟨List.toArray ((.pointer (some ⟨b,0,none⟩))::N::O::P::Q::S::T::V::(.int .i64 z)::W::X::Y::Z::aa::ab::ac::ad::ae::af::ag::ah::ai::aj::ak::al::am::an::ao::ap::aq::ar::au::av::aw::ax::ay::az::aA::aB::aC::aD::aE::aF::aG::aH::aI::aJ::aK::aL::aM::aN::aO::aP::aQ::aR::aS::aT::aU::aV::aW::aX::aY::aZ::a0::a1::a2::a3::a4::a5::a6::a7::a8::a9::ba::bb::bc::bd::be::bf::bg::bh::bi::bj::bk::bl::bm::bn::bo::bp::bq::br::bs::bt::bu::bv::bw::bx::bz::bA::bB::bC::bD::bE::bF::bG::bH::bI::bJ::bK::bL::bM::bN::bO::bP::bQ::bR::bS::bT::bU::bV::bW::bX::bY::bZ::b0::b1::b2::b3::b4::b5::b6::b7::b8::b9::ca::cb::cc::cd::ce::cf::cg::ch::ci::cj::ck::cl::cm::cn::co::cp::cq::cr::cs::ct::cu::cv::cw::cx::cy::cz::cA::cB::cC::cD::cE::cF::cG::cH::cI::cJ::cK::cL::cM::cN::cO::u175::u176::u177::u178::u179::u180::u181::u182::u183::u184::u185::u186::u187::u188::u189::u190::u191::u192::u193::cP::cQ::cR::[]),[]⟩ (d.setCell ⟨b,8,none⟩ (.slice (some ⟨e,0,none⟩) E c2))):
 Code.wp Tryz.prog q7x (Exit.then R (λ_ _ _=>False)) ⟨List.toArray ((.pointer (some ⟨b,0,none⟩))::N::O::P::Q::S::T::V::(.int .i64 z)::W::X::Y::Z::aa::ab::ac::ad::ae::af::ag::ah::ai::aj::ak::al::am::an::ao::ap::aq::ar::au::av::aw::ax::ay::az::aA::aB::aC::aD::aE::aF::aG::aH::aI::aJ::aK::aL::aM::aN::aO::aP::aQ::aR::aS::aT::aU::aV::aW::aX::aY::aZ::a0::a1::a2::a3::a4::a5::a6::a7::a8::a9::ba::bb::bc::bd::be::bf::bg::bh::bi::bj::bk::bl::bm::bn::bo::bp::bq::br::bs::bt::bu::bv::bw::bx::bz::bA::bB::bC::bD::bE::bF::bG::bH::bI::bJ::bK::bL::bM::bN::bO::bP::bQ::bR::bS::bT::bU::bV::bW::bX::bY::bZ::b0::b1::b2::b3::b4::b5::b6::b7::b8::b9::ca::cb::cc::cd::ce::cf::cg::ch::ci::cj::ck::cl::cm::cn::co::cp::cq::cr::cs::ct::cu::cv::cw::cx::cy::cz::cA::cB::cC::cD::cE::cF::cG::cH::cI::cJ::cK::cL::cM::cN::cO::y175::y176::y177::y178::y179::y180::y181::y182::y183::y184::y185::y186::y187::y188::y189::y190::y191::y192::y193::cP::cQ::cR::[]),[]⟩ a:=by
 have u:(⟨b,8,none⟩:Addr).block<a.heap.size:=jcr _ _ t;have l5':b<a.heap.size:=u;have hvl:=r.out.len;have hvc:=r.out.cap
 have z0:0<=z:=by have:=q.out;omega
 have z1:z.toNat=i:=by have:=q.out;omega
 have z2:z<(waits.length:Int):=by have:=q.out;omega
 have z3:z<=(waits.length:Int):=by omega
 have z4:(z+1)<=(waits.length:Int):=by omega
 have z5:0<=z+1:=by omega
 have z6:(z+1).toNat=i+1:=by omega
 have z7:z<=(p:Int):=by omega
 have hlen:=s.out
 have hwz:IntKind.i64.wrap (z+1)=z+1:=by unfold IntKind.wrap;simp[IntKind.signed,IntKind.bits];omega
 have HR:Hid _:=hR
 conv=>arg 2;whnf
 by_cases hvz:p=i+1
 ·subst hvz
  have z8:z<=(i:Int)+1:=by omega
  go_region_law (first
   |(refine vt _ rfl (.tmp 176) (.tmp 182) rfl (g:=a.heap.size) (n:=0) (cap:=0) (xs:=[]) (by simp[Act.eval,Act.put]) (qh4 a 102 rfl) (sa:=some ⟨m,o,none⟩) (c:=i+1) (l:=waits.take i) (by simp[Act.eval,Act.put]<;>omega) ((r.out.take i (by have:=q.out;omega)).later (by repeat (first|(with_reducible assumption)|(with_reducible exact jcc _ _)|(with_reducible refine boxed ?_ _)|(with_reducible refine jc6 ?_)))) (by have:=s.out;simp;omega) ?_
     intro v c1_ w F G H I;have x:Hid (a.heap.size<=v/\v<w.heap.size):=⟨by simp at H;omega,I⟩;have f:Below a.heap.size a w:=jd0 (by repeat (first|(with_reducible assumption)|(with_reducible exact jcc _ _)|(with_reducible refine boxed ?_ _)|(with_reducible refine jc6 ?_))) G (by simp<;>omega) (λj h=>by simp at h;omega);have c86:=cell_later f t
     have f86:=qgv f D u)
   |(refine vt _ rfl (.tmp 183) (.tmp 190) rfl (by simp[Act.eval,Act.put]) F (sa:=some ⟨m,o,none⟩) (c:=0) (l:=waits.drop (i+1)) (by simp[Act.eval,Act.put]<;>omega) (⟨by simp;omega,by omega,.inl (jdw (by omega))⟩) (by have:=s.out;simp;omega) ?_
     intro e y d B J eg7 K;have k:Below a.heap.size a d:=jd0 f J f.size (λj h=>by have:=x.out;simp at h;omega);have C:Hid (a.heap.size<=e/\e<d.heap.size):=⟨by have:=x.out;have:=f.size;omega,K⟩;have c87:=cell_later k t
     have f87:=qgv k D u))
  all_goals
   refine HR.out _ _ _ _ _ _ _ _ _ _ _ _ _ _ _ _ _ _ _ d e y _ k C.out.1 C.out.2 ?_ ?_
   ·simp<;>omega
   ·rw[jda,<-qjs]at B
    have L:∀n,n=0+(waits.take i).length+(waits.drop (i+1)).length->d.ownsRow 0 102 9 (.slice (some ⟨e,0,none⟩) n y) n (zw (waits.take i++waits.drop (i+1))):=λn M=>by subst M;exact B
    exact L _ (by simp<;>omega)
 ·skip
  go_region_law (first
   |(refine vt _ rfl (.tmp 176) (.tmp 182) rfl (g:=a.heap.size) (n:=0) (cap:=0) (xs:=[]) (by simp[Act.eval,Act.put]) (qh4 a 102 rfl) (sa:=some ⟨m,o,none⟩) (c:=p) (l:=waits.take i) (by simp[Act.eval,Act.put]<;>omega) ((r.out.take i (by have:=q.out;omega)).later (by repeat (first|(with_reducible assumption)|(with_reducible exact jcc _ _)|(with_reducible refine boxed ?_ _)|(with_reducible refine jc6 ?_)))) (by have:=s.out;simp;omega) ?_
     intro v c1_ w F G H I;have x:Hid (a.heap.size<=v/\v<w.heap.size):=⟨by simp at H;omega,I⟩;have f:Below a.heap.size a w:=jd0 (by repeat (first|(with_reducible assumption)|(with_reducible exact jcc _ _)|(with_reducible refine boxed ?_ _)|(with_reducible refine jc6 ?_))) G (by simp<;>omega) (λj h=>by simp at h;omega);have c86:=cell_later f t
     have f86:=qgv f D u)
   |(refine vt _ rfl (.tmp 183) (.tmp 190) rfl (by simp[Act.eval,Act.put]) F (sa:=some ⟨m,o+(i+1)*9,none⟩) (c:=p-(i+1)) (l:=waits.drop (i+1)) (by simp[Act.eval,Act.put]<;>omega) ((r.out.drop (i+1) (by have:=q.out;omega)).later f) (by have:=s.out;simp;omega) ?_
     intro e y d B J eg7 K;have k:Below a.heap.size a d:=jd0 f J f.size (λj h=>by have:=x.out;simp at h;omega);have C:Hid (a.heap.size<=e/\e<d.heap.size):=⟨by have:=x.out;have:=f.size;omega,K⟩;have c87:=cell_later k t
     have f87:=qgv k D u))
  all_goals
   refine HR.out _ _ _ _ _ _ _ _ _ _ _ _ _ _ _ _ _ _ _ d e y _ k C.out.1 C.out.2 ?_ ?_
   ·simp<;>omega
   ·rw[jda,<-qjs]at B
    have L:∀n,n=0+(waits.take i).length+(waits.drop (i+1)).length->d.ownsRow 0 102 9 (.slice (some ⟨e,0,none⟩) n y) n (zw (waits.take i++waits.drop (i+1))):=λn M=>by subst M;exact B
    exact L _ (by simp<;>omega)
noncomputable def jas:Code:=((Tryz.f84.body.bind (qfn 19)).getD .skip)
theorem qzp {b:Nat} {S:qe} {lv sv:Value} {I:Option Addr} {M:Nat} {log waits:List TxM} {y1 y2 y3 y4 y5 y6 y7 y9 y10 y11 y12 y13 y14 y15 y16 y17 y18 y19 y20 y21 y22 y23 y24 y25 y26 y27 y28 y29 y30 y31 y32 y33 y34 y35 y36 y37 y38 y39 y40 y41 y42 y43 y44 y45 y46 y47 y48 y49 y50 y51 y52 y53 y54 y55 y56 y57 y58 y59 y60 y61 y62 y63 y64 y65 y66 y67 y68 y69 y70 y71 y72 y73 y74 y75 y76 y77 y78 y79 y80 y81 y82 y83 y84 y85 y86 y87 y88 y89 y90 y91 y92 y93 y94 y95 y96 y97 y98 y99 y100 y101 y102 y103 y104 y105 y106 y107 y108 y109 y110 y111 y112 y113 y114 y115 y116 y117 y118 y119 y123 y124 y125 y126 y127 y128 y129 y130 y131 y132 y133 y134 y135 y136 y137 y138 y139 y140 y141 y142 y143 y144 y145 y146 y147 y148 y149 y150 y151 y152 y153 y154 y155 y156 y157 y158 y159 y160 y161 y162 y163 y164 y165 y166 y167 y168 y169 y170 y171 y172 y173 y174 y175 y176 y177 y178 y179 y180 y181 y182 y183 y184 y185 y186 y187 y188 y189 y190 y191 y192 y193 y194 y195 y196:Value} (w:World) (Q:vu w b lv (.slice I waits.length M) sv S log waits) (hw:waits.map (·.t)=S.waits) (hI:j3 S) (hn:waits.length<=1000) (R:Act->World->Prop)
 (hR:∀(u9 u10 u122 u123 u124 u125 u126 u127 u128 u129 u130 u131 u132 u133 u134 u135 u136 u137 u138 u139 u140 u141 u142 u143 u144 u145 u146 u147 u148 u149 u150 u151 u152 u153 u154 u155 u156 u157 u158 u159 u160 u161 u162 u163 u164 u165:Value) (z:Int) (w':World),qei S waits waits.length z->Bw w w'->R ⟨List.toArray ((PP b)::y1::y2::y3::y4::y5::y6::y7::(U z)::u9::u10::y11::y12::y13::y14::y15::y16::y17::y18::y19::y20::y21::y22::y23::y24::y25::y26::y27::y28::y29::y30::y31::y32::y33::y34::y35::y36::y37::y38::y39::y40::y41::y42::y43::y44::y45::y46::y47::y48::y49::y50::y51::y52::y53::y54::y55::y56::y57::y58::y59::y60::y61::y62::y63::y64::y65::y66::y67::y68::y69::y70::y71::y72::y73::y74::y75::y76::y77::y78::y79::y80::y81::y82::y83::y84::y85::y86::y87::y88::y89::y90::y91::y92::y93::y94::y95::y96::y97::y98::y99::y100::y101::y102::y103::y104::y105::y106::y107::y108::y109::y110::y111::y112::y113::y114::y115::y116::y117::y118::y119::(.slice I waits.length M)::(U waits.length)::u122::u123::u124::u125::u126::u127::u128::u129::u130::u131::u132::u133::u134::u135::u136::u137::u138::u139::u140::u141::u142::u143::u144::u145::u146::u147::u148::u149::u150::u151::u152::u153::u154::u155::u156::u157::u158::u159::u160::u161::u162::u163::u164::u165::y166::y167::y168::y169::y170::y171::y172::y173::y174::y175::y176::y177::y178::y179::y180::y181::y182::y183::y184::y185::y186::y187::y188::y189::y190::y191::y192::y193::y194::y195::y196::[]),[]⟩ w'):
 Code.wp Tryz.prog jas (λe a w=>e=.exit 4/\R a w) ⟨List.toArray ((PP b)::y1::y2::y3::y4::y5::y6::y7::(U (-1))::y9::y10::y11::y12::y13::y14::y15::y16::y17::y18::y19::y20::y21::y22::y23::y24::y25::y26::y27::y28::y29::y30::y31::y32::y33::y34::y35::y36::y37::y38::y39::y40::y41::y42::y43::y44::y45::y46::y47::y48::y49::y50::y51::y52::y53::y54::y55::y56::y57::y58::y59::y60::y61::y62::y63::y64::y65::y66::y67::y68::y69::y70::y71::y72::y73::y74::y75::y76::y77::y78::y79::y80::y81::y82::y83::y84::y85::y86::y87::y88::y89::y90::y91::y92::y93::y94::y95::y96::y97::y98::y99::y100::y101::y102::y103::y104::y105::y106::y107::y108::y109::y110::y111::y112::y113::y114::y115::y116::y117::y118::y119::(.slice I waits.length M)::(U waits.length)::(U 0)::y123::y124::y125::y126::y127::y128::y129::y130::y131::y132::y133::y134::y135::y136::y137::y138::y139::y140::y141::y142::y143::y144::y145::y146::y147::y148::y149::y150::y151::y152::y153::y154::y155::y156::y157::y158::y159::y160::y161::y162::y163::y164::y165::y166::y167::y168::y169::y170::y171::y172::y173::y174::y175::y176::y177::y178::y179::y180::y181::y182::y183::y184::y185::y186::y187::y188::y189::y190::y191::y192::y193::y194::y195::y196::[]),[]⟩ w:=by
 have HR:Hid _:=hR;clear hR;have N:=hd3 Q hw hI
 have V:Hid (qdy w I M waits):=by
  obtain⟨a9,c9,e9,h9⟩:=yx Q.rwait;injection e9 with d h f;rw[d,f];exact h9
 have hvl:=V.out.len;have hvc:=V.out.cap;have hne:=qb.one;clear Q hw hI
 conv=>arg 2;whnf
 go_loopw [8,122] (λbv iv wr=>∃(k:Nat) (z p:Int),k<=waits.length/\z=k/\bv=U p/\iv=U z/\Hid (qei S waits k p)/\Bw w wr) (λ_ i _=>waits.length-(intOf i).toNat)
 case atStart=>exact⟨0,0, -1,by omega,rfl,rfl,rfl,qyj S waits,jcc _ _⟩
 obtain⟨k,z,p,hk,hz,rfl,rfl,C,W⟩:=hrel;have q:=hd1 hz;by_cases X:k<waits.length
 ·have g1:z<(waits.length:Int):=by omega
  have g2:z.toNat=k:=by omega
  have g3:0<=z:=by omega
  clear hz
  obtain⟨J,K,hwa,Y⟩:∃J K,I=some (AD J K)/\∀i m r u,waits[i]?=some m->(txC m)[r]?=some u->w.cell? (AD J (K+(i*9+r)))=some u:=by
   rcases V.out.held with e|e
   ·rw[e]at X;simp at X
   exact e
  obtain⟨⟨⟨xs,g,l,n,j,d,h,f,o⟩,E,F⟩,O⟩:∃m,waits[k]?=some m:=⟨waits[k],jcg X⟩;have P:=hd1 O;have hok:=(N.out.2.2.wt ⟨xs,g,l,n,j,d,h,f,o⟩ (by rw[<-N.out.2.1];exact jcz.2 ⟨_,jcq O,rfl⟩)).1;obtain⟨⟨s0,s3⟩,_,_⟩:=qcg hok;simp only at s0 s3
  have s4:xs<4:=by omega
  have s:=λr u (hu:(txC ⟨⟨xs,g,l,n,j,d,h,f,o⟩,E,F⟩)[r]?=some u)=>(show wr.cell? (AD J (K+k*9+r))=some u by rw[Nat.add_assoc];exact cell_later W (Y k _ r u O hu));have x0:=s 0 _ rfl;have x1:=s 1 _ rfl;have x2:=s 2 _ rfl;have x3:=s 3 _ rfl;have x4:=s 4 _ rfl;have x5:=s 5 _ rfl;have x6:=s 6 _ rfl;have x7:=s 7 _ rfl;have x8:=s 8 _ rfl;rw[Nat.add_zero]at x0;have G:=boxed W (.cells (List.toArray (T9 xs g l n j d h f E o.length F)) 102);have v:=qd.new (w:=wr) (T:=102) (T9 xs g l n j d h f E o.length F) rfl;change qd (wr.alloc (.cells (List.toArray (T9 xs g l n j d h f E o.length F)) 102)) wr.heap.size (T9 xs g l n j d h f E o.length F)at v;have y:=N.out.1.later G;have t0:=qb.cell (v.c 0);have t1:=qb.cell (v.c 1);have t4:=qb.cell (v.c 4);have t5:=qb.cell (v.c 5);have t6:=qb.cell (v.c 6);have t7:=qb.cell (v.c 7);have ks:=qb.cell (qkc y.box s0 s3);have k1:=qb.cell (y.box.c 1);have k2:=qb.cell (y.box.c 2);have k3:=qb.cell (y.box.c 3);have k4:=qb.cell (y.box.c 4);have k8:=qb.cell (y.box.c 8);obtain⟨D,Z⟩:∃D,qp xs S.a0 S.a1 S.a2 S.a3=D:=⟨_,rfl⟩;have HD:=hd1 Z;have aa:=N.out.2.2.dep xs;rw[Z]at ks aa;have hwr:=qd1 aa
  have ab:Hid (qz S ⟨xs,g,l,n,j,d,h,f,o⟩=(decide (g=D+1)&&qa8 S.a0 S.a1 S.a2 S.a3 j d h f)):=by show qz S ⟨xs,g,l,n,j,d,h,f,o⟩=_;unfold qz;rw[HD.out]
  rw[hwa]at k8 ⊢;have HCC:=hd1 Y;clear s Y O v y Z aa hok s3;by_cases H:g=D+1
  have q2:(g==D+1)=true:=by simp[H]
  have HQ:=hd1 H;clear H;cases hc:qa8 S.a0 S.a1 S.a2 S.a3 j d h f;have L:=hd1 hc
  have HN:Hid (qz S ⟨xs,g,l,n,j,d,h,f,o⟩=false):=by show _=_;rw[ab.out,hc];simp
  clear hc
  go_wp2_with fail
  refine wrl ?_
  repeat (go_big_quiet_step (first|rfl|(go_at_call 77;with_reducible exact qg (yo L.out _))))
  rotate_left
  have L:=hd1 hc
  have HY:Hid (qz S ⟨xs,g,l,n,j,d,h,f,o⟩=true):=by show _=_;rw[ab.out,hc,HQ.out];simp
  clear hc;by_cases hbz:p<0
  ·have HE:Hid (p= -1):=by
        show _=_;rcases C.out with ⟨e,_⟩|⟨i,x,e,_⟩
        ·exact e
        omega
   go_wp2_with fail
   refine wrl ?_
   repeat (go_big_quiet_step (first|rfl|(go_at_call 77;with_reducible exact qg (yo L.out _))))
   refine wpQuiet_nil ?_;rintro w4 ⟨⟨_,B⟩,rfl⟩
   go_wp2_with fail
   go_roundw
   case rel=>exact⟨k+1,z+1,z,by omega,by have:=q.out;omega,rfl,by go_num,(by rw[q.out];exact qyl (by rw[<-HE.out];exact C.out) P.out HY.out),qa G B⟩
   simp[intOf];have:=q.out;omega
  obtain⟨i,⟨⟨bs,bq,bw,bc,f0,f1,f2,f3,bws⟩,ba,bcap⟩,hzi,hik,hbx⟩:=q90 C.out (by omega);have HBX:=hd1 hbx;have HZI:=hd2 hzi (show qei S waits k i from by rw[<-hzi];exact C.out);have b1:=decide_eq_false hbz
  have z0:0<=p:=by omega
  have z1:p.toNat=i:=by omega
  have z2:p<(waits.length:Int):=by omega
  have cb:(wr.alloc (.cells (List.toArray (T9 xs g l n j d h f E o.length F)) 102)).cell? (AD J (K+i*9))=some (U bs):=cell_later G (HCC.out i _ 0 _ hbx rfl);have cbl:=qb.cell cb;clear hbx hzi cb;by_cases hl:xs<bs
  ·have b2:=decide_eq_true hl
   go_wp2_with fail
   refine wrl ?_
   repeat (go_big_quiet_step (first|rfl|(go_at_call 77;with_reducible exact qg (yo L.out _))))
   refine wpQuiet_nil ?_;rintro w4 ⟨⟨_,B⟩,rfl⟩
   go_wp2_with fail
   go_roundw
   case rel=>exact⟨k+1,z+1,z,by omega,by have:=q.out;omega,rfl,by go_num,(by rw[q.out];exact q1o HZI.out.2 HBX.out P.out HY.out hl),qa G B⟩
   simp[intOf];have:=q.out;omega
  have b2:=decide_eq_false hl
  go_wp2_with fail
  refine wrl ?_
  repeat (go_big_quiet_step (first|rfl|(go_at_call 77;with_reducible exact qg (yo L.out _))))
  refine wpQuiet_nil ?_;rintro w4 ⟨⟨_,B⟩,rfl⟩
  go_wp2_with fail
  go_roundw
  case rel=>exact⟨k+1,z+1,p,by omega,by have:=q.out;omega,rfl,by go_num,(by rw[HZI.out.1];exact q2x HZI.out.2 HBX.out P.out (by simp only;omega)),qa G B⟩
  simp[intOf];have:=q.out;omega
  have q2:(g==D+1)=false:=by simp[H]
  have HN:Hid (qz S ⟨xs,g,l,n,j,d,h,f,o⟩=false):=by show _=_;rw[ab.out];simp[H]
  clear H
  go_wp2_with fail
  refine wrl ?_
  repeat (go_big_quiet_step (first|rfl|fail))
  all_goals
   refine wpQuiet_nil ?_;rintro w4 ⟨⟨_,B⟩,rfl⟩
   go_wp2_with fail
   go_roundw
   case rel=>exact⟨k+1,z+1,p,by omega,by have:=q.out;omega,rfl,by go_num,qz5 C.out P.out HN.out,qa G B⟩
   simp[intOf];have:=q.out;omega
 have g1:¬z<(waits.length:Int):=by omega
 have hkk:k=waits.length:=by omega
 subst hkk
 go_wp2_with fail
 exact HR.out _ _ _ _ _ _ _ _ _ _ _ _ _ _ _ _ _ _ _ _ _ _ _ _ _ _ _ _ _ _ _ _ _ _ _ _ _ _ _ _ _ _ _ _ _ _ p wr C.out W
noncomputable def ja8:Code:=((Tryz.f84.body.bind (qfn 16)).getD .skip)
theorem qw2 {b:Nat} {G:Nat->Prop} {F:Nat->Option Obj} {S:qe} {y1 y2 y3 y4 y5 y6 y7 y8 y9 y10 y11 y12 y13 y14 y15 y16 y17 y18 y19 y20 y21 y22 y23 y24 y25 y26 y27 y28 y29 y30 y31 y32 y33 y34 y35 y36 y37 y38 y39 y40 y41 y42 y43 y44 y45 y46 y47 y48 y49 y50 y51 y52 y53 y54 y55 y56 y57 y58 y59 y60 y61 y62 y63 y64 y65 y66 y67 y68 y69 y70 y71 y72 y73 y74 y75 y76 y77 y78 y79 y80 y81 y82 y83 y84 y85 y86 y87 y88 y89 y90 y91 y92 y93 y94 y95 y96 y97 y98 y99 y100 y101 y102 y103 y104 y105 y106 y107 y108 y109 y110 y111 y112 y113 y114 y115 y116 y117 y118 y119 y120 y121 y122 y123 y124 y125 y126 y127 y128 y129 y130 y131 y132 y133 y134 y135 y136 y137 y138 y139 y140 y141 y142 y143 y144 y145 y146 y147 y148 y149 y150 y151 y152 y153 y154 y155 y156 y157 y158 y159 y160 y161 y162 y163 y164 y165 y166 y167 y168 y169 y170 y171 y172 y173 y174 y175 y176 y177 y178 y179 y180 y181 y182 y183 y184 y185 y186 y187 y188 y189 y190 y191 y192 y193 y194 y195 y196:Value} (w:World) (M0:qns w b G F S S w) (R:Act->World->Prop)
 (hR:∀(u8 u9 u10 u11 u111 u112 u113 u114 u115 u116 u117 u118 u119 u120 u121 u122 u123 u124 u125 u126 u127 u128 u129 u130 u131 u132 u133 u134 u135 u136 u137 u138 u139 u140 u141 u142 u143 u144 u145 u146 u147 u148 u149 u150 u151 u152 u153 u154 u155 u156 u157 u158 u159 u160 u161 u162 u163 u164 u165 u166 u167 u168 u169 u170 u171 u172 u173 u174 u175 u176 u177 u178 u179 u180 u181 u182 u183 u184 u185 u186 u187 u188 u189 u190 u191 u192 u193 u194 u195 u196:Value) (S':qe) (w':World),qfm S S'->RPo w b G F S' w'->R ⟨List.toArray ((.pointer (some ⟨b,0,none⟩))::y1::y2::y3::y4::y5::y6::y7::u8::u9::u10::u11::y12::y13::y14::y15::y16::y17::y18::y19::y20::y21::y22::y23::y24::y25::y26::y27::y28::y29::y30::y31::y32::y33::y34::y35::y36::y37::y38::y39::y40::y41::y42::y43::y44::y45::y46::y47::y48::y49::y50::y51::y52::y53::y54::y55::y56::y57::y58::y59::y60::y61::y62::y63::y64::y65::y66::y67::y68::y69::y70::y71::y72::y73::y74::y75::y76::y77::y78::y79::y80::y81::y82::y83::y84::y85::y86::y87::y88::y89::y90::y91::y92::y93::y94::y95::y96::y97::y98::y99::y100::y101::y102::y103::y104::y105::y106::y107::y108::y109::y110::u111::u112::u113::u114::u115::u116::u117::u118::u119::u120::u121::u122::u123::u124::u125::u126::u127::u128::u129::u130::u131::u132::u133::u134::u135::u136::u137::u138::u139::u140::u141::u142::u143::u144::u145::u146::u147::u148::u149::u150::u151::u152::u153::u154::u155::u156::u157::u158::u159::u160::u161::u162::u163::u164::u165::u166::u167::u168::u169::u170::u171::u172::u173::u174::u175::u176::u177::u178::u179::u180::u181::u182::u183::u184::u185::u186::u187::u188::u189::u190::u191::u192::u193::u194::u195::u196::[]),[]⟩ w'):
 Code.wp Tryz.prog ja8 (λe a w=>e=.exit 2/\R a w) ⟨List.toArray ((.pointer (some ⟨b,0,none⟩))::y1::y2::y3::y4::y5::y6::y7::y8::y9::y10::y11::y12::y13::y14::y15::y16::y17::y18::y19::y20::y21::y22::y23::y24::y25::y26::y27::y28::y29::y30::y31::y32::y33::y34::y35::y36::y37::y38::y39::y40::y41::y42::y43::y44::y45::y46::y47::y48::y49::y50::y51::y52::y53::y54::y55::y56::y57::y58::y59::y60::y61::y62::y63::y64::y65::y66::y67::y68::y69::y70::y71::y72::y73::y74::y75::y76::y77::y78::y79::y80::y81::y82::y83::y84::y85::y86::y87::y88::y89::y90::y91::y92::y93::y94::y95::y96::y97::y98::y99::y100::y101::y102::y103::y104::y105::y106::y107::y108::y109::y110::y111::y112::y113::y114::y115::y116::y117::y118::y119::y120::y121::y122::y123::y124::y125::y126::y127::y128::y129::y130::y131::y132::y133::y134::y135::y136::y137::y138::y139::y140::y141::y142::y143::y144::y145::y146::y147::y148::y149::y150::y151::y152::y153::y154::y155::y156::y157::y158::y159::y160::y161::y162::y163::y164::y165::y166::y167::y168::y169::y170::y171::y172::y173::y174::y175::y176::y177::y178::y179::y180::y181::y182::y183::y184::y185::y186::y187::y188::y189::y190::y191::y192::y193::y194::y195::y196::[]),[]⟩ w:=by
 have HR:Hid _:=hR;clear hR
 conv=>arg 2;whnf
 go_loopw [8] (λ_ wr=>∃(d:qe),Hid (qns w b G F S d wr)) (λ_ wr=>qkk wr b)
 case atStart=>exact⟨S,M0⟩
 clear M0;obtain⟨d,s⟩:=hrel;obtain⟨G',PG,hGG⟩:=s.out.mem;have LE:=hd1 PG.left;obtain⟨lv,wv,sv,log,waits,B,O,P,hG,hF⟩:=PG;have HFR:=hd1 hF;obtain⟨la,lc,rfl,Q⟩:=yx B.rlog;obtain⟨va,vc,rfl,H⟩:=yx B.rwait;have g:=hd5 B O P hG hGG;have HVT:=hd1 H
 have hll:log.length=d.log.length:=by rw[<-O];simp
 have hww:waits.length<=1000:=by have:=s.out.wn;rw[<-P]at this;simpa using this
 have HWW:=hd1 hww;have s7:=B.box.c 7;have s8:=B.box.c 8;have hvl:=H.len;have hvc:=H.cap;have hl1:=Q.len;have hl2:=Q.cap;clear B O P hG hF hGG H Q;by_cases hf:200<=log.length
 ·have I:Hid (200<=d.log.length):=by show _<=_;omega
  have h2:¬(log.length:Int)<200:=by omega
  clear hf hll
  go_wp2_with fail
  exact HR.out _ _ _ _ _ _ _ _ _ _ _ _ _ _ _ _ _ _ _ _ _ _ _ _ _ _ _ _ _ _ _ _ _ _ _ _ _ _ _ _ _ _ _ _ _ _ _ _ _ _ _ _ _ _ _ _ _ _ _ _ _ _ _ _ _ _ _ _ _ _ _ _ _ _ _ _ _ _ _ _ _ _ _ _ _ _ _ _ _ _ d wr (s.out.go d (.full I.out)) s.out.done
 have I:Hid (d.log.length<200):=by show _<_;omega
 have h2:(log.length:Int)<200:=by omega
 clear hf hll
 go_wp2_with fail
 refine q58 (qzp wr g.out.1 g.out.2.2.1 s.out.inv HWW.out _ ?_);intro u9 u10 u122 u123 u124 u125 u126 u127 u128 u129 u130 u131 u132 u133 u134 u135 u136 u137 u138 u139 u140 u141 u142 u143 u144 u145 u146 u147 u148 u149 u150 u151 u152 u153 u154 u155 u156 u157 u158 u159 u160 u161 u162 u163 u164 u165 z w2 V C;have HM2:=hd1 (s.out.later C);have J:=hd1 (g.out.1.later C);have HF2:=hd1 (HFR.out.later g.out.1 C);have HV2:=hd1 (HVT.out.later C);rcases q4j V g.out.2.2.1 (λx t=>(qcg (s.out.inv.wt x t).1).1)with ⟨rfl,t⟩|⟨i,⟨⟨xs,h,j,k,l,n,o,p,q⟩,v,y⟩,hzi,hi,t⟩
 ·have K:=hd1 t;clear t V s7 s8 C
  go_wp2_with fail
  exact⟨trivial,HR.out _ _ _ _ _ _ _ _ _ _ _ _ _ _ _ _ _ _ _ _ _ _ _ _ _ _ _ _ _ _ _ _ _ _ _ _ _ _ _ _ _ _ _ _ _ _ _ _ _ _ _ _ _ _ _ _ _ _ _ _ _ _ _ _ _ _ _ _ _ _ _ _ _ _ _ _ _ _ _ _ _ _ _ _ _ _ _ _ _ _ d w2 (s.out.go d (.none K.out)) HM2.out.done⟩
 have K:=hd2 (show qd7 d=some ⟨xs,h,j,k,l,n,o,p,q⟩from t) hi;have W:=(jck.1 hi).1;have HZI:=hd2 hzi W
 have z0:0<=z:=by omega
 have z1:z.toNat=i:=by omega
 have z2:z<(waits.length:Int):=by omega
 have z3:¬z<0:=by omega
 obtain⟨L,M,hwa,hcc⟩:∃L M,va=some ⟨L,M,none⟩/\∀i m r u,waits[i]?=some m->(txC m)[r]?=some u->w2.cell? ⟨L,M+(i*9+r),none⟩=some u:=by
  rcases HV2.out.held with e|e
  ·rw[e]at W;simp at W
  exact e
 subst hwa;have f:=λr u (hu:(txC ⟨⟨xs,h,j,k,l,n,o,p,q⟩,v,y⟩)[r]?=some u)=>(show w2.cell? ⟨L,M+i*9+r,none⟩=some u by rw[Nat.add_assoc];exact hcc i _ r u hi hu);have x0:=f 0 _ rfl;have x1:=f 1 _ rfl;have x2:=f 2 _ rfl;have x3:=f 3 _ rfl;have X:=f 4 _ rfl;have Y:=f 5 _ rfl;have Z:=f 6 _ rfl;have x7:=f 7 _ rfl;have x8:=f 8 _ rfl;rw[Nat.add_zero]at x0;have s28:=J.out.box.c 8;clear f hcc hi t V s7 s8 hzi
 go_wp2_with fail
 have D:=boxed (jcc w2.heap.size w2) (.cells (List.toArray (T9 xs h j k l n o p v q.length y)) 102);have E:=hd1 (J.out.later D);have N:=qd.new (w:=w2) (T:=102) (T9 xs h j k l n o p v q.length y) rfl;change qd (w2.alloc (.cells (List.toArray (T9 xs h j k l n o p v q.length y)) 102)) w2.heap.size (T9 xs h j k l n o p v q.length y)at N;have HM3:=hd1 (HM2.out.later D);have HF3:=hd1 (HF2.out.later J.out D);have HV3:=hd1 (HV2.out.later D);obtain⟨W3,hW3⟩:∃W3,w2.alloc (.cells (List.toArray (T9 xs h j k l n o p v q.length y)) 102)=W3:=⟨_,rfl⟩
 have hnb:w2.heap.size≠b:=by have:=J.out.box.lt;omega
 rw[hW3]at D E N HM3 HF3 HV3 ⊢;clear hW3 x0 x1 x2 x3 X Y Z x7 x8 s28;refine qma (qvg W3 HV3 HWW HZI (E.out.box.c 8) (E.out.box.free 8 (by simp[vz])) _ ?_);intro u175 u176 u177 u178 u179 u180 u181 u182 u183 u184 u185 u186 u187 u188 u189 u190 u191 u192 u193 w7 g2 c2 n2 hb7 hg1 hg2 hn2 own7
 obtain⟨P7,T7,F7⟩:=E.out.reset hb7 hg1 own7 hn2.symm (λm hm=>.inl (by
  rcases jcf.1 hm with h1|h1
  ·exact List.mem_of_mem_take h1
  exact List.mem_of_mem_drop h1)) (qdv d.waits ⟨xs,h,j,k,l,n,o,p,q⟩)
 have AP:=qsa HM3.out E.out HF3.out g.out.2.1 g.out.2.2.1 g.out.2.2.2.1 g.out.2.2.2.2 K.out.2 I.out K.out.1 T7 F7 P7;have RX7:qd (w7.setCell ⟨b,8,none⟩ (.slice (some ⟨g2,0,none⟩) n2 c2)) w2.heap.size (T9 xs h j k l n o p v q.length y):=(N.later hb7).kept (jce _ _ _ _ hnb) (by simp[World.setCell]);obtain⟨W8,hW8⟩:∃W8,w7.setCell ⟨b,8,none⟩ (.slice (some ⟨g2,0,none⟩) n2 c2)=W8:=⟨_,rfl⟩;rw[hW8]at AP RX7 ⊢;obtain⟨x0,x1,x2,x3,X,Y,Z,x7,x8⟩:=RX7.c9;clear P7 T7 F7 N RX7 hb7 hg1 hg2 own7 hW8 hn2
 go_wp2_with fail
 refine AP.mono ?_;rintro e w9 ⟨rfl,hM9,_⟩;have HM9:=hd1 hM9;clear x0 x1 x2 x3 X Y Z x7 x8 AP hM9
 go_wp2_with fail
 go_roundw
 case rel=>exact⟨_,HM9⟩
 obtain⟨G5,p5,_⟩:=HM9.out.mem;rw[p5.left,LE.out];have:=I.out;simp[qj5,vr];omega
section
open Tryz
theorem ja3 {r:List Int} (h:r.length=2):∃u v,r=[u,v]:=by
 match r,h with
 |[u,v],_=>exact⟨u,v,rfl⟩
section
variable {a:Option Addr} {cap:Nat} {l:List ByteArray}
theorem qi1 (j:∀x∈l,x.size<=1000000) (w:World) (g:Gl w) (h:qfj w a cap l):
 Ca 95 #[.slice a l.length cap] w λe w'=>Bw w w'/\((∃v,Hid (ju 1 l=some [v])/\e=.returned (U v))\/(Hid (ju 1 l=none)/\e=qc7 3)):=by
 have k:=qiw (m:=1) (by decide) j w g h
 have n:Hid (∀r,ju 1 l=some r->r.length=1):=λr d=>by
  unfold ju at d;split at d
  ·rename_i q;rw[qbb d,q]
  cases d
 clear h g j;go_enter func95,ntmps95
 go_wp2_with fail
 refine k.mono ?_;rintro e p f;cases hn:ju 1 l with
 |none=>
  rw[hn]at f;obtain⟨rfl,i⟩:e=qc7 3/\_:=f;exact⟨rfl,i,.inr ⟨hn,rfl⟩⟩
 |some r=>
  rw[hn]at f;obtain⟨v,rfl⟩:∃v,r=[v]:=List.length_eq_one_iff.1 (n.out r hn);obtain⟨b,rfl,d,i⟩:=f;have s:=d.c 0;have o:=hd1 hn;clear hn
  go_wp2
  go_ret;exact⟨i,.inl ⟨v,o,rfl⟩⟩
theorem qls (j:∀x∈l,x.size<=1000000) (w:World) (g:Gl w) (h:qfj w a cap l):
 Ca 97 #[.slice a l.length cap] w λe w'=>Bw w w'/\((∃u v,Hid (ju 2 l=some [u,v])/\e=.returned (.tuple #[U u,U v]))\/(Hid (ju 2 l=none)/\e=qc7 3)):=by
 have k:=qiw (m:=2) (by decide) j w g h
 have n:Hid (∀r,ju 2 l=some r->r.length=2):=λr d=>by
  unfold ju at d;split at d
  ·rename_i q;rw[qbb d,q]
  cases d
 clear h g j;go_enter func97,ntmps97
 go_wp2_with fail
 refine k.mono ?_;rintro e p f;cases hn:ju 2 l with
 |none=>
  rw[hn]at f;obtain⟨rfl,i⟩:e=qc7 3/\_:=f;exact⟨rfl,i,.inr ⟨hn,rfl⟩⟩
 |some r=>
  rw[hn]at f;obtain⟨u,v,rfl⟩:∃u v,r=[u,v]:=ja3 (n.out r hn);obtain⟨b,rfl,d,i⟩:=f;have s:=d.c 0;have t:=d.c 1;have o:=hd1 hn;clear hn
  go_wp2
  go_region
  go_wp2
  go_ret2;exact⟨i.drew,.inl ⟨u,v,o,rfl⟩⟩
theorem qpc (i:∀x∈l,x.size<=1000000) (w:World) (g:Gl w) (h:qfj w a cap l):
 Ca 99 #[.slice a l.length cap] w λe w'=>Bw w w'/\((Hid (ju 0 l=some [])/\e=.returned (.tuple #[]))\/(Hid (ju 0 l=none)/\e=qc7 3)):=by
 have j:=qiw (m:=0) (by decide) i w g h
 have k:Hid (∀r,ju 0 l=some r->r.length=0):=λr c=>by
  unfold ju at c;split at c
  ·rename_i q;rw[qbb c,q]
  cases c
 clear h g i;go_enter func99,ntmps99
 go_wp2_with fail
 refine j.mono ?_;rintro e o d;cases hn:ju 0 l with
 |none=>
  rw[hn]at d;obtain⟨rfl,f⟩:e=qc7 3/\_:=d;exact⟨rfl,f,.inr ⟨hn,rfl⟩⟩
 |some r=>
  rw[hn]at d;obtain rfl:r=[]:=jc2 (k.out r hn);obtain⟨b,rfl,c,f⟩:=d;have n:=hd1 hn;clear hn
  go_wp2
  go_end0;exact⟨f,.inl ⟨n,rfl⟩⟩
end
theorem qda (n:Int) (w:World) (g:Gl w):Ca 66 #[jc n] w λe w'=>Bw w w'/\((n=0/\e=.returned (.tuple #[]))\/(n≠0/\e=qc7 n)):=by
 unfold jc;by_cases h:n=0
 ·rw[if_pos h];go_enter func66,ntmps66
  go_wp2
  go_end0;exact⟨jcc _ _,.inl ⟨h,rfl⟩⟩
 rw[if_neg h];have T:=qzi n w g.et;have b:Hid (n≠0):=h;clear h;go_enter func66,ntmps66
 go_wp2_with fail
 refine T.mono ?_;rintro e d ⟨rfl,c⟩
 go_wp2
 exact⟨rfl,c,.inr ⟨b.out,rfl⟩⟩
theorem jz (a b:List UInt8):bya a++bya b=bya (a++b):=by
 apply ByteArray.ext
 simp[bya]
theorem qq7 (n:Int) (b:wfI n) (w:World) (g:Gl w):Ca 7 #[U n] w λe w'=>e=.returned (.string (bya (qgt n)))/\Bw w w':=by
 have d:=Lib.itoa_length_le n b.1 b.2;have T:=qsn n b w g;have f:=λw=>qfi (P:=prog) ⟨#[101,114,114,111,114,32]⟩ (bya (Lib.itoa n)) (by show 6+(Lib.itoa n).toArray.size<=_;simp;omega) w;go_enter func7,ntmps7
 go_wp2_with fail
 refine T.mono ?_;rintro e h ⟨rfl,c⟩
 go_wp2
 go_ret;refine⟨?_,c⟩;have:=jz [101,114,114,111,114,32] (Lib.itoa n);rw[show qgt n=[101,114,114,111,114,32]++Lib.itoa n from rfl,<-this];rfl
def qen (x:Int):ByteArray:=bya (Lib.itoa x)
theorem qn2 (l:List Int):Lib.join ((l.map qen).map (·.data.toList)) [32]=qv l:=by
 unfold qv;rw[List.map_map]
 congr 1
theorem qgl (n:Nat):∀(l:List (List UInt8)),(∀x∈l,x.length<=n)->(Lib.join l [32]).length<=l.length*(n+1)
 |[],_=>by simp[Lib.join,List.intercalate]
 |[x],h=>by
  have:=h x (by simp);simp[Lib.join,List.intercalate];omega
 |x::y::l,h=>by
  have d:=h x (by simp);have b:=qgl n (y::l) (λz c=>h z (jdc _ c))
  have e:Lib.join (x::y::l) [32]=x++[32]++Lib.join (y::l) [32]:=by simp[Lib.join,List.intercalate]
  rw[e];simp only[jcl,List.length_cons,List.length_nil]at b ⊢;rw[Nat.succ_mul];omega
variable {l:List Int}
theorem ze (h:∀x∈l,wfI x):(qv l).length<=l.length*22:=by
 have:=qgl 21 (l.map Lib.itoa) (λy c=>by
  obtain⟨x,b,rfl⟩:=jcz.1 c
  exact Lib.itoa_length_le x (h x b).1 (h x b).2)
 simpa[qv]using this
theorem qg3 {w w':World} {B n N:Nat} {T:TypeId} {v:Value} {xs:List Value} (h:w.ownsRow B T N v n xs) (b:Bw w w'):w'.ownsRow B T N v n xs:=qf h (λk e=>b.block k (h.lt k e).2)
theorem qb1 {b o cap:Nat} (n:l≠[]) (v:l.length<=8) (H:∀x∈l,wfI x) (w:World) (g:Gl w) (d:b<w.heap.size) (f:∀(j:Nat) x,l[j]?=some x->w.cell? (AD b (o+j))=some (U x)):
 Ca 102 #[.slice (some (AD b o)) l.length cap] w λe w'=>e=.returned (.string (bya (qv l)))/\Bw w w':=by
 obtain⟨S,hi,V,W,X⟩:=info_parts qki;have r:=hd6 g H d f n v;clear g H d f n v;go_enter func102,ntmps102
 go_wp2
 go_loopw [3,8] (λI iv wr=>∃(k:Nat) (z:Int),k<=l.length/\z=k/\iv=U z/\Hid (wr.ownsRow w.heap.size 9 1 I k ((l.take k).map (λx=>Value.string (qen x)))/\Bw w wr)) (λ_ iv _=>l.length-(intOf iv).toNat)
 case atStart=>exact⟨0,0,jcw _,rfl,rfl,jcx w _ _ _,jcc _ _⟩
 rename_i I _;obtain⟨k,z,hk,F,rfl,c⟩:=hrel;have Y:=hd1 F;by_cases K:k<l.length
 ·have Z:z<(l.length:Int):=by omega
  have g2:0<=z:=by omega
  have g3:z.toNat=k:=by omega
  have g4:z<8:=by have:=r.out.2.2.2.2.2;omega
  obtain⟨x,B⟩:∃x,l[k]?=some x:=⟨_,jcg K⟩;obtain⟨C,s,d,f,_⟩:=r.out;have c0:=(c.out.2.cell (p:=AD b (o+k)) d).trans (f k x B);have T:=qsn x (s x (jcq B)) wr (C.later c.out.2)
  have L:Hid ((l.take (k+1)).map (λx=>Value.string (qen x))=(l.take k).map (λx=>Value.string (qen x))++[.string (qen x)]):=by
   show _=_;rw[jdu,B];simp
  clear C s d f F B
  go_wp2_with fail
  refine T.mono ?_;rintro e w2 ⟨rfl,t⟩;have M:=boxed (jcc _ w2) (.cells #[.string (qen x)] 9);have G:=qg3 (qg3 c.out.1 t) M;have m:=hd1 (qa c.out.2 t)
  go_wp2_with (at_builtin;refine wpList_append_lies _ rfl _ _ 42 rfl w.heap.size 9 S (.string ⟨#[]⟩) 1 16 underlying42 hi V W X rfl (by decide) _ _ _ rfl G (AD w2.heap.size 0) 1 1 [.string (qen x)] rfl rfl (World.news_of_block (heap_alloc_new w2 (.cells #[.string (qen x)] 9))) ?c2 (by decide) ?c3 ?c4 ?c5 _ rfl ?_)
  case c2=>intro u N;simp at N;subst N;rfl
  case c3=>have:=r.out.2.2.2.2.2;unfold maxLen;omega
  case c4=>have:=r.out.2.2.2.2.2;omega
  case c5=>have:=m.out.size;simp;omega
  intro D E O P Q aa ab
  have ac:Hid (O.ownsRow w.heap.size 9 1 (.slice (PT D) (k+1) E) (k+1) ((l.take (k+1)).map (λx=>Value.string (qen x)))/\Bw w O):=by
   refine⟨by rw[L.out];simpa[List.map_take]using P,?_⟩;exact(m.out.alloc m.out.size _).grown Q (by have:=m.out.size;simp;omega) (λq e=>(G.lt q e).1)
  clear P Q aa ab G L M t
  go_wp2
  go_roundw
  case rel=>exact⟨k+1,z+1,K,by have:=Y.out;omega,by go_num,ac.out⟩
  simp[intOf];omega
 have Z:¬z<(l.length:Int):=by omega
 have ad:k=l.length:=by omega
 subst ad;rw[jc9]at c;obtain⟨C,s,d,f,n,v⟩:=r.out;have ae:=List.length_pos_iff.2 n;obtain⟨D,E,rfl,hB,af⟩:=c.out.1.form ae;have R:=c.out.1.cells (g:=D) rfl
 have ag:l.length<=E:=by
  rcases c.out.1.2 with ⟨h,_⟩|⟨g',c',cur,hv,_,_,hnc,_⟩
  ·cases h
  cases hv;exact hnc
 have J:=jd1 D 0 E (l.map qen) ⟨#[32]⟩ wr (λj y i=>by
  have:=R j (.string y) (by rw[jcv]at i ⊢;cases hq:l[j]?with
   |none=>rw[hq]at i;cases i
   |some q=>rw[hq]at i;injection i with i;subst i;rfl)
  rcases Nat.eq_zero_or_pos j with rfl|hj
  ·simpa[Addr.add]using this
  simpa[Addr.add,Nat.ne_of_gt hj]using this) af (by simp;omega) (by simpa using ag) (by
  rw[show (⟨#[32]⟩:ByteArray).data.toList=[32]from rfl,qn2];have:=ze s
  omega)
 rw[jdh,show (⟨#[32]⟩:ByteArray).data.toList=[32]from rfl,qn2]at J;have m:=hd1 c.out.2;clear C s d f n v R F c
 go_wp2_with fail
 refine J.mono ?_;rintro e w2 ⟨rfl,t⟩
 go_wp2
 go_ret;exact⟨rfl,qa m.out t⟩
end
open Go.Lib
theorem qub (x:Nat) (w:World):Ca 71 #[.int .i32 (x:Int)] w λe w'=>e=.returned (.bool (decide (x=32)))/\w'=w:=by
 have h:((x:Int)==32)=decide (x=32):=by rw[Bool.eq_iff_iff,beq_iff_eq,decide_eq_true_eq];omega
 go_enter Tryz.func71,Tryz.ntmps71
 go_wp2
 go_ret;exact⟨rfl,rfl⟩
theorem qkj (s:ByteArray) (d:s.size<=4294967296) (w:World):Ca 26 #[.string s] w λe w'=>∃A,e=.returned (.slice (PT A) (qa9 s).length (qa9 s).length)/\w.heap.size<=A/\qfj w' (PT A) (qa9 s).length (qa9 s)/\Bw w w':=by
 have b:=jd4 71 #[] (λargs w=>by kernel_rfl) (λr=>decide (r=32)) s w d (λW x _ _=>(qub x W).mono λe w' ⟨f,g⟩=>⟨f,0,g⟩);go_enter Tryz.func26,Tryz.ntmps26
 go_wp2_with fail
 refine b.mono ?_;rintro e h ⟨A,rfl,i,a,k⟩
 have l:Hid (qfj h (PT A) (qa9 s).length (qa9 s)):=⟨jcd _,λj x c=>⟨A,0,rfl,(a.lt A rfl).2,by
  have m:=(jck.1 c).1;rw[Nat.zero_add,a.cellAt j (by rw[Nat.mul_one];exact m),jcv];show Option.map _ (qa9 s)[j]?=_
  rw[c];rfl⟩⟩
 clear a b
 go_wp2
 go_ret;exact⟨A,rfl,i,l.out,k⟩
end Go.Proofs.YtoanjdndmlffdaaGreatDoor
