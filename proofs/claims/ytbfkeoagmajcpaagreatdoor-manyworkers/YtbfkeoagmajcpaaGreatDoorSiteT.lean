import Derived.Test.YtbfkeoagmajcpaaGreatDoorSiteM
import Derived.Test.YtbfkeoagmajcpaaGreatDoorSiteS
set_option linter.defProp false
set_option linter.unusedSectionVars false
set_option linter.unusedSimpArgs false
set_option linter.unusedVariables false
namespace Go.Proofs.YtbfkeoagmajcpaaGreatDoor
variable {A B:Nat}
section
structure jhi (w:Wl) (A B:Nat):Prop where
 gl:Gl w
 cell:∀r,r<=7->∃c t,w.heap[r]?=some (.cells c t (0,0))
 flat:∀r c t f,r<=7->r≠5->r≠6->w.heap[r]?=some (.cells c t f)->∀(p:Ren 7),Fx gl1 p->VA ok1 p c c
 es:∃t u off,w.heap[5]?=some (.cells #[.iface t (.pointer (some (AD A off)))] u (0,0))
 er:∃t u off,w.heap[6]?=some (.cells #[.iface t (.pointer (some (AD B off)))] u (0,0))
 o1:∃d t,w.heap[A]?=some (.cells d t (0,0))/\d.size≠0
 o2:∃d t,w.heap[B]?=some (.cells d t (0,0))/\d.size≠0
 gt:7<A/\7<B
def yp (w:Wl) (r:Nat):Av:=match w.heap[r]?with|some (.cells c _ _)=>c|_=>#[]
def jj9 (w:Wl) (r:Nat):Tp:=match w.heap[r]?with|some (.cells _ t _)=>t|_=>0
def zW (w:Wl) (A B:Nat):jhw where
 X:=yp w
 T:=jj9 w
 ob r:=if r=OD1 then A else B
 n r:=if r=OD1 then (yp w A).size-1 else (yp w B).size-1
 on r:=decide (r=OD1\/A≠B)
def jmm (o:Nat):Vl->Vl
 |.iface t (.pointer (some a))=>.iface t (.pointer (some (AD o a.off)))
 |v=>v
def lW (w:Wl) (A B:Nat) (r:Nat):Av:=if r=5 then (yp w r).map (jmm OD1)else if r=6 then (yp w r).map (jmm (if A=B then OD1 else OD2))else yp w r
variable {w:Wl}
variable {r:Nat}
def jkp (h:gl1 r=true):r<=7:=of_decide_eq_true h
def jhi.ob (h:jhi w A B):jh7 7 gl1 (zW w A B):=by
 obtain⟨a,b⟩:=h.gt;refine⟨oj,λr g=>jkp g,λ_ q=>?_,λr _=>?_,λr _=>?_⟩
 .have q:OD2=OD1\/A≠B:=of_decide_eq_true q;exact q.resolve_left oj
 .show gl1 (if r=OD1 then A else B)=false;split<;>exact decide_eq_false oe
 show 7<=(if r=OD1 then A else B);split<;>omega
def jhi.at_ (h:jhi w A B) (a:r<=7):w.heap[r]?=some (.cells (yp w r) (jj9 w r) (0,0)):=by
 obtain⟨c,t,e⟩:=h.cell r a;unfold yp jj9;rw[e]
def jhi.co (h:jhi w A B):jpt gl1 (zW w A B) (λ_=>(0,0)) w:=by
 refine⟨λr g=>h.at_ (jkp g),λr o=>?_⟩;rcases jhb (jf3 o)with rfl|rfl
 .obtain⟨d,t,e,a⟩:=h.o1;refine⟨d,t,e,?_⟩;show d.size=(yp w A).size-1+1
  have:yp w A=d:=by unfold yp;rw[e]
  rw[this];omega
 obtain⟨d,t,e,a⟩:=h.o2;refine⟨d,t,e,?_⟩;show d.size=(yp w B).size-1+1
 have:yp w B=d:=by unfold yp;rw[e]
 rw[this];omega
def jt9 (h:jhi w A B):∃t off,yp w 5=#[.iface t (.pointer (some (AD A off)))]/\lW w A B 5=#[.iface t (.pointer (some (AD OD1 off)))]:=by
 obtain⟨t,u,off,e⟩:=h.es
 have:yp w 5=#[.iface t (.pointer (some (AD A off)))]:=by unfold yp;rw[e]
 exact⟨t,off,this,by unfold lW;rw[this];simp[jmm]⟩
def jt8 (h:jhi w A B):∃t off,yp w 6=#[.iface t (.pointer (some (AD B off)))]/\lW w A B 6=#[.iface t (.pointer (some (AD (if A=B then OD1 else OD2) off)))]:=by
 obtain⟨t,u,off,e⟩:=h.er
 have:yp w 6=#[.iface t (.pointer (some (AD B off)))]:=by unfold yp;rw[e]
 exact⟨t,off,this,by unfold lW;rw[this];simp[jmm]⟩
def jmo (a:r≠5) (b:r≠6):lW w A B r=yp w r:=by
 unfold lW;simp only[a,b,if_false]
def jhi.low (h:jhi w A B):jph 7 ok1 gl1 (zW w A B) h.ob (lW w A B):=by
 refine⟨rfl,λr g=>?_⟩;show VA ok1 _ (lW w A B r) (yp w r);by_cases a:r=5
 .subst a;obtain⟨t,off,b,c⟩:=jt9 h;rw[b,c];exact Arr.one (.iface _ (.ptr ⟨by simp[jkh,oz,gl1,odd,OD1,zW],rfl,rfl⟩))
 by_cases d:r=6
 .subst d;obtain⟨t,off,b,c⟩:=jt8 h;rw[b,c];refine Arr.one (.iface _ (.ptr ⟨?_,rfl,rfl⟩));by_cases q:A=B
  .subst q;simp[jkh,oz,gl1,odd,OD1,zW]
  simp[jkh,oz,gl1,odd,OD1,OD2,zW,q]
 rw[jmo a d];exact h.flat r _ _ _ (jkp g) a d (h.at_ (jkp g)) _ (jpf _)
def jhi.lone (h:jhi w A B) {W:Wl} (k:jj5 7 gl1 (zW w A B) (lW w A B) W):Gl W:=by
 have c:∀r,r<=7->∃f,W.heap[r]?=some (.cells (lW w A B r) (jj9 w r) f):=λr d=>k.gl r (decide_eq_true d)
 have l:∀r i v,r<=7->r≠5->r≠6->w.cell? (AD r i)=some v->W.cell? (AD r i)=some v:=λr i v d n o e=>by
  obtain⟨f,a⟩:=c r d;rw[jmo n o]at a;unfold World.cell? at e ⊢;rw[h.at_ d]at e;rw[a];exact e
 obtain⟨s,p,b,u,x,m,q⟩:=h.gl;refine⟨Nat.le_of_lt k.size,l _ _ _ oj oj oj p,?_,?_,?_,m,l _ _ _ oj oj oj q⟩
 .unfold Lib.TabIs World.var? at b ⊢;rw[qr1]at b ⊢;simp only[Option.bind_some]at b ⊢;obtain⟨f,a⟩:=c 1 oj;rw[jmo oj oj]at a;rw[h.at_ oj]at b;rw[a];exact b
 .obtain⟨f,a⟩:=c 5 oj;obtain⟨t,off,_,j⟩:=jt9 h;rw[j]at a;exact⟨t,.pointer (some (AD OD1 off)),by simp[World.cell?,a]⟩
 obtain⟨f,a⟩:=c 6 oj;obtain⟨t,off,_,j⟩:=jt8 h;rw[j]at a;exact⟨t,.pointer (some (AD (if A=B then OD1 else OD2) off)),by simp[World.cell?,a]⟩
end
section
open _root_.Go.Proofs.Tryz
def ju2 (s v:By):Prop:=∃out,jad s out/\v=bya out
def LoW (G:Wl) (A B:Nat) (rd:Np) (w:Wl):Prop:=LoC gl1 (zW G A B) rd w
def jth:∃fn,PR.funcs[6]?=some fn/\fn.results=#[.tmp 2]:=⟨_,func6,oh⟩
variable {G:Wl}
def jpo (h:jhi G A B) {H:Vl->Wv}:jgh (LoW G A B) ju2 H:=by
 intro s E I own rd J w b rest g i j k l;obtain⟨fn,m,c⟩:=jth;refine jqu (Good:=λe=>∃v,e=.returned v/\∃t,v=.string t/\ju2 s t) jup h.low (f:=6) oh m c (args:=#[.string s]) (Arr.one (.string s)) (os:=w.os) (λW d _=>?_) g (λ_=>i) j rfl k λn w' e o p u x=>?_
 .refine(quu s oe W (h.lone d)).mono λe w' ⟨y,z,C,D⟩=>?_;subst z;refine⟨λq=>oA,λq F a=>(by cases a;rfl),⟨_,rfl,_,rfl,y,C,rfl⟩,λr c=>D.block r ?_⟩;have:=d.size;omega
 obtain⟨v,rfl,a⟩:=o;exact l n w' v a p u x
end
def jtl:qa9 (bya [120])=[bya [120]]:=oh
def ju4:qd8 (qcb 2 2) [bya [120]] [101,114,114,111,114,32,51,10] (qcb 2 2):=by
 have a:qas (qcb 2 2) (bya [120]) (qcb 2 2) (qgt 3):=by
  unfold qas;rw[jtl];dsimp only;rw[show qc9.idxOf? [120]=none from oj];exact⟨rfl,rfl⟩
 have h:=qd8.snoc .nil a;unfold qgt at h;rw[show Lib.itoa 3=[51] by simp[Lib.itoa,Lib.decDigits]]at h;exact h
def ju9:jk9 ju2:=by
 refine⟨λs v d ⟨b,⟨A,h⟩,a⟩ ⟨f,⟨B,k⟩,c⟩=>?_,λv ⟨b,⟨A,h⟩,a⟩=>?_⟩
 .rw[a,c,(qd8.det h k).2]
 have e:qfq (⟨#[120,10]⟩:By).data.toList=[[120]]:=oj;rw[e]at h;rw[a,(qd8.det h ju4).2]
variable {i:Wl} {C D:Nat}
def jua:q10 (LoW i C D):=λrd w b a _ h=>LoC.later h a
def jto:jgz (LoW i C D):=λrd b w a h=>⟨h.1,λr g=>a _ (h.2 r g)⟩
def jsw (h:jhi i C D):LoW i C D (·<i.heap.size) i:=by
 refine⟨h.co,λs g=>?_⟩;obtain g|⟨r,o,rfl⟩:=g
 .exact(mw.1 (h.at_ (jkp g))).1
 obtain⟨d,t,e,_⟩:=h.co.od r o;exact(mw.1 e).1
end Go.Proofs.YtbfkeoagmajcpaaGreatDoor
