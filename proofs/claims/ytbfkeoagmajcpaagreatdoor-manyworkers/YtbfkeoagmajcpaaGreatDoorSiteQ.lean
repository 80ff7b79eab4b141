import Derived.Test.YtbfkeoagmajcpaaGreatDoorSiteP
import Derived.DyingOn
set_option linter.defProp false
set_option linter.unusedSectionVars false
set_option linter.unusedSimpArgs false
set_option linter.unusedVariables false
namespace Go.Proofs.YtbfkeoagmajcpaaGreatDoor
variable {A B:String->Bool} {E:Env} {G r:Nat} {P:Pq} {Post:Vl->Wv} {R:Fm->Wv} {c:Cfg} {e s:Tp} {fr:Fm} {fz:Nat->Nat×Nat} {gl:Nat->Bool} {k:List Item} {l:List Nat} {rd:Np} {w:Wl}
section
def jka (P:Pq) (f:Fi) (post:Ending->Wv) (B:Fm) (w:Wl):Prop:=B.fn=f/\∃e,e≠.outgrown/\B.leaving P w e/\post e w
def Inv.of_calls {f:Fi} {args:Av} {post:Ending->World->Prop} (h:∀t,Calls P f args (At w t 0) λe w'=>e≠.outgrown/\post e w'):
 Inv P (jka P f post) ⟨Frame.enter P f args .normal,[c0],w⟩ []:=λt _=>by
 obtain⟨e,w',B,⟨b,g⟩,i,j,a⟩:=h t [c0];cases e with
 |outgrown=>exact absurd rfl b
 |returned v=>
  obtain⟨n,d⟩:=(i:Steps _ _ _);exact⟨n,B,w',d,⟨rfl,a.2.1,by rw[a.1];simp⟩,j,_,b,a,g⟩
 |panicked l=>
  obtain⟨n,d⟩:=(i:Steps _ _ _);exact⟨n,B,w',d,⟨rfl,a.2.1,by rw[a.1];simp⟩,j,_,b,a,g⟩
def js6 (l:List PanicEntry) (w:Wl):∃o w',step P (lone {c0 with mode:=.panicking l} [] w)=.ended o w':=
 ⟨_,_,step_lone_ended (by simp[stepG,unwind,callDeferred,c0];exact⟨rfl,rfl⟩)⟩
variable {B:Fm}
def jsu (g:B.mode≠.run) (b:B.defers=[]) (i:B.kind=.normal):(∃o w',step P (lone B [c0] w)=.ended o w')\/∃l w',step P (lone B [c0] w)=.next (lone {c0 with mode:=.panicking l} [] w'):=by
 have d:∀v a,doReturn P true B [c0] none v a=.go (G0 {c0 with mode:=.panicking []} []) a:=λv a=>by unfold doReturn;rw[i];rfl
 cases e:B.mode with
 |run=>exact absurd e g
 |panicking l=>
  by_cases f:B.catches P=true
  .exact .inl ⟨_,_,step_lone_ended (by simp[stepG,unwind,e,b,f];exact⟨rfl,rfl⟩)⟩
  refine .inr ⟨l++[],w,step_lone_go ?_⟩;simp only[stepG,unwind,e,b,f];rfl
 |returning=>
  cases hf:P.funcs[B.fn]?with
  |none=>exact .inr ⟨[],w,step_lone_go (by simp only[stepG,e,unwind,b,hf];rw[d];rfl)⟩
  |some fn=>
   cases hr:(results fn B.tmps).run P w with
   |ok v a=>exact .inr ⟨[],a,step_lone_go (by simp only[stepG,e,unwind,b,hf,Sem.runT_eq,hr,GStep.bare_after];rw[d];rfl)⟩
   |halt h a=>cases h<;>exact .inl ⟨_,_,step_lone_ended (by simp[stepG,unwind,e,b,hf,hr];exact⟨rfl,rfl⟩)⟩
def jp9 (d:B.mode≠.run) (f:B.defers=[]) (g:B.kind=.normal) (n:Nat) (b:Fm) (w':Wl):runN P (n+1) (lone B [c0] w)≠.next (lone b [c0] w'):=by
 unfold runN;obtain⟨o,a,e⟩|⟨l,a,e⟩:=jsu (P:=P) (w:=w) d f g
 .rw[e];intro h;cases h
 rw[e];cases n with
 |zero=>
  intro h
  have:lone {c0 with mode:=.panicking l} [] a=lone b [c0] w':=by unfold runN at h;injection h
  obtain⟨_,i,_⟩:=jih this;cases i
 |succ n=>
  obtain⟨o,k,j⟩:=js6 (P:=P) l a;show runN P (n+1) _≠_;unfold runN;rw[j];intro h;cases h
def Inv.out {a:Ans} (h:Inv P R c a) (d:Out c.fr c.cs) (f:c.fr.kind=.normal) {t:Nat->Question->Nat} (g:Agr t 0 a):R c.fr (At c.w t a.length):=by
 obtain⟨n,B,w',b,p,i⟩:=h t g;obtain⟨j,k,l⟩:=d;rw[j]at b;cases n with
 |zero=>
  have e:lone c.fr [c0] (At c.w t a.length)=lone B [c0] w':=by unfold runN at b;injection b
  obtain⟨m,_,o⟩:=jih e;rw[m,o];exact i
 |succ n=>exact absurd b (jp9 l k f n B w')
def jkn (l:Ans):Nat->Question->Nat:=λi _=>(l[i]?.map (·.2)).getD 0
def jib (l:Ans):Agr (jkn l) 0 l:=λi x e=>by simp[jkn,e]
def jjk {g:Gn} (h:g.dyingOn P) (a:Fm) (b:List Fm):∀(n:Nat) {g:Gn} (w w':Wl),g.dyingOn P->runN P n (oneG g w)≠.next (lone a b w')
 |0,g,w,w',hg=>λe=>by
  have e:oneG g w=lone a b w':=by unfold runN at e;injection e
  obtain⟨_,d,f,_⟩:=hg;unfold oneG lone at e;simp at e;rw[e.2]at f;cases f
 |n+1,g,w,w',hg=>by
  unfold runN;obtain⟨k,i,e,j⟩|⟨o,i,e,_⟩:=step_dyingOn (P:=P) (w:=w) hg
  .rw[e];exact jjk h a b n i w' j
  rw[e];intro h;cases h
def Inv.no_doom {a ans:Ans} (h:Inv P R c a) (p:¬Out c.fr c.cs) (q:∀t d,Agr t d ans->y7 (stepG P true (G0 c.fr c.cs) (At c.w t d)).bare):False:=by
 have i:=jib (a++ans);generalize jkn (a++ans)=t at i;obtain⟨r,j⟩:=i.app;rw[mF]at j;obtain⟨n,B,w',b,k,A⟩:=h t r;have f:=q t _ j;cases n with
 |zero=>
  have e:lone c.fr c.cs (At c.w t a.length)=lone B [c0] w':=by unfold runN at b;injection b
  obtain⟨s,u,_⟩:=jih e;rw[<-s,<-u]at k;exact p k
 |succ n=>
  unfold runN at b;cases hs:stepG P true (G0 c.fr c.cs) (At c.w t a.length)with
  |ended o w1 es=>
   rw[step_lone_ended (o:=o) (w':=w1) (by show (stepG P true (G0 c.fr c.cs) (At c.w t a.length)).bare=_;rw[hs];rfl)]at b;cases b
  |go g w1 es=>
   rw[hs]at f;obtain⟨d,v,x,y,l⟩:=f;have m:g.dyingOn P:=⟨.inl l,d,v,x,by rw[y];exact NoEnter.nil P⟩
   have e:Go.step P (lone c.fr c.cs (At c.w t a.length))=.next (oneG g w1):=by
        rw[Go.step,stepT,move_lone];have z:stepG P true {frame:=c.fr,callers:=c.cs,status:=.running,dying:=none} (At c.w t a.length)=.go g w1 es:=hs;simp[runT,lone,oneG,Array.swapAt!,z,l]
   rw[e]at b;exact jjk m B [c0] n w1 w' m b
  |_=>rw[hs]at f;exact f.elim
end
section
variable {ok:Fi->Bool} {F:Nat->Bool}
structure Cv (ok:Fi->Bool) (B:String->Bool) (F:Nat->Bool) (P:Pq) (A:Array Oper) (C E:Tmp) (s e:Tp) (c:Int) (D y:Oper):Prop where
 a0:A[0]?=some D
 a1:A[1]?=some y
 d0:D.dst=some C
 p0:D.op=.buildSlice s 1 #[(0,.const (.int .u8 c))]
 g0:D.guard=none
 d1:y.dst=some E
 p1:y.op=.convert s s (.tmp C)
 g1:y.guard=none
 us:P.underlying s=some (.slice e)
 ue:jl6 P e=true
 rest:∀n x,2<=n->A[n]?=some x->jf7 ok B F P x.op=true
def juj {A:Array Oper} (h:cvR ok B F P A false=true):∃C E s e c D y,Cv ok B F P A C E s e c D y:=by
 unfold cvR at h;simp only[Bool.not_false,Bool.true_and,Bool.and_eq_true]at h;obtain⟨d,b⟩:=h;have rest:∀n x,2<=n->A[n]?=some x->jf7 ok B F P x.op=true:=λn x g e=>by
  have:=mW.1 b n (mT.2 (mw.1 e).1);rw[Bool.or_eq_true,decide_eq_true_eq,e]at this;exact this.resolve_left oe
 clear b;obtain⟨x,a⟩:=Option.isSome_iff_exists.1 d;unfold jr9 at a;split at a
 .next D y a0 a1=>
  split at a
  .next C s ps E s1 s2 t d0 p0 g0 d1 p1 g1=>
   split at a
   .next c e hp us=>
    split at a
    .next hc=>
     obtain⟨rfl,rfl,rfl,f⟩:=hc
     have:ps=#[(0,.const (.int .u8 c))]:=by apply Array.toList_inj.1;exact hp
     subst this;exact⟨_,_,_,_,_,_,_,a0,a1,d0,p0,g0,d1,p1,g1,us,f,rest⟩
    cases a
   cases a
  cases a
 cases a
variable {n:Nat}
def jl5 (h:2<=n):∃l,List.range n=0::1::l/\∀m∈l,2<=m:=by
 obtain⟨m,rfl⟩:=Nat.exists_eq_add_of_le h;refine⟨(List.range m).map (2+·),?_,λk b=>?_⟩
 .rw[List.range_add];rfl
 obtain⟨a,_,rfl⟩:=List.mem_map.1 b;omega
def jnh (h:jl6 P e=true):P.underlying e=some (.int .u8)/\∃i,P.info? e=some i/\i.size=1/\i.zero=some (.int .u8 0):=by
 unfold jl6 at h;rw[Bool.and_eq_true]at h;obtain⟨b,a⟩:=h;split at b
 .next u=>
  refine⟨u,?_⟩;split at a
  .next i hi=>
   rw[Bool.and_eq_true]at a;obtain⟨f,d⟩:=a;split at d
   .next z=>exact⟨i,hi,by simpa using f,z⟩
   cases d
  cases a
 cases b
def jpx (w:Wl):Vl:=.slice (PT w.heap.size) 1 1
def jp4 (d:P.underlying s=some (.slice e)) (f:jl6 P e=true) (c:Int) (W:Wl) (m:Array Event):
 (Instr.buildSlice s 1 #[(0,.int .u8 c)]).runT P W m=(.ok (jpx W) {W with heap:=W.heap.push (.cells #[.int .u8 c] e)},m):=by
 obtain⟨u,i,a,g,b⟩:=jnh f;unfold Instr.buildSlice;simp only[underlying,program,sizeOf,typeInfo,zeroValue,bind,Sem.bind,Sem.runT,d,pure];simp only[a,g,b,Sem.bind,Sem.runT];rw[if_neg oj,if_neg oj];simp only[a,b,Sem.bind,Sem.runT];have h:∀z:Vl,Instr.fill (λi=>some (i*1,1)) (Array.map (λx=>z.cells[x%z.cells.size]!) (Array.range (1*1))) [(0,.int .u8 c)]=some #[.int .u8 c]:=λz=>by
  have j:Array.range (1*1)=#[0]:=rfl;rw[j];simp[Instr.fill,Value.cells]
 rw[h];rfl
variable {x:Vl} {W:Wl}
def jrj (a:P.underlying s=some (.slice e)) (b:jl6 P e=true) (h:W.heap[r]?=some (.cells #[x] e (0,0))) (m:Array Event):
 (convert s s (.slice (PT r) 1 1)).runT P W m=(.ok (.slice (PT r) 1 1) (W.freeze (AD r 1) 1),m):=by
 obtain⟨u,i,f,g,j⟩:=jnh b;have d:W.shape? r=some (e,1):=by unfold World.shape?;rw[h];rfl
 unfold convert;simp only[underlying,program,bind,Sem.bind,Sem.runT,a,pure];simp only[a,Sem.bind,Sem.runT,beq_self_eq_true,u];simp only[u,Sem.bind,Sem.runT,markStringish,shape,bind,d,freeze,pure]
variable {W1:Wl}
def jpg {α β:Type} {m:Sem α} {f:α->Sem β} {a:α} {d b:Array Event} (h:m.runT P W d=(.ok a W1,b)):(m.bind f).runT P W d=(f a).runT P W1 b:=by
 rw[Sem.runT_bind',h]
variable {A:Array Oper} {C E:Tmp} {c:Int} {D y:Oper}
def js1 (h:Cv ok B F P A C E s e c D y):2<=A.size:=(mw.1 h.a1).1
def jnl (a:fr.mode=.run) {i:Nat} (b:fr.todo=.code (.region i A false)::k) (h:Bool) (j:List Fm) (W:Wl):
 stepG P h (G0 fr j) W=.go (G0 {fr with todo:=.inRegion A (List.range A.size)::k} j) W #[]:=by
 obtain⟨fn,tmps,todo,defers,mode,kind,d⟩:=fr;simp only at a b;subst a b;rfl
def jpd {o:Oper} {v:Vl} (d:fr.mode=.run) (a:fr.todo=.inRegion A (n::l)::k) (b:A[n]?=some o) (f:o.guard=none) (g:∀c,o.op≠.defer c) (i:(execOp fr.eval o).runT P W #[]=(.ok (.value v) W1,#[])) (q:Bool) (t:List Fm):
 stepG P q (G0 fr t) W=.go (G0 (fr.finish v) t) W1 #[]:=by
 have j:((A[n]?).map (Region.wanted · (yielded A fr.tmps))).getD false=true:=by
  rw[b];simp[Region.wanted,f]
 have m:fr.oper?=some o:=by unfold Frame.oper?;rw[a];exact b
 show stepG P q {frame:=fr,callers:=t,status:=.running,dying:=none} W=_;unfold stepG;simp only[d];unfold stepG.exec;simp only[a,j];show stepG.oper P true fr t none W=_;have p:stepG.oper P true fr t none W=stepG.apply P true fr t none (execOp fr.eval o) W:=by
  unfold stepG.oper;simp only[m];split
  .next h=>exact absurd h (g _)
  rfl
 rw[p];unfold stepG.apply;simp only[if_true,i];cases (fr.kind==.early)<;>simp only[if_true,if_false,Bool.false_eq_true,jfc,z8]<;>rfl
def jnx (h:Cv ok B F P A C E s e c D y) (g:fr.mode=.run) (a:fr.todo=.inRegion A (0::l)::k) (w:Bool) (z:List Fm) (W:Wl):
 stepG P w (G0 fr z) W=.go (G0 {fr with tmps:=fr.tmps.setIfInBounds C (jpx W),todo:=.inRegion A l::k} z) {W with heap:=W.heap.push (.cells #[.int .u8 c] e)} #[]:=by
 obtain⟨j,m,o,pos,p,t⟩:=D;have b:=h.d0;have d:=h.p0;have f:=h.g0;simp only at b d f;subst b d f;rw[jpd (v:=jpx W) (W1:={W with heap:=W.heap.push (.cells #[.int .u8 c] e)}) g a h.a0 rfl (λc q=>oA) ?_ w z]
 .unfold Frame.finish;rw[a];simp only[h.a0];rfl
 unfold execOp;have:=jp4 (P:=P) h.us h.ue c W #[];have i:Array.map (λx:Nat×Operand=>(x.1,fr.eval x.2)) #[(0,Operand.const (.int .u8 c))]=#[(0,.int .u8 c)]:=by simp[Frame.eval]
 show ((Instr.buildSlice s 1 (Array.map (λx:Nat×Operand=>(x.1,fr.eval x.2)) #[(0,Operand.const (.int .u8 c))])).bind λv=>Sem.pure (Next.value v)).runT P W #[]=_;rw[i,jpg this];rfl
def jnw (h:Cv ok B F P A C E s e c D y) (g:fr.mode=.run) (a:fr.todo=.inRegion A (1::l)::k) (i:fr.tmps.getD C undef=.slice (PT r) 1 1) (j:W.heap[r]?=some (.cells #[x] e (0,0))) (w:Bool) (z:List Fm):
 stepG P w (G0 fr z) W=.go (G0 {fr with tmps:=fr.tmps.setIfInBounds E (.slice (PT r) 1 1),todo:=.inRegion A l::k} z) (W.freeze (AD r 1) 1) #[]:=by
 obtain⟨m,o,p,pos,t,u⟩:=y;have b:=h.d1;have d:=h.p1;have f:=h.g1;simp only at b d f;subst b d f;rw[jpd (v:=.slice (PT r) 1 1) (W1:=W.freeze (AD r 1) 1) g a h.a1 rfl (λc q=>oA) ?_ w z]
 .unfold Frame.finish;rw[a];simp only[h.a1];rfl
 have:=jrj (P:=P) h.us h.ue j #[];unfold execOp;show ((convert s s (fr.tmps.getD C undef)).bind λv=>Sem.pure (Next.value v)).runT P W #[]=_;rw[i,jpg this];rfl
end
section
open Relation (TransGen)
variable {ok:Fi->Bool}
def jr1:y9 [c0]:=λx d l k e=>by rw[List.mem_singleton.1 d]at e;cases e
structure Sh (G:Nat) (ok:Fi->Bool) (P:Pq) (A:String->Bool) (gl:Nat->Bool) (Prot:PWm) (R:Fm->World->Prop) (base:List Fm) (p:Ren G) (c:Cfg) (C:Ans) (fr:Fm) (B:List Fm) (w:Wl):Prop where
 sk:SkR ok (j2 ok A gl P) [c0] base p c.fr c.cs fr B
 wr:WR ok (j2 ok A gl P) p c.w w
 wk:WK Prot p c.w
 fx:Fx gl p
 inv:Inv P R c C
variable {Prot:PWm} {base:List Fm} {p:Ren G} {C:Ans} {B:List Fm}
def At.self (w:Wl):At w w.tape w.drawn=w:=rfl
structure jnv (P:Pq) (main:Bool) (fr:Fm) (B:List Fm) (w:Wl) (fr1:Fm) (ds1:List Fm) (w1:Wl) (es:Array Event) (ansC:Ans):Prop where
 drew:jfk w w1 ansC
 tape:w1.tape=w.tape
 go:∀t d,Agr t d ansC->stepG P main (G0 fr B) (At w t d)=.go (G0 fr1 ds1) (At w1 t (d+ansC.length)) es
variable {B:List Fm}
def jnv.now {o:Bool} {d:Fm} {j:List Fm} {m:Wl} {q:Array Event} {n:Ans} (h:jnv P o fr B w d j m q n):stepG P o (G0 fr B) w=.go (G0 d j) m q:=by
 have:=h.go w.tape w.drawn h.drew.agr;rw[At.self,<-h.drew.drawn,<-h.tape,At.self]at this;exact this
def Sh.step (F:jhy G P ok A gl) (Q:ok RF=true->y9 base) (h:Sh G ok P A gl Prot R base p c C fr B w) (j:¬Out c.fr c.cs) (S:¬q11 ok A gl P c.fr) (main:Bool):
 ∃q x U m n d es o,jnv P main fr B w m n d es o/\Sh G ok P A gl Prot R base q x U m n d/\Gua Prot p q w d/\(∀e∈es,jlo Prot q e)/\jf8 P x c:=by
 obtain⟨ans,V|⟨o,q,y,d,H,N,m,n,es,W,X,Y,u,h4,h5,h6,h7⟩⟩:=jsa F h.fx (λr=>⟨jr1,Q r⟩) h.wr h.wk h.sk j S true main
 .exact(h.inv.no_doom j V).elim
 have O:jld P c ⟨H,N,y⟩ ans:=h6;exact⟨q,⟨H,N,y⟩,C++ans,m,n,d,es,o,⟨W,u.tape,h7⟩,⟨h5,X,Y,h.fx.mono u.le,h.inv.step O j⟩,u,h4,⟨ans,O⟩,j⟩
variable {f g:Nat×Nat}
def jgx.anti (a:jgx f g) (b:jgx g f):g=f:=by
 obtain e|⟨d,h⟩:=a
 .exact e
 obtain e|⟨j,m⟩:=b
 .exact e.symm
 exact Prod.ext oe oe
def jgx.le (a:jgx f g) (b:jjx f g):g=f:=by
 obtain⟨d,h⟩:=b;obtain e|⟨j,m⟩:=a
 .exact e
 exact Prod.ext oe oe
def Sh.prot (h:Sh G ok P A gl Prot R base p c C fr B w) {Q:PWm} (d:WK Q p c.w):Sh G ok P A gl Q R base p c C fr B w:=⟨h.sk,h.wr,d,h.fx,h.inv⟩
variable {a b:Fm} {cs:List Fm}
def SkR.kind_bot {d:Code->Bool} (h:SkR ok d [c0] base p a cs b B) (e:cs=[c0]):a.kind=.normal/\B=base:=by
 cases h with
 |bot _ k _=>exact⟨k,rfl⟩
 |up _ s=>exact absurd e λe=>by have:=s.long;simp at this e;rw[e.2]at this;simp at this
def SkR.len1 {d:Code->Bool} (h:SkR ok d [c0] base p a cs b B) (e:cs.length=1):cs=[c0]:=by
 cases h with
 |bot=>rfl
 |up _ s=>have:=s.long;simp at e;rw[e]at this;simp at this
def q11.rel {u:Code->Bool} (h:FrR ok u p a b):q11 ok A gl P a↔q11 ok A gl P b:=by
 have o:∀{x y:Fm},y.mode=.run->x.mode=.run->(∀c k,x.todo=.code c::k->∃n,y.todo=.code c::n)->q11 ok A gl P x->q11 ok A gl P y:=λF O d ⟨_,i,H,k,e,q⟩=>by
  obtain⟨n,N⟩:=d _ _ e;exact⟨F,i,H,n,N,q⟩
 have j:=h.mode;have d:=h.todo;constructor
 .intro s;have m:=s.1;rw[m]at j;refine o ?_ m (λc k e=>?_) s
  .generalize b.mode=x at j;cases j;rfl
  rw[e]at d;generalize b.todo=y at d;cases d with
  |cons hi _=>cases hi;exact⟨_,rfl⟩
 intro s;have m:=s.1;rw[m]at j;refine o ?_ m (λc k e=>?_) s
 .generalize a.mode=x at j;cases j;rfl
 rw[e]at d;generalize a.todo=y at d;cases d with
 |cons hi _=>cases hi;exact⟨_,rfl⟩
def jss (e:Tp) (c:Int):Obj:=.cells #[.int .u8 c] e (1,2)
def slM (r:Nat):Vl:=.slice (PT r) 1 1
def frM (fr:Fm) (ops:Array Oper) (D K:Tmp) (l:List Nat) (k:List Item) (r:Nat):Fm:={fr with tmps:=(fr.tmps.setIfInBounds D (slM r)).setIfInBounds K (slM r),todo:=.inRegion ops l::k}
def jkk {W:Wl} {x:Vl} (h:W.heap[r]?=some (.cells #[x] e (0,0))):Upd W (W.freeze (AD r 1) 1) r (.cells #[x] e (1,2)):=jh3 (a:=AD r 1) h oj
variable {T:Av} {t:Nat} {v:Vl}
def jn8 (h:t<T.size):(T.setIfInBounds t v).getD t undef=v:=by
 rw[mO,Array.getElem?_setIfInBounds,if_pos rfl,if_pos h];rfl
def jsm (h:¬t<T.size):(T.setIfInBounds t v).getD t undef=undef:=by
 rw[mO,Array.getElem?_setIfInBounds,if_pos rfl,if_neg h];rfl
variable {D K:Tmp} {z:Int} {J o1:Oper} {i:Nat}
def Sh.jump (h:Sh G ok P A gl Prot R base p c C fr B w) {u:Array Oper} (U:Cv ok A gl P u D K s e z J o1) (hm:fr.mode=.run) (ht:fr.todo=.code (.region i u false)::k) (hl:List.range u.size=0::1::l) (hl2:∀m∈l,2<=m):
 D<fr.tmps.size/\∃c3 past3,TransGen (jf8 P) c3 c/\(∀r,r<c.w.heap.size->c3.w.heap[r]?=c.w.heap[r]?)/\
  ∀V r',(∀a b,p.f a=some b->V.heap[b]?=w.heap[b]?)->V.os=w.os->w.heap.size<=r'->V.heap[r']?=some (jss e z)->
   ∃q:Ren G,Sh G ok P A gl Prot R base q c3 past3 (frM fr u D K l k r') B V/\∀a b,q.f a=some b->p.f a=some b\/b=r':=by
 have Y:=h.sk.top;obtain⟨F,n,j⟩:=c;simp only at Y ⊢;have H:F.mode=.run:=by
  have:=Y.mode;rw[hm]at this;generalize F.mode=x at this;cases this;rfl
 obtain⟨S,lt,hk⟩:∃S,F.todo=.code (.region i u false)::S/\LR (IR (j2 ok A gl P) p) S k:=by
  have:=Y.todo;rw[ht]at this;generalize F.todo=x at this;cases this with
  |cons hi hk=>cases hi;exact⟨_,rfl,hk⟩
 have hst:F.tmps.size=fr.tmps.size:=Y.tmps.size;let W1:Wl:={j with heap:=j.heap.push (.cells #[.int .u8 z] e)}
 let f1:Fm:={F with todo:=.inRegion u (0::1::l)::S}
 let f2:Fm:={F with tmps:=F.tmps.setIfInBounds D (slM j.heap.size),todo:=.inRegion u (1::l)::S}
 have at1:W1.heap[j.heap.size]?=some (.cells #[.int .u8 z] e (0,0)):=by simp[W1]
 have s1:jld P ⟨F,n,j⟩ ⟨f1,n,j⟩ []:=λt d _=>by
  show (stepG P true (G0 F n) (At j t d)).bare=_;rw[jnl H lt,hl];rfl
 have s2:jld P ⟨f1,n,j⟩ ⟨f2,n,W1⟩ []:=λt d _=>by
  show (stepG P true (G0 f1 n) (At j t d)).bare=_;rw[jnx (fr:=f1) (l:=1::l) (k:=S) U H rfl];rfl
 have J:∀{x:Fm} {y:List Fm},x.mode=.run->¬Out x y:=λhx q=>q.2.2 hx;have i2:=(h.inv.step s1 (J H)).step s2 (J H)
 have hsz:D<fr.tmps.size:=by
  by_cases q:D<fr.tmps.size
  .exact q
  refine(i2.no_doom (ans:=[]) (J H) λt d _=>?_).elim;obtain⟨dst,op,type,pos,after,guard⟩:=o1;have p1:=U.p1;have g1:=U.g1;simp only at p1 g1;subst p1 g1;have hv:f2.tmps.getD D undef=undef:=jsm (by rw[hst];exact q);have ew:((u[1]?).map (Region.wanted · (yielded u f2.tmps))).getD false=true:=by rw[U.a1];rfl
  have eo:f2.oper?=some ⟨dst,.convert s s (.tmp D),type,pos,after,none⟩:=U.a1;have run:(execOp f2.eval ⟨dst,.convert s s (.tmp D),type,pos,after,none⟩).runT P (At W1 t d) #[]=(.halt (.unsupported (.noEntry "convert/other")) (At W1 t d),#[]):=by
   show ((convert s s (f2.tmps.getD D undef)).bind λv=>Sem.pure (Next.value v)).runT P (At W1 t d) #[]=_;rw[hv,Sem.runT_bind'];unfold convert;simp only[underlying,program,bind,Sem.bind,Sem.runT,U.us,pure];rfl
  show y7 (stepG P true {frame:=f2,callers:=n,status:=.running,dying:=none} (At W1 t d)).bare;unfold stepG;simp only[show f2.mode=.run from H];unfold stepG.exec;simp only[show f2.todo=.inRegion u (1::l)::S from rfl,ew];have e1:stepG.oper P true f2 n none (At W1 t d)=stepG.apply P true f2 n none (execOp f2.eval ⟨dst,.convert s s (.tmp D),type,pos,after,none⟩) (At W1 t d):=by
   unfold stepG.oper;simp only[eo];cases f2.roundOf<;>rfl
  show y7 (stepG.oper P true f2 n none (At W1 t d)).bare;rw[e1];unfold stepG.apply;simp only[if_true,run];cases (f2.kind==.early)<;>trivial
 refine⟨hsz,?_⟩;have hv2:f2.tmps.getD D undef=slM j.heap.size:=jn8 (by rw[hst];exact hsz);have u3:=jkk at1;have s3:jld P ⟨f2,n,W1⟩ ⟨frM F u D K l S j.heap.size,n,W1.freeze (AD j.heap.size 1) 1⟩ []:=λt d _=>by
  show (stepG P true (G0 f2 n) (At W1 t d)).bare=_;rw[jnw (fr:=f2) (l:=l) (k:=S) (W:=At W1 t d) U H rfl hv2 at1]
  have:(At W1 t d).freeze (AD j.heap.size 1) 1=At (W1.freeze (AD j.heap.size 1) 1) t d:=by unfold World.freeze;split<;>rfl
  rw[this];rfl
 have old:∀r,r<j.heap.size->(W1.freeze (AD j.heap.size 1) 1).heap[r]?=j.heap[r]?:=λr N=>by
  rw[u3.off r (Nat.ne_of_lt N)];simp only[W1,Array.getElem?_push,Nat.ne_of_lt N,if_false]
 refine⟨_,C++[]++[]++[],.tail (.tail (.single ⟨⟨_,s3⟩,J H⟩) ⟨⟨_,s2⟩,J H⟩) ⟨⟨_,s1⟩,J H⟩,old,λV r' h1 h2 h3 h4=>?_⟩;have O:=h.wr;have nr:∀a,p.f a≠some r':=λa q=>by have:=(jhz O q).2;omega
 have N:p.f j.heap.size=none:=by
  cases q:p.f j.heap.size with
  |none=>rfl
  |some b=>exact absurd (jhz O q).1 (mM _)
 have low:G<=j.heap.size/\G<=r':=⟨O.low.1,Nat.le_trans O.low.2 h3⟩;have aa:=p.add_le nr low N;have hno:odd j.heap.size=false:=not_odd O.big;have ar:AR (p.add j.heap.size r' nr low) (AD j.heap.size 0) (AD r' 0):=⟨p.add_at nr low,rfl,rfl⟩;have w3s:r'<V.heap.size:=(mw.1 h4).1;have X:=Y.mono aa;have sz:(W1.freeze (AD j.heap.size 1) 1).heap.size=j.heap.size+1:=by rw[u3.size];simp[W1]
 refine⟨p.add j.heap.size r' nr low,⟨(h.sk.mono aa).put ⟨X.fn,(X.tmps.set D (.slice _ _ ar)).set K (.slice _ _ ar),.cons (.inRegion l λm hm x ex=>jkg (U.rest m x (hl2 m hm) ex)) (LR.mono (λ_ _=>IR.mono aa) hk),X.defers,X.mode,X.kind,X.kinds,X.round⟩ rfl rfl,⟨λa b q=>?_,?_,⟨?_,?_⟩,?_⟩,⟨λr N=>?_,λr f N=>?_,λr o N=>?_⟩,h.fx.mono aa,i2.step s3 (J H)⟩,λa b q=>?_⟩
 .by_cases ha:a=j.heap.size
  .subst ha
   have:b=r':=by simpa[Ren.add]using q.symm
   subst this;exact⟨_,_,u3.at_,h4,.nor hno (.cells _ (Arr.one (.int _ _)) ⟨.inr ⟨oj,oj,oj⟩,.inr oj⟩)⟩
  have q':p.f a=some b:=by simpa[Ren.add,ha]using q
  obtain⟨o,o',Q,k2,k3⟩:=O.dom a b q';exact⟨o,o',(old a (jhz O q').1).trans Q,(h1 a b q').trans k2,k3.mono aa⟩
 .show V.os=(W1.freeze (AD j.heap.size 1) 1).os;rw[h2,O.os,u3.os]
 .show G<=(W1.freeze (AD j.heap.size 1) 1).heap.size;have:=O.low.1;rw[sz];exact Nat.le_succ_of_le this
 .omega
 .show OD2<(W1.freeze (AD j.heap.size 1) 1).heap.size;have:=O.big;rw[sz];exact Nat.lt_succ_of_lt this
 .obtain⟨x,t,f,Q,k2⟩:=h.wk.wh r N;exact⟨x,t,f,(old r (mw.1 Q).1).trans Q,k2⟩
 .obtain⟨x,t,f,Q,k2⟩:=h.wk.up r f N;exact⟨x,t,f,(old r (mw.1 Q).1).trans Q,k2⟩
 .obtain⟨Q,k2⟩:=h.wk.kp r o N;have:=(mw.1 Q).1;exact⟨(old r this).trans Q,by simp[Ren.add,Nat.ne_of_lt this,k2]⟩
 by_cases ha:a=j.heap.size
 .exact .inr (by simpa[Ren.add,ha]using q.symm)
 exact .inl (by simpa[Ren.add,ha]using q)
structure jhw where
 X:Nat->Av
 T:Nat->Tp
 ob:Nat->Nat
 n:Nat->Nat
 on:Nat->Bool
def oz (Z:jhw) (r:Nat):Bool:=odd r&&Z.on r
def jf3 {Z:jhw} (h:oz Z r=true):odd r=true:=(Bool.and_eq_true _ _▸h:_/\_).1
variable {Z:jhw}
def inL (gl:Nat->Bool) (Z:jhw) (s:Nat):Prop:=gl s=true\/∃r,oz Z r=true/\s=Z.ob r
structure jpt (gl:Nat->Bool) (Z:jhw) (fz:Nat->Nat×Nat) (w:Wl):Prop where
 gl:∀r,gl r=true->w.heap[r]?=some (.cells (Z.X r) (Z.T r) (fz r))
 od:∀r,oz Z r=true->∃d t,w.heap[Z.ob r]?=some (.cells d t (0,0))/\d.size=Z.n r+1
structure jh7 (G:Nat) (gl:Nat->Bool) (Z:jhw):Prop where
 big:G<OD1
 le:∀r,gl r=true->r<=G
 ne:Z.on OD1=true->Z.on OD2=true->Z.ob OD1≠Z.ob OD2
 ngl:∀r,oz Z r=true->gl (Z.ob r)=false
 ge:∀r,oz Z r=true->G<=Z.ob r
def jvx (gl:Nat->Bool):PWm:=⟨λr=>gl r=true,λ_=>none,λ_=>none⟩
def pNo:PWm:=⟨λ_=>False,λ_=>none,λ_=>none⟩
def ju7 (gl:Nat->Bool) (w:Wl):PWm:=⟨λ_=>False,λr=>if gl r then (match w.heap[r]?with|some (.cells _ _ f)=>some f|_=>none)else none,λ_=>none⟩
def WK.low (h:WK Prot p w) (j:∀r,gl r=true->∃x t f,w.heap[r]?=some (.cells x t f)):WK (ju7 gl w) p w:=by
 refine⟨λ_ h=>h.elim,λr f e=>?_,λr o e=>oJ⟩;simp only[ju7]at e;split at e
 .next g=>
  obtain⟨x,t,m,d⟩:=j r g;rw[d]at e;cases e;exact⟨x,t,_,d,.inl rfl⟩
 cases e
def WK.no:WK pNo p w:=⟨λ_ h=>h.elim,λ_ _ e=>oJ,λr o e=>oJ⟩
def jfg (gl:Nat->Bool) (fz:Nat->Nat×Nat) (w:Wl):Prop:=∀r,gl r=true->∃c t,w.heap[r]?=some (.cells c t (fz r))
def jow (e:Ending) (b:Fm):Fm:=match e with
 |.returned v=>b.finish v
 |.panicked l=>b.raise l
 |.outgrown=>b
def jn6 {j:Code->Bool} {o y:Obj} (h:OD ok j p r o y) {d:Av} {t:Tp} (e:y=.cells d t g) (m:odd r=false):∃c f,o=.cells c t f/\jjx f g:=by
 cases h with
 |odd q=>rw[m]at q;cases q
 |nor _ x=>
  subst e;cases x with
  |cells t hc hf=>exact⟨_,_,rfl,hf⟩
def jh7.nod (H:jh7 G gl Z) (g:gl r=true):odd r=false:=by
 rw[<-Bool.not_eq_true];intro q;have:=H.le r g;have:=H.big;have:OD2=OD1+1:=rfl;obtain e|e:=jhb q<;>omega
structure Pr (G:Nat) (ok:Fi->Bool) (P:Pq) (A:String->Bool) (gl:Nat->Bool) (Z:jhw) (M L:Fm->World->Prop) (base:List Fm) (mine:Nat->Prop) (I E:Cfg) (fr:Fm) (B:List Fm) (w:Wl):Prop where
 a:∃pA pastA,Sh G ok P A gl (jvx gl) M base pA I pastA fr B w/\∀r s,pA.f r=some s->mine s\/(gl s=true/\r=s)\/(oz Z r=true/\s=Z.ob r)
 b:∃pB pastB,Sh G ok P A gl pNo L base pB E pastB fr B w/\∀r s,pB.f r=some s->mine s\/(gl s=true/\r=s)\/(oz Z r=true/\s=Z.ob r)
 low:∀r,gl r=true->∃f,w.heap[r]?=some (.cells (Z.X r) (Z.T r) f)
 apart:∀s,inL gl Z s->¬mine s/\s<w.heap.size
 mlt:∀s,mine s->s<w.heap.size
variable {M L:Fm->Wv} {mine:Np} {I E:Cfg}
def jkb {p q:Ren G} {F:Code->Bool} {Y:List Fm} {d:Fm} (h:SkR ok F [c0] base p a cs b B) (j:SkR ok F [c0] base q d Y b B) (O:Out d Y):Out a cs:=by
 obtain⟨Q,S,H⟩:=O;obtain⟨_,U⟩:=j.kind_bot Q;have N:=h.base_le;rw[U]at N;have V:cs=[c0]:=h.len1 (by simp at N;omega);have n:=j.top.defers;have o:=h.top.defers;rw[S]at n;refine⟨V,?_,λm=>?_⟩
 .generalize a.defers=x at o;generalize b.defers=y at n o;cases n;cases o;rfl
 have u:=j.top.mode;have X:=h.top.mode;rw[m]at X;generalize b.mode=y at u X;cases X;generalize d.mode=z at u H;cases u;exact H rfl
def Pr.step (F:jhy G P ok A gl) (H:jh7 G gl Z) (U:ok RF=true->y9 base) (h:Pr G ok P A gl Z M L base mine I E fr B w) (ho:¬Out I.fr I.cs) (hns:¬q11 ok A gl P fr) (main:Bool):
 ∃V N W Y d es ansC,jnv P main fr B w W Y d es ansC/\Pr G ok P A gl Z M L base (λb=>mine b\/(w.heap.size<=b/\b<d.heap.size)) V N W Y d/\jf8 P V I/\jf8 P N E/\
  (∀r,gl r=true->jgk w.heap[r]? d.heap[r]?)/\(∀r,gl r=true->jfp E.w.heap[r]? N.w.heap[r]?)/\w.heap.size<=d.heap.size/\(∀b,b<w.heap.size->¬mine b->gl b=false->d.heap[b]?=w.heap[b]?)/\d.os=w.os/\d.output=w.output/\
  ∀e∈es,EvG (λb=>mine b\/(w.heap.size<=b/\b<d.heap.size)) (inL gl Z) e:=by
 obtain⟨pA,pastA,hA,iA⟩:=h.a;obtain⟨pB,pastB,u,iB⟩:=h.b;have hoB:¬Out E.fr E.cs:=λq=>ho (jkb hA.sk u.sk q)
 have lowB:∀r,gl r=true->∃x t f,E.w.heap[r]?=some (.cells x t f):=λr g=>by
  obtain⟨o,o',O,y,h3⟩:=u.wr.dom r r (u.fx r g);obtain⟨f,n⟩:=h.low r g;rw[n]at y;obtain⟨c,f,rfl,_⟩:=jn6 h3 (mR y).symm (H.nod g);exact⟨_,_,_,O⟩
 obtain⟨qA,V,pastA1,W,Y,d,es,ansC,eA,hA1,j,evA,nA⟩:=hA.step F U ho (λs=>hns ((q11.rel hA.sk.top).1 s)) main;obtain⟨qB,N,pastB1,fr2,ds2,w2,es2,ansC2,eB,hB1,gB,evB,nB⟩:=(u.prot (u.wk.low (gl:=gl) lowB)).step F U hoB (λs=>hns ((q11.rel u.sk.top).1 s)) main;have Q:=eA.now;rw[eB.now]at Q;have e1:fr2=W/\ds2=Y/\w2=d:=by
  simp only[GStep.go.injEq,G0,Goroutine.mk.injEq]at Q;exact⟨Q.1.1,Q.1.2.1,Q.2.1⟩
 obtain⟨rfl,rfl,rfl⟩:=e1;have same:∀r,gl r=true->jgk w.heap[r]? w2.heap[r]?:=λr g=>by
  obtain⟨f,e⟩:=h.low r g;refine j.out r (mw.1 e).1 λr' S=>?_;obtain o|⟨_,rfl⟩|⟨o,rfl⟩:=iA r' r S
  .exact absurd o (h.apart r (.inl g)).1
  .exact g
  rw[H.ngl r' o]at g;cases g
 have im:∀{p q:Ren G} {Prot:PWm},(∀r s,p.f r=some s->mine s\/(gl s=true/\r=s)\/(oz Z r=true/\s=Z.ob r))->Gua Prot p q w w2->(∀{r s},q.f r=some s->s<w2.heap.size)->∀r s,q.f r=some s->(mine s\/(w.heap.size<=s/\s<w2.heap.size))\/(gl s=true/\r=s)\/(oz Z r=true/\s=Z.ob r):=λ{p q Prot} i g n r s e=>by
  obtain S|S:=g.fresh r s e
  .exact(i r s S).imp .inl id
  exact .inl (.inr ⟨S,n e⟩)
 have imA:=im iA j λe=>(jhz hA1.wr e).2;have imB:=im iB gB λe=>(jhz hB1.wr e).2
 have low1:∀r,gl r=true->∃f,w2.heap[r]?=some (.cells (Z.X r) (Z.T r) f):=λr g=>by
  obtain⟨f,e⟩:=h.low r g;have:=same r g;rw[e]at this;generalize w2.heap[r]?=o at this;cases this with
  |refl=>exact⟨f,rfl⟩
  |cells=>exact⟨_,rfl⟩
 refine⟨V,N,fr2,ds2,w2,es,ansC,eA,⟨⟨qA,pastA1,hA1,imA⟩,⟨qB,pastB1,hB1.prot WK.no,imB⟩,low1,λs g=>?_,λs o=>?_⟩,nA,nB,same,λr g=>λc t f e=>?_,j.size,λb U hn hg=>?_,j.os,j.output,λe he=>?_⟩
 .obtain⟨a1,a2⟩:=h.apart s g;exact⟨λo=>o.elim a1 λo=>oe,mN a2 j.size⟩
 .obtain o|⟨_,o⟩:=o
  .exact mN (h.mlt s o) j.size
  exact o
 .exact hB1.wk.up r f (by simp only[ju7,g,if_true,e])
 .by_cases hx:∃r,pA.f r=some b
  .obtain⟨r,hr⟩:=hx;obtain o|⟨g,_⟩|⟨o,_⟩:=iA r b hr
   .exact absurd o hn
   .rw[hg]at g;cases g
   exact j.odd r b (jf3 o) hr
  exact j.off b U λr hr=>hx ⟨r,hr⟩
 have:=evA e he;unfold jlo at this;unfold EvG;cases n:e.loc with
 |cell a=>
  simp only[n]at this;obtain⟨r,O,y⟩:=this;have nw:gl r=true\/odd r=true->e.write=false:=λo=>by
   cases hw:e.write with
   |false=>rfl
   |true=>
    obtain⟨q1,q2⟩:=y hw;obtain o|o:=o
    .exact absurd o q1
    rw[q2]at o;cases o
  obtain o|⟨g,rfl⟩|⟨o,e⟩:=imA r _ O
  .exact .inl o
  .exact .inr ⟨.inl g,nw (.inl g)⟩
  exact .inr ⟨.inr ⟨r,o,e⟩,nw (.inr (jf3 o))⟩
 |obj s=>
  simp only[n]at this;obtain⟨h0,r,O,y,h3⟩:=this;obtain o|⟨g,rfl⟩|⟨o,_⟩:=imA r _ O
  .exact⟨o,h0⟩
  .exact absurd g y
  rw[jf3 o]at h3;cases h3
 |output=>trivial
 |goroutines=>simp only[n]at this
 |mark m=>simpa only[n]using this
def Pr.jump (h:Pr G ok P A gl Z M L base mine I E fr B w) {n:Array Oper} (H:Cv ok A gl P n D K s e z J o1) (N:fr.mode=.run) (O:fr.todo=.code (.region i n false)::k) (Q:List.range n.size=0::1::l) (S:∀m∈l,2<=m):
 D<fr.tmps.size/\∃u j,TransGen (jf8 P) u I/\TransGen (jf8 P) j E/\(∀r,gl r=true->j.w.heap[r]?=E.w.heap[r]?)/\
  ∀d r',(∀b,mine b->d.heap[b]?=w.heap[b]?)->(∀b,inL gl Z b->d.heap[b]?=w.heap[b]?)->d.os=w.os->w.heap.size<=r'->d.heap[r']?=some (jss e z)->
   Pr G ok P A gl Z M L base (λb=>mine b\/b=r') u j (frM fr n D K l k r') B d:=by
 obtain⟨pA,pastA,hA,U⟩:=h.a;obtain⟨pB,pastB,y,V⟩:=h.b;obtain⟨hsz,u,pA3,a1,_,a3⟩:=hA.jump H N O Q S;obtain⟨_,j,pB3,b1,b2,b3⟩:=y.jump H N O Q S;refine⟨hsz,u,j,a1,b1,λr g=>b2 r (jhz y.wr (y.fx r g)).1,λd r' W k2 X Y F=>?_⟩;have nm:∀{p:Ren G},(∀r s,p.f r=some s->mine s\/(gl s=true/\r=s)\/(oz Z r=true/\s=Z.ob r))->∀r s,p.f r=some s->d.heap[s]?=w.heap[s]?:=λ{p} i r s e=>by
  obtain o|⟨g,_⟩|⟨o,e⟩:=i r s e
  .exact W s o
  .exact k2 s (.inl g)
  exact k2 s (.inr ⟨r,o,e⟩)
 have im:∀{p q:Ren G},(∀r s,p.f r=some s->mine s\/(gl s=true/\r=s)\/(oz Z r=true/\s=Z.ob r))->(∀a b,q.f a=some b->p.f a=some b\/b=r')->∀r s,q.f r=some s->(mine s\/s=r')\/(gl s=true/\r=s)\/(oz Z r=true/\s=Z.ob r):=λ{p q} i g r s e=>by
  obtain e|e:=g r s e
  .exact(i r s e).imp .inl id
  exact .inl (.inr e)
 obtain⟨qA,sA,gA⟩:=a3 d r' (nm U) X Y F;obtain⟨qB,sB,gB⟩:=b3 d r' (nm V) X Y F;refine⟨⟨qA,pA3,sA,im U gA⟩,⟨qB,pB3,sB,im V gB⟩,λr g=>by rw[k2 r (.inl g)];exact h.low r g,λx g=>?_,λx o=>?_⟩
 .obtain⟨q1,q2⟩:=h.apart x g;refine⟨λq=>q.elim q1 λq=>oe,?_⟩;have:=k2 x g;rw[my q2]at this;exact(mw.1 this).1
 obtain o|rfl:=o
 .have:=W x o;rw[my (h.mlt x o)]at this;exact(mw.1 this).1
 exact(mw.1 F).1
def Pr.still (F:jhy G P ok A gl) (H:jh7 G gl Z) (d:ok RF=true->y9 base) (hR:∀fr w,L fr w->jfg gl fz w) (Q:Acc (TransGen (jf8 P)) E):
 ∀{mine:Nat->Prop} {I:Cfg} {fr:Fm} {B:List Fm} {w:Wl},Pr G ok P A gl Z M L base mine I E fr B w->(∀r,gl r=true->∃x t f,E.w.heap[r]?=some (.cells x t f)/\jgx (fz r) f)->jfg gl fz E.w:=by
 induction Q with
 |intro E _ V=>
  intro mine I fr B w h W;obtain⟨pA,pastA,hA,iA⟩:=h.a;obtain⟨pB,pastB,S,iB⟩:=h.b;by_cases U:Out E.fr E.cs
  .have:=hR _ _ (S.inv.out U (S.sk.kind_bot U.1).1 (jib pastB));exact this
  have hoA:¬Out I.fr I.cs:=λq=>U (jkb S.sk hA.sk q);by_cases X:q11 ok A gl P fr
  .obtain⟨hm,i,ops,k,ht,q⟩:=X;obtain⟨D,K,s,e,z,J,o1,Q⟩:=juj q;obtain⟨l,hl,hl2⟩:=jl5 (js1 Q);obtain⟨_,cA3,cB3,a1,b1,Y,b3⟩:=h.jump Q hm ht hl hl2;have old:∀b,b<w.heap.size->({w with heap:=w.heap.push (jss e z)}:Wl).heap[b]?=w.heap[b]?:=λb d=>by simp only[Array.getElem?_push,Nat.ne_of_lt d,if_false]
   have:=V cB3 b1 (b3 {w with heap:=w.heap.push (jss e z)} w.heap.size (λb d=>?_) (λb d=>old b (h.apart b d).2) rfl (mC _) oi) λr g=>by rw[Y r g];exact W r g
   .intro r g;rw[<-Y r g];exact this r g
   by_cases q:b<w.heap.size
   .exact old b q
   exact absurd (h.mlt b d) q
  obtain⟨cA1,aa,fr1,ds1,w1,es,ansC,_,h2,_,nB,_,up,_⟩:=h.step F H d hoA X true;have ab:∀r,gl r=true->∃x t f x' m j,E.w.heap[r]?=some (.cells x t f)/\jgx (fz r) f/\aa.w.heap[r]?=some (.cells x' m j)/\jgx f j:=λr g=>by
   obtain⟨x,t,f,n,o⟩:=W r g;obtain⟨x',m,j,N,O⟩:=up r g _ _ _ n;exact⟨x,t,f,x',m,j,n,o,N,O⟩
  have low1:=V aa (.single nB) h2 λr g=>by
   obtain⟨x,t,f,x',m,j,n,o,N,O⟩:=ab r g;exact⟨x',m,j,N,o.trans O⟩
  intro r g;obtain⟨x,t,f,x',m,j,n,o,N,O⟩:=ab r g;obtain⟨y,u,e5⟩:=low1 r g;rw[N]at e5;cases e5;exact⟨x,t,by rw[n,o.anti O]⟩
end
section
open Relation (TransGen)
variable {ok:Fi->Bool} {Z:jhw}
 {RA RB:Fm->Wv} {base:List Fm} {mine:Np} {cA cB:Cfg} {fr:Fm} {ds:List Fm} {w:Wl}
def jk3 (G:Nat) (ok:Fi->Bool):Ending->Prop
 |.returned v=>∀(q:Ren G) v',VR ok q v v'->v'=v
 |.panicked l=>∀(q:Ren G) l',LR (PER ok q) l l'->l'=l
 |.outgrown=>False
structure jie (G:Nat) (ok:Fi->Bool) (P:Pq) (A:String->Bool) (gl:Nat->Bool) (Z:jhw) (fz:Nat->Nat×Nat) (RA RB:Fm->World->Prop) (base:List Fm) (mine:Nat->Prop) (cA:Cfg) (fr:Fm) (ds:List Fm) (w:Wl):Prop where
 pr:∃cB,Pr G ok P A gl Z RA RB base mine cA cB fr ds w/\Acc (TransGen (jf8 P)) cB/\jfg gl fz cB.w
 low:jpt gl Z fz w
def jrl {o k:Option Obj} {x:Av} {t:Tp} {f:Nat×Nat} (h:jgk o k) (e:o=some (.cells x t f)) (a:∃b d g,k=some (.cells b d g)/\jjx f g):k=o:=by
 cases h with
 |refl=>rfl
 |@cells c t f g hu=>
  cases e;obtain⟨_,_,m,i,j⟩:=a;cases i;rw[hu.le j]
def jie.rely (h:jie G ok P A gl Z fz RA RB base mine cA fr ds w) {d:Wl} (l:∀b,mine b->d.heap[b]?=w.heap[b]?) (j:∀s,inL gl Z s->d.heap[s]?=w.heap[s]?) (t:d.os=w.os) (u:G<=d.heap.size):jie G ok P A gl Z fz RA RB base mine cA fr ds d:=by
 obtain⟨v,k,y,z⟩:=h.pr;obtain⟨C,D,F,m⟩:=k.a;obtain⟨H,I,J,n⟩:=k.b;have q:∀{M:PWm} {R:Fm->Wv} {p:Ren G} {c:Cfg} {past:Ans},(∀r s,p.f r=some s->mine s\/(gl s=true/\r=s)\/(oz Z r=true/\s=Z.ob r))->Sh G ok P A gl M R base p c past fr ds w->Sh G ok P A gl M R base p c past fr ds d:=λ{M R p c past} i s=>
  ⟨s.sk,⟨λr x e=>by
    obtain⟨o,N,K,O,L⟩:=s.wr.dom r x e;refine⟨o,N,K,Eq.trans ?_ O,L⟩;obtain o|⟨g,_⟩|⟨o,e⟩:=i r x e
    .exact l x o
    .exact j x (.inl g)
    exact j x (.inr ⟨r,o,e⟩),t.trans s.wr.os,⟨s.wr.low.1,u⟩,s.wr.big⟩,s.wk,s.fx,s.inv⟩
 exact⟨⟨v,⟨⟨C,D,q m F,m⟩,⟨H,I,q n J,n⟩,λr g=>by rw[j r (.inl g)];exact k.low r g,λs g=>⟨(k.apart s g).1,by
  have:=j s g;rw[my (k.apart s g).2]at this;exact(mw.1 this).1⟩,λs o=>by
  have:=l s o;rw[my (k.mlt s o)]at this;exact(mw.1 this).1⟩,y,z⟩,λr g=>(j r (.inl g)).trans (h.low.gl r g),λr o=>by rw[j _ (.inr ⟨r,o,rfl⟩)];exact h.low.od r o⟩
def jie.step (F:jhy G P ok A gl) (H:jh7 G gl Z) (d:ok RF=true->y9 base) (I:∀fr w,RB fr w->jfg gl fz w) (h:jie G ok P A gl Z fz RA RB base mine cA fr ds w) (J:¬Out cA.fr cA.cs) (K:¬q11 ok A gl P fr) (main:Bool):
 ∃i j k a es m,jnv P main fr ds w j k a es m/\jie G ok P A gl Z fz RA RB base (λb=>mine b\/(w.heap.size<=b/\b<a.heap.size)) i j k a/\jf8 P i cA/\w.heap.size<=a.heap.size/\(∀b,b<w.heap.size->¬mine b->a.heap[b]?=w.heap[b]?)/\a.os=w.os/\a.output=w.output/\
  ∀e∈es,EvG (λb=>mine b\/(w.heap.size<=b/\b<a.heap.size)) (inL gl Z) e:=by
 obtain⟨cB,n,L,M⟩:=h.pr;obtain⟨i,p,j,k,a,es,m,N,l,O,Q,R,S,T,U,os,V,evs⟩:=n.step F H d J K main;have q:=L.inv (.single Q);have s:jfg gl fz p.w:=l.still F H d I q λr g=>by
  obtain⟨x,t,e⟩:=M r g;exact S r g _ _ _ e
 have v:∀r,gl r=true->a.heap[r]?=w.heap[r]?:=λr g=>by
  refine jrl (R r g) (h.low.gl r g) ?_;obtain⟨pB,pastB,z,_⟩:=l.b;obtain⟨o,o',W,k2,X⟩:=z.wr.dom r r (z.fx r g);obtain⟨f,e⟩:=l.low r g;rw[e]at k2;obtain⟨c,f2,rfl,Y⟩:=jn6 X (mR k2).symm (H.nod g);obtain⟨y,u,C⟩:=s r g;rw[W]at C;cases C;exact⟨_,_,_,e,Y⟩
 have D:∀b,b<w.heap.size->¬mine b->a.heap[b]?=w.heap[b]?:=λb d hn=>by
  cases g:gl b with
  |true=>exact v b g
  |false=>exact U b d hn g
 exact⟨i,j,k,a,es,m,N,⟨⟨p,l,q,s⟩,λr g=>(v r g).trans (h.low.gl r g),λr o=>by rw[D _ (n.apart _ (.inr ⟨r,o,rfl⟩)).2 (n.apart _ (.inr ⟨r,o,rfl⟩)).1];exact h.low.od r o⟩,O,T,D,os,V,evs⟩
def jie.jump (h:jie G ok P A gl Z fz RA RB base mine cA fr ds w) {c:Array Oper} {B f:Tmp} {s e:Tp} {z:Int} {j T:Oper} (n:Cv ok A gl P c B f s e z j T) (p:fr.mode=.run) {i:Nat} {k:List Item} (q:fr.todo=.code (.region i c false)::k) {l:List Nat} (t:List.range c.size=0::1::l) (u:∀m∈l,2<=m):
 B<fr.tmps.size/\∃d,TransGen (jf8 P) d cA/\
  ∀a r',(∀b,mine b->a.heap[b]?=w.heap[b]?)->(∀b,inL gl Z b->a.heap[b]?=w.heap[b]?)->a.os=w.os->w.heap.size<=r'->a.heap[r']?=some (jss e z)->
   jie G ok P A gl Z fz RA RB base (λb=>mine b\/b=r') d (frM fr c B f l k r') ds a:=by
 obtain⟨O,v,x,y⟩:=h.pr;obtain⟨C,d,D,F,H,I,J⟩:=v.jump n p q t u;exact⟨C,d,F,λa r' K R L M N=>⟨⟨D,J a r' K R L M N,x.inv H,λr g=>by rw[I r g];exact y r g⟩,λr g=>(R r (.inl g)).trans (h.low.gl r g),λr o=>by rw[R _ (.inr ⟨r,o,rfl⟩)];exact h.low.od r o⟩⟩
def EvG.mono {own i rd j:Nat->Prop} (h:∀b,own b->i b) (d:∀b,rd b->j b) {e:Event} (c:EvG own rd e):EvG i j e:=by
 unfold EvG at*;cases hl:e.loc with
 |cell a=>simp only[hl]at c ⊢;exact c.imp (h _) (And.imp_left (d _))
 |obj s=>simp only[hl]at c ⊢;exact⟨h _ c.1,c.2⟩
 |output=>trivial
 |goroutines=>simp only[hl]at c
 |mark m=>simpa only[hl]using c
variable {fn:Func} {B:Nat}
def jpy (a:fn.results=#[.tmp B]) (tmps:Av):results fn tmps=pure (tmps.getD B undef):=by
 simp[results,a]
def jie.fin {f:Fi} (o:P.funcs[f]?=some fn) (p:fn.results=#[.tmp B]) {b:Fm} {rest:List Fm} {q:Ending->World->Prop} {Good:Ending->Prop} (F:∀e w,q e w->jk3 G ok e/\Good e)
 (h:jie G ok P A gl Z fz (jka P f q) RB (b::rest) mine cA fr ds w) (i:Out cA.fr cA.cs):∃e,Good e/\ds=b::rest/\∀Y W,stepG P Y (G0 fr ds) W=.go (G0 (jow e b) rest) W #[]:=by
 obtain⟨U,H,_,_⟩:=h.pr;obtain⟨s,g,j,V⟩:=H.a;obtain⟨t,I⟩:=j.sk.kind_bot i.1;subst I;obtain⟨u,e,J,x,K⟩:=j.inv.out i t (jib g);obtain⟨z,L⟩:=F e _ K;have c:=j.sk.top;have C:fr.defers=[]:=by
  have:=c.defers;rw[i.2.1]at this;generalize fr.defers=y at this;cases this;rfl
 have d:=c.mode;refine⟨e,L,rfl,λY W=>?_⟩;cases e with
 |outgrown=>exact absurd rfl J
 |returned v=>
  obtain⟨k,M,X,N,m,D⟩:=x;rw[k]at d;have n:fr.mode=.returning:=by generalize fr.mode=y at d;cases d;rfl
  rw[u,o]at m;cases m;have O:cA.fr.tmps.getD B undef=v:=by
   have Q:(results fn cA.fr.tmps).run P (At cA.w (jkn g) g.length)=.ok (cA.fr.tmps.getD B undef) (At cA.w (jkn g) g.length):=by
        rw[jpy p];rfl
   rw[Q]at D;injection D
  have R:fr.tmps.getD B undef=v:=z s _ (O▸jj7 c.tmps B);have S:(results fn fr.tmps).runT P W #[]=(.ok v W,#[]):=by
   rw[<-R,jpy p];rfl
  show stepG P Y {frame:=fr,callers:=b::rest,status:=.running,dying:=none} W=_;unfold stepG;simp only[n,unwind,C,c.fn,u,o,S];unfold doReturn;rw[c.kind,t];rfl
 |panicked l=>
  obtain⟨k,M,N,m⟩:=x;rw[k]at d;have n:fr.mode=.panicking l:=by
   generalize fr.mode=y at d;cases d with
   |panicking r=>rw[z s _ r]
  obtain⟨_,T⟩:=jm2 (P:=P) c.todo;show stepG P Y {frame:=fr,callers:=b::rest,status:=.running,dying:=none} W=_;unfold stepG;simp only[n,unwind,C,T];rfl
end
section
open Relation (TransGen)
variable {ok:Fi->Bool} {Z:jhw}
def vc.same (d:Gam) (w:Wl):vc d w w #[] d:=
 ⟨mC _,λ_ _ _=>rfl,λ_ h=>h,λ_ h=>.inl h,rfl,rfl,rfl,rfl,λe a=>by simp at a⟩
structure jkd (E:Env) (own rd:Nat->Prop) (ph:Ph) (w:Wl):Prop where
 own:∀b,own b->b<w.heap.size
 rd:∀b,rd b->b<w.heap.size
 wg:∀G,ph.grp=some G->WgL E G.Wg w
def jpi (own rd:Np) (ph:Ph) (b:Nat):Prop:=own b\/rd b\/∃G,ph.grp=some G/\b=G.Wg
variable {ph:Ph} {b:Nat}
def jkd.lt {own:Np} (h:jkd E own rd ph w) (c:jpi own rd ph b):b<w.heap.size:=by
 obtain a|a|⟨G,d,rfl⟩:=c
 .exact h.own b a
 .exact h.rd b a
 obtain⟨f,g,e⟩:=h.wg G d;exact(mw.1 e).1
variable {A:Wl}
def yl (h:b<w.heap.size) (e:A.heap[b]?=w.heap[b]?):b<A.heap.size:=by
 rw[my h]at e;exact(mw.1 e).1
def jkd.rely {own:Np} (h:jkd E own rd ph w) (c:q9 E ⟨own,rd,ph⟩ w A):jkd E own rd ph A:=
 ⟨λb a=>yl (h.own b a) (c.own b a),λb a=>yl (h.rd b a) (c.rd b a),λG d=>c.wg G d (h.wg G d)⟩
def jls {own:Np} {a b:Wl} (c:∀x,jpi own rd ph x->b.heap[x]?=a.heap[x]?) (i:b.os=a.os) (f:b.output=a.output):q9 E ⟨own,rd,ph⟩ a b:=
 ⟨λx h=>c x (.inl h),λx h=>c x (.inr (.inl h)),i,f,λG d ⟨s,m,e⟩=>⟨s,m,(c _ (.inr (.inr ⟨G,d,rfl⟩))).trans e⟩,λ_ G d=>.same (c _ (.inr (.inr ⟨G,d,rfl⟩)))⟩
def jt2 (F:jhy G P ok B gl) (H:jh7 G gl Z) (hG:gl G=true) {f:Fi} {fn:Func} {U:Nat} (hf:P.funcs[f]?=some fn) (hr:fn.results=#[.tmp U]) {b:Fm} {rest:List Fm} (hbase:ok RF=true->y9 (b::rest))
 {postA postB:Ending->World->Prop} {Good:Ending->Prop} (hA:∀e w,postA e w->jk3 G ok e/\Good e) (hBo:∀e w,postB e w->jfg gl fz w) {main:Bool} {own:Nat->Prop} (hph:ph.said=false) {w0:Wl} (hkept:jkd E own rd ph w0) (u:∀r,inL gl Z r->rd r)
 (cont:∀c w' e,Good e->(∀x,own x->c x)->(∀x,c x->x<w'.heap.size)->q9 E ⟨own,rd,ph⟩ w0 w'->q7 P E Post main ⟨c,rd,ph⟩ (G0 (jow e b) rest) w') (C:Cfg) (hacc:Acc (TransGen (jf8 P)) C):
 ∀{mine c:Nat->Prop} {fr:Fm} {v:List Fm} {w:Wl},(∀x,jpi own rd ph x->¬mine x)->(∀x,own x->c x)->(∀x,mine x->c x)->(∀x,c x->x<w.heap.size)->q9 E ⟨own,rd,ph⟩ w0 w->jie G ok P B gl Z fz (jka P f postA) (jka P f postB) (b::rest) mine C fr v w->q7 P E Post main ⟨c,rd,ph⟩ (G0 fr v) w:=by
 induction hacc with
 |intro C _ ih=>
  intro mine c fr v w V y o htl hrel hboth;have D:∀{es:Array Event},ph.said=true->es=#[]:=λh=>by rw[hph]at h;cases h
  refine q7.mk rfl λA m=>?_;have r1:q9 E ⟨own,rd,ph⟩ w A:=⟨λx h=>m.own x (y x h),m.rd,m.os,m.output,m.wg,m.down⟩;have N:=hrel.trans r1;have O:=hkept.rely N;have W:∀x,c x->x<A.heap.size:=λx a=>yl (htl x a) (m.own x a);have hG1:G<=A.heap.size:=Nat.le_of_lt (O.rd G (u G (.inl hG)));have X:=hboth.rely (λx h=>m.own x (o x h)) (λs g=>m.rd s (u s g)) m.os hG1;by_cases ho:Out C.fr C.cs
  .obtain⟨e,I,hds,J⟩:=X.fin hf hr hA ho;exact .ord (J main A) rfl D (vc.same _ _) (cont _ _ e I y W N)
  by_cases hs:q11 ok B gl P fr
  .obtain⟨p,i,ops,k,ht,q⟩:=hs;obtain⟨U,t1,s,e,z,o0,o1,Q⟩:=juj q;obtain⟨l,hl,hl2⟩:=jl5 (js1 Q);have e0:=jnl (P:=P) p ht main v A;rw[hl]at e0;refine .ord e0 rfl D (vc.same _ _) (q7.mk rfl λw2 n=>?_);have r2:q9 E ⟨own,rd,ph⟩ A w2:=⟨λx h=>n.own x (y x h),n.rd,n.os,n.output,n.wg,n.down⟩;have t:=O.rely r2;have Y:∀x,c x->x<w2.heap.size:=λx a=>yl (W x a) (n.own x a);have aa:=X.rely (λx h=>n.own x (o x h)) (λs g=>n.rd s (u s g)) n.os (Nat.le_of_lt (t.rd G (u G (.inl hG))));obtain⟨hsz,cA3,nA,both3⟩:=aa.jump Q p ht hl hl2
   have R:∀x,x<w2.heap.size->(w2.heap.push (.cells #[.int .u8 z] e))[x]?=w2.heap[x]?:=λx a=>by simp only[Array.getElem?_push,Nat.ne_of_lt a,if_false]
   refine .ord (γ':=⟨λx=>c x\/x=w2.heap.size,rd,ph⟩) (jnx (fr:={fr with todo:=.inRegion ops (0::1::l)::k}) (l:=1::l) (k:=k) Q p rfl main v w2) rfl D ⟨oi,λx a S=>R x a,λx a=>.inl a,λx a=>?_,rfl,rfl,rfl,rfl,λe K=>by simp at K⟩ (q7.mk rfl λL j=>?_)
   .exact a.imp id λq=>by subst q;simp
   have at3:L.heap[w2.heap.size]?=some (.cells #[.int .u8 z] e (0,0)):=(j.own _ (.inr rfl)).trans oi;have d:=jkk at3;have r3:q9 E ⟨own,rd,ph⟩ w2 {w2 with heap:=w2.heap.push (.cells #[.int .u8 z] e)}:=jls (λx a=>R x (t.lt a)) rfl rfl;have r4:q9 E ⟨own,rd,ph⟩ {w2 with heap:=w2.heap.push (.cells #[.int .u8 z] e)} L:=⟨λx h=>j.own x (.inl (y x h)),j.rd,j.os,j.output,j.wg,j.down⟩;have kept3:=(t.rely r3).rely r4;have r5:q9 E ⟨own,rd,ph⟩ L (L.freeze (AD w2.heap.size 1) 1):=jls (λx a=>d.off x (Nat.ne_of_lt (t.lt a))) d.os d.output
   have lt3:∀x,c x\/x=w2.heap.size->x<L.heap.size:=λx a=>yl (w:={w2 with heap:=w2.heap.push (.cells #[.int .u8 z] e)}) (by
        obtain a|rfl:=a
        .simpa using Nat.lt_succ_of_lt (Y x a)
        simp) (j.own x a)
   refine .ord (jnw (fr:={fr with tmps:=fr.tmps.setIfInBounds U (jpx w2),todo:=.inRegion ops (1::l)::k}) (l:=l) (k:=k) Q p rfl (jn8 hsz) at3 main v) rfl D ⟨nk d.size.symm,λx a S=>d.off x λq=>S (.inr q),λx a=>a,λx a=>.inl a,rfl,rfl,d.os,d.output,λe K=>by simp at K⟩ ?_;refine ih cA3 nA (mine:=λx=>mine x\/x=w2.heap.size) (λx a p=>?_) (λx a=>.inl (y x a)) (λx a=>a.imp (o x) id) (λx a=>by rw[d.size];exact lt3 x a) ((((N.trans r2).trans r3).trans r4).trans r5) (both3 _ _ (λb M=>?_) (λb M=>?_) ?_ (mC _) d.at_)
   .obtain q|q:=p
    .exact V x a q
    have:=t.lt a;omega
   .rw[d.off b (Nat.ne_of_lt (Y b (o b M)))];exact(j.own b (.inl (o b M))).trans (R b (Y b (o b M)))
   .have:=u b M;rw[d.off b (Nat.ne_of_lt (t.rd b this))];exact(j.rd b this).trans (R b (t.rd b this))
   rw[d.os,j.os]
  obtain⟨cA1,fr1,ds1,w2,es,ansC,J,aa,nA,size,out,os,output,evs⟩:=X.step F H hbase (λfr w ⟨_,e,_,_,h⟩=>hBo e w h) ho hs main;have T:∀x,jpi own rd ph x->w2.heap[x]?=A.heap[x]?:=λx a=>out x (O.lt a) (V x a);have rel2:q9 E ⟨own,rd,ph⟩ A w2:=⟨λx h=>T x (.inl h),λx h=>T x (.inr (.inl h)),os,output,λG I ⟨J,sm,e⟩=>⟨J,sm,(T _ (.inr (.inr ⟨G,I,rfl⟩))).trans e⟩,λ_ G I=>.same (T _ (.inr (.inr ⟨G,I,rfl⟩)))⟩;refine .ord (γ':=⟨λx=>c x\/(A.heap.size<=x/\x<w2.heap.size),rd,ph⟩) J.now rfl D ⟨size,λx a S=>out x a λh=>S (o x h),λx a=>.inl a,λx a=>a,rfl,rfl,os,output,λe K=>EvG.mono (λx h=>h.imp (o x) id) u (evs e K)⟩ (ih cA1 (.single nA) (λx a p=>?_) (λx a=>.inl (y x a)) (λx a=>a.imp (o x) id) (λx a=>?_) (N.trans rel2) aa)
  .obtain h|⟨h,_⟩:=p
   .exact V x a h
   have:=O.lt a;omega
  obtain h|⟨_,h⟩:=a
  .exact mN (W x h) size
  exact h
end
open Relation (TransGen)
variable {ok:Fi->Bool} {Y:Vl->Wv} {Z:jhw}
def jh7.at_ (H:jh7 G gl Z) {s:Nat} (h:(if gl r then some r else if oz Z r then some (Z.ob r)else none)=some s):(gl s=true/\r=s)\/(oz Z r=true/\s=Z.ob r):=by
 split at h
 .next g=>cases h;exact .inl ⟨g,rfl⟩
 split at h
 .next o=>cases h;exact .inr ⟨o,rfl⟩
 cases h
def jkh (H:jh7 G gl Z):Ren G where
 f r:=if gl r then some r else if oz Z r then some (Z.ob r)else none
 inj a b c ha hb:=by
    obtain⟨g,rfl⟩|⟨o,rfl⟩:=H.at_ ha<;>obtain⟨g',e⟩|⟨o',e⟩:=H.at_ hb
    .exact e.symm
    .rw[e,H.ngl b o']at g;cases g
    .rw[H.ngl a o]at g';cases g'
    have on:∀{r},oz Z r=true->Z.on r=true:=λh=>(Bool.and_eq_true _ _▸h:_/\_).2
    rcases jhb (jf3 o)with e1|e1<;>rcases jhb (jf3 o')with e2|e2<;>subst e1<;>subst e2<;>first|rfl|exact absurd e (H.ne (on o) (on o'))|exact absurd e.symm (H.ne (on o') (on o))
 low a b h:=by
    obtain⟨g,rfl⟩|⟨o,rfl⟩:=H.at_ h
    .exact Iff.rfl
    have h1:=H.ge a o;have h2:=H.big;have h3:OD2=OD1+1:=rfl;have h4:G<=a:=by rcases jhb (jf3 o)with e|e<;>omega
    omega
def jpf (H:jh7 G gl Z):Fx gl (jkh H):=λg h=>by simp[jkh,h]
def jgd (N:Nat) (gl:Nat->Bool) (Z:jhw) (L:Nat->Av) (fz:Nat->Nat×Nat) (w:Wl):Wl:=
 {w with heap:=Array.ofFn (n:=N) λi=>if gl i then .cells (L i) (Z.T i) (fz i)else if odd i then .pending (Array.replicate (Z.n i+1) undef) 0 else .cells #[] 0 (0,0)}
variable {N:Nat}
def jla (L:Nat->Av) (w:Wl) (a:r<N):(jgd N gl Z L fz w).heap[r]?=some (if gl r then .cells (L r) (Z.T r) (fz r)else if odd r then .pending (Array.replicate (Z.n r+1) undef) 0 else .cells #[] 0 (0,0)):=by
 simp only[jgd];rw[Array.getElem?_ofFn,dif_pos a]
def jnt (L:Nat->Av) (fz:Nat->Nat×Nat) (r:Nat):Nat×Nat:=(0,(L r).size+(fz r).2+1)
structure jj5 (G:Nat) (gl:Nat->Bool) (Z:jhw) (L:Nat->Av) (W:Wl):Prop where
 size:G<W.heap.size
 gl:∀r,gl r=true->∃f,W.heap[r]?=some (.cells (L r) (Z.T r) f)
structure jph (G:Nat) (ok:Fi->Bool) (gl:Nat->Bool) (Z:jhw) (H:jh7 G gl Z) (L:Nat->Av):Prop where
 handle:gl G=true
 rel:∀r,gl r=true->VA ok (jkh H) (L r) (Z.X r)
variable {H:jh7 G gl Z} {L:Nat->Av}
def jpr (O:jph G ok gl Z H L) (b:OD2<N) (fz:Nat->Nat×Nat) (w:Wl):jj5 G gl Z L (jgd N gl Z L fz w):=by
 have a:G<N:=by
  have c:=H.big;have d:OD2=OD1+1:=rfl;omega
 refine⟨by simpa[jgd]using a,λr g=>⟨fz r,?_⟩⟩;rw[jla L w (Nat.lt_of_le_of_lt (H.le r g) a),g];rfl
variable {f:Fi}
def jie.start (F:jhy G P ok A gl) (O:jph G ok gl Z H L) (l:∀r,gl r=true->(fz r).1<=(fz r).2) (D:ok f=true) {args c:Av} (I:VA ok (jkh H) args c) {base:List Fm} {Good:Ending->Prop} (a:jpt gl Z fz w)
 (J:∀W,jj5 G gl Z L W->W.os=w.os->Calls P f args W λe w'=>e≠.outgrown/\jk3 G ok e/\Good e/\∀r,r<=G->w'.heap[r]?=W.heap[r]?):
 ∃m,Acc (TransGen (jf8 P)) m/\jie G ok P A gl Z fz (jka P f λe _=>jk3 G ok e/\Good e) (jka P f λe w'=>jfg gl fz w') base (λ_=>False) m (Frame.enter P f c .normal) base w:=by
 obtain⟨N,j⟩:∃N,OD2<N:=⟨_,Nat.lt_succ_self _⟩;have K:G<N:=by
  have X:=H.big;have M:OD2=OD1+1:=rfl;omega
 have Q:G<w.heap.size:=(mw.1 (a.gl G O.handle)).1;have p:∀g,(jgd N gl Z L g w).heap.size=N:=λg=>by simp[jgd]
 have at_:∀(g:Nat->Nat×Nat) r,gl r=true->(jgd N gl Z L g w).heap[r]?=some (.cells (L r) (Z.T r) (g r)):=λg r u=>by
  rw[jla L w (Nat.lt_of_le_of_lt (H.le r u) K),u];rfl
 have v:∀{R:Fm->World->Prop} {Prot:PWm} {g:Nat->Nat×Nat},(∀r,gl r=true->jjx (g r) (fz r))->WK Prot (jkh H) (jgd N gl Z L g w)->Inv P R ⟨Frame.enter P f args .normal,[c0],jgd N gl Z L g w⟩ []->Sh G ok P A gl Prot R base (jkh H) ⟨Frame.enter P f args .normal,[c0],jgd N gl Z L g w⟩ [] (Frame.enter P f c .normal) base w:=λ{R Prot g} hg hk x=>by
  refine⟨.bot (jle F D I (.inl rfl)) rfl rfl,⟨λr s e=>?_,rfl,⟨by rw[p];omega,Nat.le_of_lt Q⟩,by rw[p];exact j⟩,hk,jpf H,x⟩;obtain⟨b,rfl⟩|⟨o,rfl⟩:=H.at_ e
  .exact⟨_,_,at_ g r b,a.gl r b,.nor (H.nod b) (.cells _ (O.rel r b) (hg r b))⟩
  obtain⟨d,t,k,S⟩:=a.od r o;have U:gl r=false:=by
   cases q:gl r with
   |false=>rfl
   |true=>have:=jf3 o;rw[H.nod q]at this;cases this
  have V:r<N:=by
   have M:OD2=OD1+1:=rfl;rcases jhb (jf3 o)with e|e<;>omega
  refine⟨.pending (Array.replicate (Z.n r+1) undef) 0,_,?_,k,.odd (jf3 o) (by simp[S]) oe⟩;show (jgd N gl Z L g w).heap[r]?=_;rw[jla L w V,U,jf3 o];rfl
 have y:∀(g:Nat->Nat×Nat) {post:Ending->World->Prop},(∀e w',(e≠.outgrown/\jk3 G ok e/\Good e/\∀r,r<=G->w'.heap[r]?=(jgd N gl Z L g w).heap[r]?)->post e w')->Inv P (jka P f post) ⟨Frame.enter P f args .normal,[c0],jgd N gl Z L g w⟩ []:=λg {post} hp=>Inv.of_calls λt=>
  (J (At (jgd N gl Z L g w) t 0) ⟨(jpr O j g w).size,(jpr O j g w).gl⟩ rfl).mono λe w' h=>⟨h.1,hp e w' h⟩
 have z:=y (jnt L fz) (post:=λe _=>jk3 G ok e/\Good e) λe w' h=>⟨h.2.1,h.2.2.1⟩;have B:=y fz (post:=λe w'=>jfg gl fz w') λe w' h r g=>⟨L r,Z.T r,by rw[h.2.2.2 r (H.le r g)];exact at_ fz r g⟩;have C:∀r s,(jkh H).f r=some s->False\/(gl s=true/\r=s)\/(oz Z r=true/\s=Z.ob r):=λr s e=>.inr (H.at_ e);refine⟨_,z.acc.transGen,⟨⟨_,⟨⟨_,_,v (g:=jnt L fz) (λr g=>?_) ⟨λr g=>?_,λ_ _ e=>oJ,λ_ _ e=>oJ⟩ z,C⟩,⟨_,_,v (g:=fz) (λr g=>?_) WK.no B,C⟩,λr g=>⟨_,a.gl r g⟩,λs h=>⟨λq=>q,?_⟩,λs q=>q.elim⟩,B.acc.transGen,λr g=>⟨L r,Z.T r,at_ fz r g⟩⟩,a⟩⟩
 .have:=l r g;unfold jnt jjx;simp only;omega
 .exact⟨L r,Z.T r,jnt L fz r,at_ _ r g,λi x=>by unfold jnt;simp only;omega⟩
 .have:=l r g;unfold jjx;omega
 obtain g|⟨r,o,rfl⟩:=h
 .exact(mw.1 (a.gl s g)).1
 obtain⟨d,t,k,_⟩:=a.od r o;exact(mw.1 k).1
def LoC (gl:Nat->Bool) (Z:jhw) (rd:Np) (w:Wl):Prop:=jpt gl Z (λ_=>(0,0)) w/\∀r,inL gl Z r->rd r
def LoC.later {a:Wl} (h:LoC gl Z rd w) (c:∀b,rd b->a.heap[b]?=w.heap[b]?):LoC gl Z rd a:=⟨⟨λr g=>(c r (h.2 r (.inl g))).trans (h.1.gl r g),λr o=>by rw[c _ (h.2 _ (.inr ⟨r,o,rfl⟩))];exact h.1.od r o⟩,h.2⟩
def jqu (F:jhy G P ok A gl) (O:jph G ok gl Z H L)
 (i:ok f=true) {fn:Func} {j:Nat} (k:P.funcs[f]?=some fn) (l:fn.results=#[.tmp j]) {args c:Av} (m:VA ok (jkh H) args c) {Good:Ending->Prop} {os:Os}
 (n:∀W,jj5 G gl Z L W->W.os=os->Calls P f args W λe w'=>e≠.outgrown/\jk3 G ok e/\Good e/\∀r,r<=G->w'.heap[r]?=W.heap[r]?)
 {z:Bool} {own:Np} {B:Ph} (o:B.said=false) {C:Wl} {b:Fm} {rest:List Fm} (p:ok RF=true->y9 (b::rest)) (d:jkd E own rd B C) (q:C.os=os) (g:LoC gl Z rd C)
 (s:∀a w' e,Good e->(∀x,own x->a x)->(∀x,a x->x<w'.heap.size)->q9 E ⟨own,rd,B⟩ C w'->q7 P E Y z ⟨a,rd,B⟩ (G0 (jow e b) rest) w'):q7 P E Y z ⟨own,rd,B⟩ (G0 (Frame.enter P f c .normal) (b::rest)) C:=by
 obtain⟨t,u,v⟩:=jie.start F O (fz:=λ_=>(0,0)) (λ_ _=>mC _) i m (base:=b::rest) g.1 (Good:=Good) (λW y h=>n W y (h.trans q));exact jt2 F H O.handle k l p (λe w h=>h) (λe w h=>h) o d g.2 s t u (λ_ _ h=>h) (λ_ h=>h) (λ_ h=>h.elim) d.own (q9.refl _ _ _) v
end Go.Proofs.YtbfkeoagmajcpaaGreatDoor
