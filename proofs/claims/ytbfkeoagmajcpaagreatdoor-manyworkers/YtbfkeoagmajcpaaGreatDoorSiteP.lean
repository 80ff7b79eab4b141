import Derived.Test.YtbfkeoagmajcpaaGreatDoorSiteO
import Derived.Test.YtbfkeoagmajcpaaGreatDoorKMwWait
set_option maxHeartbeats 8000000
set_option maxRecDepth 100000
set_option linter.defProp false
set_option linter.unusedSectionVars false
set_option linter.unusedSimpArgs false
set_option linter.unusedVariables false
namespace Go.Proofs.YtbfkeoagmajcpaaGreatDoor
variable {A B:Wl->GStep} {C:Code->Bool} {D:String->Bool} {E cs:List Fm} {P:Pq} {Prot:PWm} {fr:Fm} {gl:Nat->Bool} {ok:Fi->Bool} {w w':Wl}
section
variable {G:Nat} {A:Code->Bool} {p:Ren G} {B:String->Bool} {L:Nat->Bool}
def jl6 (P:Pq) (e:Tp):Bool:=(match P.underlying e with|some (.int .u8)=>true|_=>false)&&(match P.info? e with|some i=>i.size==1&&(match i.zero with|some (.int .u8 0)=>true|_=>false)|none=>false)
def jr9 (P:Pq) (ops:Array Oper):Option (Tmp×Tmp×Tp×Tp×Int):=
 match ops[0]?,ops[1]?with
 |some o0,some o1=>
  match o0.dst,o0.op,o0.guard,o1.dst,o1.op,o1.guard with
  |some t0,.buildSlice s 1 ps,none,some t1,.convert s1 s2 (.tmp t),none=>
   match ps.toList,P.underlying s with
   |[(0,.const (.int .u8 c))],some (.slice e)=>if t=t0/\s1=s/\s2=s/\jl6 P e=true then some (t0,t1,s,e,c)else none
   |_,_=>none
  |_,_,_,_,_,_=>none
 |_,_=>none
def cvR (ok:Fi->Bool) (B:String->Bool) (L:Nat->Bool) (P:Pq) (ops:Array Oper) (d:Bool):Bool:=
 !d&&(jr9 P ops).isSome&&(List.range ops.size).all λi=>decide (i<2)||(match ops[i]?with|some o=>jf7 ok B L P o.op|none=>true)
def j2 (ok:Fi->Bool) (B:String->Bool) (L:Nat->Bool) (P:Pq):Code->Bool
 |.region _ ops d=>(ops.all λo=>jf7 ok B L P o.op)||cvR ok B L P ops d
 |.seq a b=>j2 ok B L P a&&j2 ok B L P b
 |.cond c a b=>okX ok L c&&j2 ok B L P a&&j2 ok B L P b
 |.block _ b|.loop b|.scope b=>j2 ok B L P b
 |.rangeFunc f _ a b=>ok RF&&okX ok L f&&j2 ok B L P a&&j2 ok B L P b
 |_=>true
def q11 (ok:Fi->Bool) (B:String->Bool) (L:Nat->Bool) (P:Pq) (fr:Fm):Prop:=fr.mode=.run/\∃i ops k,fr.todo=.code (.region i ops false)::k/\cvR ok B L P ops false=true
def jkg {o:Oper} (h:jf7 ok B L P o.op=true):j2 ok B L P (.region 0 #[o] true)=true:=by
 simp[j2,h]
def jqy {o:Oper} (h:j2 ok B L P (.region 0 #[o] true)=true):jf7 ok B L P o.op=true:=by
 simpa[j2,cvR]using h
structure PER (ok:Fi->Bool) (p:Ren G) (a b:PanicEntry):Prop where
 v:VR ok p a.v b.v
 rec_:b.recovered=a.recovered
 ge:b.goexit=a.goexit
inductive MoR (ok:Fi->Bool) (p:Ren G):FrameMode->FrameMode->Prop
 |run:MoR ok p .run .run
 |returning:MoR ok p .returning .returning
 |panicking {c d:List PanicEntry}:LR (PER ok p) c d->MoR ok p (.panicking c) (.panicking d)
inductive IR (A:Code->Bool) (p:Ren G):Item->Item->Prop
 |code {c:Code}:A c=true->IR A p (.code c) (.code c)
 |inBlock (i:Nat):IR A p (.inBlock i) (.inBlock i)
 |inLoop {b:Code}:A b=true->IR A p (.inLoop b) (.inLoop b)
 |inScope {b:Code}:A b=true->IR A p (.inScope b) (.inScope b)
 |inRegion {o:Array Oper} (l:List Nat):(∀n∈l,∀x,o[n]?=some x->A (.region 0 #[x] true)=true)->IR A p (.inRegion o l) (.inRegion o l)
 |inRangeFunc {l m:Nat}:p.f l=some m->IR A p (.inRangeFunc l) (.inRangeFunc m)
 |endRangeFunc {l m:Nat}:p.f l=some m->IR A p (.endRangeFunc l) (.endRangeFunc m)
 |beginRound:IR A p .beginRound .beginRound
structure FrR (ok:Fi->Bool) (A:Code->Bool) (p:Ren G) (a b:Fm):Prop where
 fn:b.fn=a.fn
 tmps:VA ok p a.tmps b.tmps
 todo:LR (IR A p) a.todo b.todo
 defers:LR (DR ok p) a.defers b.defers
 mode:MoR ok p a.mode b.mode
 kind:b.kind=a.kind
 kinds:(a.kind=.normal\/a.kind=.deferred)/\(a.roundOf≠none->ok RF=true)
 round:vg (λr s=>p.f r=some s) a.roundOf b.roundOf
def c0:Fm:={fn:=0,tmps:=#[],todo:=[],defers:=[⟨.nil,#[]⟩],mode:=.panicking [],kind:=.normal}
inductive SkR (ok:Fi->Bool) (A:Code->Bool) (lb base:List Fm) (p:Ren G):Fm->List Fm->Fm->List Fm->Prop
 |bot {a b:Fm}:FrR ok A p a b->a.kind=.normal->a.roundOf=none->SkR ok A lb base p a lb b base
 |up {a b c d:Fm} {cs ds:List Fm}:FrR ok A p a b->SkR ok A lb base p c cs d ds->SkR ok A lb base p a (c::cs) b (d::ds)
def PER.mono {q:Ren G} (h:p.Le q) {a b:PanicEntry} (r:PER ok p a b):PER ok q a b:=⟨r.v.mono h,r.rec_,r.ge⟩
def MoR.mono {q:Ren G} (h:p.Le q) {a b:FrameMode} (r:MoR ok p a b):MoR ok q a b:=by
 cases r with
 |run=>exact .run
 |returning=>exact .returning
 |panicking l=>exact .panicking (LR.mono (λ_ _=>PER.mono h) l)
def IR.mono {q:Ren G} (h:p.Le q) {a b:Item} (r:IR A p a b):IR A q a b:=by
 cases r with
 |code e=>exact .code e
 |inBlock=>exact .inBlock _
 |inLoop e=>exact .inLoop e
 |inScope e=>exact .inScope e
 |inRegion l e=>exact .inRegion l e
 |inRangeFunc e=>exact .inRangeFunc (h _ _ e)
 |endRangeFunc e=>exact .endRangeFunc (h _ _ e)
 |beginRound=>exact .beginRound
def joh {q:Ren G} (h:p.Le q) {a b:Option Nat} (r:vg (λr s=>p.f r=some s) a b):vg (λr s=>q.f r=some s) a b:=by
 cases a<;>cases b<;>first|exact r.elim|trivial|exact h _ _ r
def FrR.mono {q:Ren G} (h:p.Le q) {a b:Fm} (r:FrR ok A p a b):FrR ok A q a b:=
 ⟨r.fn,VA.mono h r.tmps,LR.mono (λ_ _=>IR.mono h) r.todo,LR.mono (λ_ _=>DR.mono h) r.defers,r.mode.mono h,r.kind,r.kinds,joh h r.round⟩
def SkR.mono {c e:List Fm} {q:Ren G} (h:p.Le q) {a b:Fm} {i d:List Fm} (r:SkR ok A c e p a i b d):SkR ok A c e q a i b d:=by
 induction r with
 |bot r k o=>exact .bot (r.mono h) k o
 |up r _ ih=>exact .up (r.mono h) ih
def SkR.top {c e:List Fm} {a b:Fm} {h d:List Fm} (r:SkR ok A c e p a h b d):FrR ok A p a b:=by
 cases r<;>assumption
def SkR.long {c e:List Fm} {a b:Fm} {h d:List Fm} (r:SkR ok A c e p a h b d):c.length<=h.length:=by
 induction r with
 |bot=>exact mC _
 |up _ _ ih=>simp;omega
def SkR.base_le {c e:List Fm} {a b:Fm} {h d:List Fm} (r:SkR ok A c e p a h b d):d.length+c.length=h.length+e.length:=by
 induction r with
 |bot=>omega
 |up _ _ ih=>simp;omega
def SkR.put {c h:List Fm} {a b a' b':Fm} {i d:List Fm} (r:SkR ok A c h p a i b d) (f:FrR ok A p a' b') (e:a'.kind=a.kind) (g:a'.roundOf=a.roundOf):SkR ok A c h p a' i b' d:=by
 cases r with
 |bot _ k o=>exact .bot f (e.trans k) (g.trans o)
 |up _ s=>exact .up f s
def jj6 (i:Fx L p) {a b:Fm} (h:FrR ok A p a b):∀x,okX ok L x=true->VR ok p (a.eval x) (b.eval x):=λx c=>by
 cases x with
 |tmp t=>
  show VR ok p (a.tmps.getD t undef) (b.tmps.getD t undef);rw[mO,mO];obtain⟨d,e⟩|⟨x,y,d,e,c⟩:=h.tmps.get t
  .rw[d,e];exact VR.undef p
  rw[d,e];exact c
 |const v=>exact jvb c
 |global g=>exact .ptr ⟨i g c,rfl,rfl⟩
 |func f=>exact VR.funcA (.func c) Arr.nil Arr.nil
def jfl {a b:Fm} (h:FrR ok A p a b) {v w:Vl} (z:VR ok p v w):FrR ok A p (a.finish v) (b.finish w):=by
 obtain⟨fn,tmps,todo,defers,mode,kind,C⟩:=a;obtain⟨D,u,K,E,F,H,I⟩:=b;obtain⟨f,c,x,g,q,r,s,t⟩:=h;simp only at f c x g q r s t;cases x with
 |nil=>exact⟨f,c,.nil,g,q,r,s,t⟩
 |@cons i j k k' hi hk=>
  have y:FrR ok A p ⟨fn,tmps,i::k,defers,mode,kind,C⟩ ⟨D,u,j::k',E,F,H,I⟩:=⟨f,c,.cons hi hk,g,q,r,s,t⟩;cases hi with
  |@inRegion o l e=>
   cases l with
   |nil=>exact y
   |cons n rest=>
    refine⟨f,?_,.cons (.inRegion rest λm J=>e m (List.mem_cons_of_mem _ J)) hk,g,q,r,s,t⟩;show VA ok p (match (o[n]?).bind (·.dst)with|some d=>tmps.setIfInBounds d v|none=>tmps) (match (o[n]?).bind (·.dst)with|some d=>u.setIfInBounds d w|none=>u);cases (o[n]?).bind (·.dst)with
    |none=>exact c
    |some d=>exact c.set d z
  |inRangeFunc e=>exact⟨f,c,.cons (.endRangeFunc e) hk,g,q,r,s,t⟩
  |beginRound=>exact⟨f,c,hk,g,q,r,s,t⟩
  |_=>exact y
def yr (a:Fm) (v:Vl):(a.finish v).kind=a.kind/\(a.finish v).roundOf=a.roundOf:=by
 unfold Frame.finish;split<;>exact⟨rfl,rfl⟩
def jgp {a b:Fm} (h:FrR ok A p a b) {c d:List PanicEntry} (n:LR (PER ok p) c d):FrR ok A p (a.raise c) (b.raise d):=by
 obtain⟨fn,tmps,todo,defers,mode,kind,q⟩:=a;obtain⟨r,s,t,u,v,w,x⟩:=b;obtain⟨e,f,g,i,o,j,k,m⟩:=h;simp only at e f g i o j k m;cases o with
 |panicking l=>exact⟨e,f,g,i,.panicking (n.append l),j,k,m⟩
 |run=>exact⟨e,f,g,i,.panicking n,j,k,m⟩
 |returning=>exact⟨e,f,g,i,.panicking n,j,k,m⟩
def va (a:Fm) (c:List PanicEntry):(a.raise c).kind=a.kind/\(a.raise c).roundOf=a.roundOf:=by
 unfold Frame.raise;split<;>exact⟨rfl,rfl⟩
def jsn (id:Nat) {k l:List Item} (h:LR (IR A p) k l):vg (LR (IR A p)) (exitTo id k) (exitTo id l):=by
 induction h with
 |nil=>trivial
 |@cons i j k l hi hk ih=>
  cases hi with
  |inBlock n=>
   unfold exitTo;split
   .exact hk
   exact ih
  |_=>exact ih
def jsh {n:Nat}:∀{c r:Code},j2 ok B L P c=true->findLabel c n=some r->j2 ok B L P r=true:=by
 intro c;induction c with
 |seq a b iha ihb=>
  intro r h e;simp only[j2,Bool.and_eq_true]at h;unfold findLabel at e;split at e
  .next x hx=>cases e;simp only[j2,Bool.and_eq_true];exact⟨iha h.1 hx,h.2⟩
  exact ihb h.2 e
 |label l=>
  intro r h e;unfold findLabel at e;split at e
  .cases e;rfl
  cases e
 |_=>intro r h e;simp[findLabel]at e
def jrd (n:Nat) {k l:List Item} (h:LR (IR (j2 ok B L P) p) k l):vg (LR (IR (j2 ok B L P) p)) (gotoIn n k) (gotoIn n l):=by
 induction h with
 |nil=>trivial
 |@cons i j k l hi hk ih=>
  cases hi with
  |@inScope b e=>
   unfold gotoIn;cases hb:findLabel b n with
   |none=>exact ih
   |some r=>exact LR.cons (.code (jsh e hb)) (LR.cons (.inScope e) hk)
  |_=>exact ih
def jnu (c:Array Oper) {a b:Av} (h:VA ok p a b):yielded c b=yielded c a:=by
 funext j;unfold yielded;cases (c[j]?).bind (·.dst)with
 |none=>rfl
 |some d=>
  show (match b[d]?with|some (.bool b)=>some b|_=>none)=(match a[d]?with|some (.bool b)=>some b|_=>none);obtain⟨e,f⟩|⟨x,y,e,f,g⟩:=h.get d
  .rw[e,f]
  rw[e,f];cases g<;>rfl
def jsj {a b:Fm} (h:FrR ok A p a b):b.oper?=a.oper?:=by
 have c:=h.todo;unfold Frame.oper?;generalize a.todo=t1 at c;generalize b.todo=t2 at c;cases c with
 |nil=>rfl
 |cons hi _=>
  cases hi with
  |inRegion l e=>cases l<;>rfl
  |_=>rfl
structure jhy (G:Nat) (P:Pq) (ok:Fi->Bool) (B:String->Bool) (L:Nat->Bool):Prop where
 two:joo G P ok (j2 ok B L P) B L
 code:∀f fn c,ok f=true->P.funcs[f]?=some fn->fn.body=some c->j2 ok B L P c=true
def jle (F:jhy G P ok B L) {f:Fi} (d:ok f=true) {a b:Av} (h:VA ok p a b) {k:CallKind} (g:k=.normal\/k=.deferred):FrR ok (j2 ok B L P) p (Frame.enter P f a k) (Frame.enter P f b k):=by
 refine⟨rfl,?_,.cons (.code ?_) .nil,.nil,.run,rfl,⟨g,λh=>absurd rfl h⟩,trivial⟩
 .show VA ok p (a++_) (b++_);rw[<-h.size];exact h.append (Arr.replicate _ (VR.undef p))
 cases e:P.funcs[f]?with
 |none=>rfl
 |some fn=>
  show j2 ok B L P (fn.body.getD _)=true;cases e':fn.body with
  |none=>rfl
  |some c=>exact F.code f fn c d e e'
def jm3 {l m:Nat} (c:ok RF=true) (d:p.f l=some m) (f:Fi) {a b:Av} (h:VA ok p a b) {x y:Code} (e:A x=true) (g:A y=true) {k:CallKind} (i:k=.normal\/k=.deferred):FrR ok A p (Frame.round l f a x y k) (Frame.round m f b x y k):=
 ⟨rfl,h,.cons (.code e) (.cons .beginRound (.cons (.code g) .nil)),.nil,.run,rfl,⟨i,λ_=>c⟩,d⟩
def jr2 (ok:Fi->Bool) (A:Code->Bool) (lb base:List Fm) (p:Ren G) (a b:Fm) (x y:Option (Vl×List Fm)):Prop:=
 vg (λx y=>VR ok p x.1 y.1/\SkR ok A lb base p a x.2 b y.2) x y
def jhe {n E:List Fm} {a b:Fm} {F m:List Fm} (h:SkR ok A n E p a F b m):jr2 ok A n E p a b (tryRecover a F) (tryRecover b m):=by
 cases h with
 |bot h i ho=>
  have j:tryRecover a n=none:=by unfold tryRecover;rw[i]
  have k:tryRecover b E=none:=by unfold tryRecover;rw[h.kind,i]
  rw[j,k];trivial
 |@up _ _ c d F m h hs=>
  obtain i|i:=h.kinds.1
  .have j:tryRecover a (c::F)=none:=by unfold tryRecover;rw[i]
   have k:tryRecover b (d::m)=none:=by unfold tryRecover;rw[h.kind,i]
   rw[j,k];trivial
  unfold tryRecover;rw[h.kind,i];obtain⟨fn,tmps,todo,defers,mode,kind,s⟩:=c;obtain⟨t,u,w,x,y,z,C⟩:=d;have f:=hs.top;have o:=f.mode;simp only at o;cases o with
  |run=>trivial
  |returning=>trivial
  |panicking l=>
   cases l with
   |nil=>trivial
   |@cons e e' l l' he hl=>
    obtain⟨v,r,g⟩:=e;obtain⟨D,r',H⟩:=e';obtain⟨j,k,q⟩:=he;simp only at j k q;subst k q;cases r'<;>cases H<;>first|trivial|skip
    exact⟨j,.up h (hs.put ⟨f.fn,f.tmps,f.todo,f.defers,.panicking (.cons ⟨j,rfl,rfl⟩ hl),f.kind,f.kinds,f.round⟩ rfl rfl)⟩
def y9 (base:List Fm):Prop:=∀c∈base,∀l k,c.todo≠.inRangeFunc l::k
def ji6:∀(d:List Fm),y9 d->∀l,tryRecoverLoop l d=none
 |[],_,_=>rfl
 |c::d,h,l=>by
  have a:=ji6 d (λx b=>h x (List.mem_cons_of_mem _ b)) l;unfold tryRecoverLoop;split
  .next e _=>exact absurd e (h c List.mem_cons_self _ _)
  .next e _=>exact absurd e (h c List.mem_cons_self _ _)
  rw[a];rfl
def jsc {j H:List Fm} (u:y9 j) (w:y9 H):∀{a b:Fm} {I o:List Fm},SkR ok A j H p a I b o->∀{l m:Nat},p.f l=some m->jr2 ok A j H p a b (tryRecoverLoop l I) (tryRecoverLoop m o):=by
 intro a b I o h;induction h with
 |bot h hk ho=>
  intro l m i;rw[ji6 H w m,ji6 j u l];trivial
 |@up a b c d I o h hs ih=>
  intro l m i;have k:∀{x y:Option (Vl×List Fm)},jr2 ok A j H p c d x y->jr2 ok A j H p a b (x.map λ(v,rest)=>(v,c::rest)) (y.map λ(v,rest)=>(v,d::rest)):=by
   intro x y g;cases x<;>cases y<;>first|exact g.elim|trivial|exact⟨g.1,.up h g.2⟩
  have s:=hs.top;have n:=s.round;have z:=jhe hs;unfold tryRecoverLoop;have r:=s.todo;generalize C:c.todo=t1 at r;generalize D:d.todo=t2 at r;generalize E:c.roundOf=r1 at n;generalize F:d.roundOf=r2 at n;have t:∀{x y:Nat},p.f x=some y->(x==l)=(y==m):=λ{x y} g=>by
   by_cases e:x=l
   .subst e;rw[g]at i;cases i;simp
   have:y≠m:=λq=>e (p.inj _ _ _ g (q▸i));rw[beq_eq_false_iff_ne.2 e,beq_eq_false_iff_ne.2 this]
  cases r with
  |nil=>exact k (ih i)
  |cons hi _=>
   cases hi with
   |@inRangeFunc x y g=>
    cases r1 with
    |none=>
     cases r2 with
     |some=>exact n.elim
     |none=>
      dsimp only;rw[t g];split
      .exact k z
      exact k (ih i)
    |some o1=>
     cases r2 with
     |none=>exact n.elim
     |some o2=>
      dsimp only;rw[t g];split
      .exact k (ih n)
      exact k (ih i)
   |_=>exact k (ih i)
end
section
variable {G:Nat} {p:Ren G}
def G0 (fr:Fm) (cs:List Fm):Gn:={frame:=fr,callers:=cs,status:=.running,dying:=none}
def y7:GStep->Prop
 |.ended _ _ _=>True
 |.go g _ _=>∃d,g.dying=some d/\d.calling=false/\d.todo=[]/\g.status=.running
 |_=>False
def yg (ok:Fi->Bool) (C:Code->Bool) (P:Pq) (Prot:PWm) (E base:List Fm) (p:Ren G) (w w':Wl) (A:Wl->GStep) (B:Wl->GStep):Prop:=
 ∃ans:Ans,(∀t d,Agr t d ans->y7 (A (At w t d)).bare)\/
  ∃ansC q w1 w1' fr cs fr' cs' es,jfk w' w1' ansC/\WR ok C q w1 w1'/\WK Prot q w1/\Gua Prot p q w' w1'/\(∀e∈es,jlo Prot q e)/\SkR ok C E base q fr cs fr' cs'/\
   (∀t d,Agr t d ans->(A (At w t d)).bare=.go (G0 fr cs) (At w1 t (d+ans.length)))/\∀t d,Agr t d ansC->B (At w' t d)=.go (G0 fr' cs') (At w1' t (d+ansC.length)) es
def yg.go {i:List Fm} {a:Fm} {b:List Fm} (c:WR ok C p w w') (e:WK Prot p w) (f:SkR ok C E i p fr cs a b)
 (g:∀W,(A W).bare=.go (G0 fr cs) W) (h:∀W,B W=.go (G0 a b) W):yg ok C P Prot E i p w w' A B:=
 ⟨[],.inr ⟨[],p,w,w',fr,cs,a,b,#[],jfk.nil _,c,e,Gua.refl _ _,oi,f,λt d _=>by rw[g];rfl,λt d _=>h _⟩⟩
def yg.bad {b:List Fm} (a:∀W,y7 (A W).bare):yg ok C P Prot E b p w w' A B:=
 ⟨[],.inl λt d _=>a _⟩
def jlb (b a:Array Event) (g:Gn) (w:Wl):GStep.after b (.go g w a)=.go g w (b++a):=rfl
def yg.sem (l:jrc P) {T:List Fm} {α β:Type} {R:Ren G->α->β->Prop} {m:Sem α} {Y:Sem β} (h:SR ok C P R p m Y) (n:WR ok C p w w') (o:WK Prot p w)
 {fn:Fi} {ka:Result α->GStep} {kb:Result β->GStep}
 (g:∀W,(A W).bare=(ka (m.run P W)).bare) (r:∀V y W X,Y.runT P V #[]=(yd.res y W,X)->B V=GStep.after (seen P fn X) (kb (y.res W)))
 (u:∀h W,q12 h->y7 (ka (.halt h W)).bare)
 (v:∀q x y,p.Le q->jo8 ok R q x y->∃fr cs c f,SkR ok C E T q fr cs c f/\(∀W,(ka (x.res W)).bare=.go (G0 fr cs) W)/\∀W,kb (y.res W)=.go (G0 c f) W):
 yg ok C P Prot E T p w w' A B:=by
 obtain⟨ans,e|⟨i,q,z,j,X,x,y,F,H,I,k,J,K,L,M⟩⟩:=SR.run (Prot:=Prot) l h n o
 .refine⟨ans,.inl λt d a=>?_⟩;obtain⟨e,Z,b,N⟩:=e t d a;rw[g,N];exact u e Z b
 obtain⟨fr,cs,c,f,s,O,Q⟩:=v q x y k.le K;refine⟨ans,.inr ⟨i,q,z,j,fr,cs,c,f,seen P fn X,F,H,I,k,λe S=>J e (Conc.mem_seen S),s,λt d a=>?_,λt d a=>?_⟩⟩
 .rw[g,L t d a,O]
 have:=r _ y (At j t (d+i.length)) X (by rw[M t d a #[]];simp);rw[this,Q,jlb];simp
def jlc (fr:Fm) (m:String) (w:Wl):y7 (endThrow fr m w).bare:=⟨_,rfl,rfl,rfl,rfl⟩
def jk2 (P:Pq) (fr:Fm) (cs:List Fm) (a:Option Dying) (m:String) (w:Wl):y7 (endFatal P fr cs a m w).bare:=by
 unfold endFatal;dsimp only;split
 .exact⟨_,rfl,rfl,rfl,rfl⟩
 .trivial
 trivial
def jop (F:Fit G P ok D gl) {g:Nat} (h:odd g=true) (fr:Fm) (cs:List Fm) (a:Option Dying) (w:Wl):y7 (early P fr cs a g w).bare:=by
 unfold early;simp only[F.ahead,Bool.not_true,Bool.false_eq_true,if_false,F.none_ g h];trivial
abbrev oC (ok:Fi->Bool) (D:String->Bool) (gl:Nat->Bool) (P:Pq):Code->Bool:=j2 ok D gl P
def jfc (fn:Fi):seen P fn #[]=#[]:=rfl
def z8 (s:GStep):GStep.after #[] s=s:=by cases s<;>simp[GStep.after]
def jrx (fr:Fm) {a:Fm} (h:LR (IR C p) fr.todo a.todo):(match fr.todo with|.call _ true _ _::_=>CallKind.wrapped|_=>.normal)=.normal/\(match a.todo with|.call _ true _ _::_=>CallKind.wrapped|_=>.normal)=.normal:=by
 generalize fr.todo=t1 at h;generalize a.todo=t2 at h;cases h with
 |nil=>exact⟨rfl,rfl⟩
 |cons hi _=>cases hi<;>exact⟨rfl,rfl⟩
def jhs (F:jhy G P ok D gl) {base:List Fm} (H:ok RF=true->y9 E/\y9 base) {c:Fm} {i:List Fm} (T:WR ok (j2 ok D gl P) p w w') (U:WK Prot p w)
 (I:SkR ok (j2 ok D gl P) E base p fr cs c i) (main:Bool) {s J:Sem Next} (h:SR ok (j2 ok D gl P) P (NR ok (j2 ok D gl P)) p s J):
 yg ok (j2 ok D gl P) P Prot E base p w w' (λW=>stepG.apply P true fr cs none s W) (λW=>stepG.apply P true c i none J W):=by
 have z:=I.top;obtain⟨K,L⟩:=jrx fr z.todo;have M:(c.kind==CallKind.early)=false:=by
  rw[z.kind];obtain e|e:=z.kinds.1<;>rw[e]<;>rfl
 refine yg.sem F.two.nf h T U (fn:=c.fn) (ka:=λr=>stepG.apply P true fr cs none (match r with|.ok a _=>.pure a|.halt h _=>.halt h) (match r with|.ok _ W=>W|.halt _ W=>W)) (kb:=λr=>stepG.apply P true c i none (match r with|.ok a _=>.pure a|.halt h _=>.halt h) (match r with|.ok _ W=>W|.halt _ W=>W)) ?_ ?_ ?_ ?_
 .intro W;unfold stepG.apply;simp only[if_true,Sem.runT_eq,GStep.bare_after];cases s.run P W<;>rfl
 .intro V y W es e;unfold stepG.apply;simp only[if_true,e,M,Bool.false_eq_true,if_false];cases y<;>simp only[yd.res,Sem.runT,jfc,z8]
 .intro e W N;unfold stepG.apply;simp only[if_true,Sem.runT_eq,GStep.bare_after,Sem.run];cases e<;>first|exact N.elim|trivial|exact jlc _ _ _|exact jk2 _ _ _ _ _ _|skip
  rename_i u;cases u<;>first|exact jop F.two.fit N _ _ _ _|trivial
 intro q x y X Y;have j:=I.mono X;have g:=j.top;unfold stepG.apply;simp only[if_true,M,Bool.false_eq_true,if_false,K,L];cases Y with
 |panic hv=>
  refine⟨_,_,_,_,j.put (jgp g (.cons (a:={v:=_,recovered:=false}) (b:={v:=_,recovered:=false}) ⟨hv,rfl,rfl⟩ .nil)) (va _ _).1 (va _ _).2,λW=>?_,λW=>?_⟩<;>simp only[yd.res,Sem.runT,jfc,z8,GStep.bare_after]<;>rfl
 |goexit=>
  refine⟨_,_,_,_,j.put (jgp g (.cons (a:=goexitEntry) (b:=goexitEntry) ⟨VR.undef _,rfl,rfl⟩ .nil)) (va _ _).1 (va _ _).2,λW=>?_,λW=>?_⟩<;>simp only[yd.res,Sem.runT,jfc,z8,GStep.bare_after]<;>rfl
 |val hn=>
  cases hn with
  |value hv=>
   refine⟨_,_,_,_,j.put (jfl g hv) (yr _ _).1 (yr _ _).2,λW=>?_,λW=>?_⟩<;>simp only[yd.res,Sem.runT,jfc,z8,GStep.bare_after]<;>rfl
  |skip=>
   refine⟨_,_,_,_,j.put (jfl g (VR.undef _)) (yr _ _).1 (yr _ _).2,λW=>?_,λW=>?_⟩<;>simp only[yd.res,Sem.runT,jfc,z8,GStep.bare_after]<;>rfl
  |enter hf ha=>
   refine⟨_,_,_,_,SkR.up (jle F hf ha (k:=.normal) (.inl rfl)) j,λW=>?_,λW=>?_⟩<;>simp only[yd.res,Sem.runT,jfc,z8,GStep.bare_after]
   .exact congrArg (λk=>GStep.go (G0 (Frame.enter P _ _ k) (fr::cs)) W) K
   exact congrArg (λk=>GStep.go (G0 (Frame.enter P _ _ k) (c::i)) W) L
  |round f n hl ha hx hy=>
   refine⟨_,_,_,_,SkR.up (jm3 n hl f ha hx hy (k:=.normal) (.inl rfl)) j,λW=>?_,λW=>?_⟩<;>simp only[yd.res,Sem.runT,jfc,z8,GStep.bare_after]<;>rfl
  |@defer d e hd=>
   refine⟨_,_,_,_,j.put (jfl (a:={fr with defers:=d::fr.defers}) (b:={c with defers:=e::c.defers}) ⟨g.fn,g.tmps,g.todo,.cons hd g.defers,g.mode,g.kind,g.kinds,g.round⟩ (VR.undef _)) (yr _ _).1 (yr _ _).2,λW=>?_,λW=>?_⟩<;>simp only[yd.res,Sem.runT,jfc,z8,GStep.bare_after]<;>rfl
  |recover=>
   have m:jr2 ok (j2 ok D gl P) E base q fr c (match fr.roundOf with|some l=>if P.follows .rangeFuncRecover then tryRecover fr cs else tryRecoverLoop l cs|none=>tryRecover fr cs) (match c.roundOf with|some l=>if P.follows .rangeFuncRecover then tryRecover c i else tryRecoverLoop l i|none=>tryRecover c i):=by
      have O:=jhe j;have t:=g.round;have Q:=g.kinds.2;generalize fr.roundOf=r1 at t Q;generalize c.roundOf=r2 at t;cases r1<;>cases r2<;>first|exact t.elim|exact O|skip
      dsimp only;split
      .exact O
      have n:=Q oi;exact jsc (H n).1 (H n).2 j t
   simp only[yd.res,Sem.runT,jfc,z8,GStep.bare_after];generalize Z:(match fr.roundOf with|some l=>if P.follows .rangeFuncRecover then tryRecover fr cs else tryRecoverLoop l cs|none=>tryRecover fr cs)=x1 at m;have R:=λW=>congrArg (λo:Option (Vl×List Fm)=>(match o with|some (v,callers)=>GStep.go (G0 (fr.finish v) callers) W|none=>GStep.go (G0 (fr.finish .nilIface) cs) W).bare) Z
   generalize aa:(match c.roundOf with|some l=>if P.follows .rangeFuncRecover then tryRecover c i else tryRecoverLoop l i|none=>tryRecover c i)=x2 at m;have S:=λW=>congrArg (λo:Option (Vl×List Fm)=>match o with|some (v,callers)=>GStep.go (G0 (c.finish v) callers) W|none=>GStep.go (G0 (c.finish .nilIface) i) W) aa
   cases x1<;>cases x2<;>first|exact m.elim|skip
   .exact⟨_,_,_,_,j.put (jfl g .nilIface) (yr _ _).1 (yr _ _).2,λW=>R W,λW=>S W⟩
   exact⟨_,_,_,_,m.2.put (jfl g m.1) (yr _ _).1 (yr _ _).2,λW=>R W,λW=>S W⟩
end
section
variable {G:Nat} {p:Ren G} {Z:PWm}
def jsx {c d:List PanicEntry} (h:LR (PER ok p) c d):LR (PER ok p) (c.dropWhile (!·.goexit)) (d.dropWhile (!·.goexit)):=by
 induction h with
 |nil=>exact .nil
 |@cons a b l m h1 h2 ih=>
  rw[List.dropWhile_cons,List.dropWhile_cons,h1.ge];split
  .exact ih
  exact .cons h1 h2
variable {Y:List Fm} {X:Fm}
def jg2 {T:List Fm} {M c s:Fm} {t:List Fm} (f:FrR ok C p X M) (h:SkR ok C E T p c Y s t) {v u:Vl} (Q:VR ok p v u) (V R:Bool):
 ∃i j k m,SkR ok C E T p i j k m/\(∀W,(doReturn P V X (c::Y) none v W).bare=.go (G0 i j) W)/\∀W,doReturn P R M (s::t) none u W=.go (G0 k m) W:=by
 have d:=h.top;obtain n|n:=f.kinds.1
 .refine⟨_,_,_,_,h.put (jfl d Q) (yr _ _).1 (yr _ _).2,λW=>?_,λW=>?_⟩
  .unfold doReturn;rw[n];rfl
  unfold doReturn;rw[f.kind,n];rfl
 obtain⟨fn,tmps,todo,defers,mode,kind,z⟩:=c;obtain⟨A,B,F,H,S,I,J⟩:=s;have N:=d.mode;simp only at N;have o:∃i j k m,SkR ok C E T p i j k m/\(∀W:Wl,(GStep.go {frame:=⟨fn,tmps,todo,defers,mode,kind,z⟩,callers:=Y,status:=.running,dying:=none} W).bare=.go (G0 i j) W)/\∀W:Wl,(GStep.go {frame:=⟨A,B,F,H,S,I,J⟩,callers:=t,status:=.running,dying:=none} W)=.go (G0 k m) W:=⟨_,_,_,_,h,λW=>rfl,λW=>rfl⟩;unfold doReturn;rw[f.kind,n];dsimp only;cases N with
 |run=>exact o
 |returning=>exact o
 |panicking l=>
  cases l with
  |nil=>exact o
  |@cons e e' l l' he hl=>
   obtain⟨v,r,g⟩:=e;obtain⟨u,r',g'⟩:=e';obtain⟨K,q,O⟩:=he;simp only at K q O;subst q O;cases r' with
   |false=>exact o
   |true=>
    dsimp only;have L:=jsx hl;generalize l.dropWhile (!·.goexit)=x at L;generalize l'.dropWhile (!·.goexit)=y at L;cases L with
    |nil=>exact⟨_,_,_,_,h.put (a':=⟨fn,tmps,todo,defers,.returning,kind,z⟩) (b':=⟨A,B,F,H,.returning,I,J⟩) ⟨d.fn,d.tmps,d.todo,d.defers,.returning,d.kind,d.kinds,d.round⟩ rfl rfl,λW=>rfl,λW=>rfl⟩
    |@cons K q l1 l2 h1 h2=>exact⟨_,_,_,_,h.put (a':=⟨fn,tmps,todo,defers,.panicking (K::l1),kind,z⟩) (b':=⟨A,B,F,H,.panicking (q::l2),I,J⟩) ⟨d.fn,d.tmps,d.todo,d.defers,.panicking (.cons h1 h2),d.kind,d.kinds,d.round⟩ rfl rfl,λW=>rfl,λW=>rfl⟩
variable {a b:Av}
def jj7 (h:VA ok p a b) (t:Nat):VR ok p (a.getD t undef) (b.getD t undef):=by
 rw[mO,mO];obtain⟨c,d⟩|⟨x,y,c,d,e⟩:=h.get t
 .rw[c,d];exact VR.undef p
 rw[c,d];exact e
def joa (F:Fit G P ok D gl) (i:Fx gl p) (fn:Func) (h:VA ok p a b):SR ok C P (VR ok) p (results fn a) (results fn b):=by
 refine SR.bind (R:=λq=>Arr (VR ok q)) (jpb (S:=λ_ x y=>x=y) (λ_ _ _ _ _ h=>h) (λ_ _ _ _ j h=>h.mono j) (λq x y f e=>?_) (Arr.refl (λ_=>rfl) _)) λq x y f d=>?_
 .subst e;cases x with
  |tmp t=>exact qs ((jj7 h t).mono f)
  |cell c t=>exact SR.bind (jgt F (i.mono f) ((jj7 h c).mono f)) λk x y l d=>je6 t d
 refine qs ?_;by_cases e:x.size=1
 .have g:y.size=1:=d.size▸e;rw[dif_pos e,dif_pos g];exact d.at_ 0 _ _ (my _) (my _)
 have g:¬y.size=1:=d.size▸e;rw[dif_neg e,dif_neg g];exact VR.tupA d
def yg.sem2 (j:jrc P) {T:List Fm} {α β:Type} {R:Ren G->α->β->Prop} {m:Sem α} {m':Sem β} (h:SR ok C P R p m m') (k:WR ok C p w w') (l:WK Z p w)
 {fn:Fi} {A B:Wl->GStep} (n:∀h W w2,q12 h->m.run P W=.halt h w2->y7 (A W).bare)
 (o:∀q x y,p.Le q->jo8 ok R q x y->∃X Y f g,SkR ok C E T q X Y f g/\(∀W W1,m.run P W=x.res W1->(A W).bare=.go (G0 X Y) W1)/\∀V W1 es,m'.runT P V #[]=(y.res W1,es)->B V=.go (G0 f g) W1 (seen P fn es)):
 yg ok C P Z E T p w w' A B:=by
 obtain⟨ans,e|⟨r,q,u,v,es,x,y,z,F,H,i,I,J,K,L⟩⟩:=SR.run (Prot:=Z) j h k l
 .refine⟨ans,.inl λt d c=>?_⟩;obtain⟨e,w2,b,M⟩:=e t d c;exact n e _ w2 b M
 obtain⟨X,Y,f,g,s,N,O⟩:=o q x y i.le J;exact⟨ans,.inr ⟨r,q,u,v,X,Y,f,g,seen P fn es,z,F,H,i,λe Q=>I e (Conc.mem_seen Q),s,λt d c=>N _ _ (K t d c),λt d c=>O _ _ es (by rw[L t d c #[]];simp)⟩⟩
def jfn (d:Array Event) (g:Gn) (w:Wl):GStep.after d (.go g w)=.go g w d:=by
 rw[jlb];simp
def jgv (F:jhy G P ok D gl) (L:Fx gl p) {base:List Fm} {g:Fm} {j:List Fm} (M:WR ok (j2 ok D gl P) p w w') (N:WK Z p w)
 (K:SkR ok (j2 ok D gl P) E base p X Y g j) {d n:Deferred} (u:DR ok p d n):
 yg ok (j2 ok D gl P) P Z E base p w w' (λW=>callDeferred P X Y none d W) (λW=>callDeferred P g j none n W):=by
 have O:=K.top;by_cases l:d.target=.nil/\∃c,X.mode=.panicking c
 .obtain⟨z,c,A⟩:=l;exact .bad λW=>by unfold callDeferred;rw[z,A];trivial
 have i:∀(t:Target) (m:FrameMode),¬(t=.nil/\∃c,m=.panicking c)->¬((t matches .nil)&&(m matches .panicking _))=true:=λt m h e=>by
  cases t<;>first|(cases e;done)|skip
  cases m<;>first|(cases e;done)|exact h ⟨rfl,_,rfl⟩
 have r:¬(n.target=.nil/\∃c,g.mode=.panicking c):=by
  rintro ⟨z,c,A⟩;have a:=u.target;have b:=O.mode;rw[z]at a;rw[A]at b;generalize d.target=x at a l;generalize X.mode=y at b l;cases a;cases b;exact l ⟨rfl,_,rfl⟩
 refine yg.sem2 F.two.nf (ji8 F.two L u.target u.args) M N (fn:=g.fn) (λh W w2 Q e=>?_) λq x y R S=>?_
 .show y7 (callDeferred P X Y none d W).bare;unfold callDeferred;rw[if_neg];rotate_left
  .exact i _ _ l
  simp only[Sem.runT_eq,e,GStep.bare_after];cases h<;>first|exact Q.elim|trivial|exact jlc _ _ _|exact jk2 _ _ _ _ _ _
 have o:=K.mono R;have B:=o.top;cases S with
 |panic hv=>
  refine⟨_,_,_,_,o.put (jgp B (.cons (a:={v:=_,recovered:=false}) (b:={v:=_,recovered:=false}) ⟨hv,rfl,rfl⟩ .nil)) (va _ _).1 (va _ _).2,λW W1 e=>?_,λV W1 es e=>?_⟩
  .show (callDeferred P X Y none d W).bare=_;unfold callDeferred;rw[if_neg];rotate_left
   .exact i _ _ l
   simp only[Sem.runT_eq,e,yd.res,GStep.bare_after];rfl
  show callDeferred P g j none n V=_;unfold callDeferred;rw[if_neg];rotate_left
  .exact i _ _ r
  simp only[e,yd.res];exact jfn _ _ _
 |goexit=>
  refine⟨_,_,_,_,o.put (jgp B (.cons (a:=goexitEntry) (b:=goexitEntry) ⟨VR.undef _,rfl,rfl⟩ .nil)) (va _ _).1 (va _ _).2,λW W1 e=>?_,λV W1 es e=>?_⟩
  .show (callDeferred P X Y none d W).bare=_;unfold callDeferred;rw[if_neg];rotate_left
   .exact i _ _ l
   simp only[Sem.runT_eq,e,yd.res,GStep.bare_after];rfl
  show callDeferred P g j none n V=_;unfold callDeferred;rw[if_neg];rotate_left
  .exact i _ _ r
  simp only[e,yd.res];exact jfn _ _ _
 |val hn=>
  cases hn with
  |value hv=>
   refine⟨_,_,_,_,o,λW W1 e=>?_,λV W1 es e=>?_⟩
   .show (callDeferred P X Y none d W).bare=_;unfold callDeferred;rw[if_neg];rotate_left
    .exact i _ _ l
    simp only[Sem.runT_eq,e,yd.res,GStep.bare_after];rfl
   show callDeferred P g j none n V=_;unfold callDeferred;rw[if_neg];rotate_left
   .exact i _ _ r
   simp only[e,yd.res];exact jfn _ _ _
  |skip=>
   refine⟨_,_,_,_,o,λW W1 e=>?_,λV W1 es e=>?_⟩
   .show (callDeferred P X Y none d W).bare=_;unfold callDeferred;rw[if_neg];rotate_left
    .exact i _ _ l
    simp only[Sem.runT_eq,e,yd.res,GStep.bare_after];rfl
   show callDeferred P g j none n V=_;unfold callDeferred;rw[if_neg];rotate_left
   .exact i _ _ r
   simp only[e,yd.res];exact jfn _ _ _
  |enter hf ha=>
   refine⟨_,_,_,_,SkR.up (jle F hf ha (k:=.deferred) (.inr rfl)) o,λW W1 e=>?_,λV W1 es e=>?_⟩
   .show (callDeferred P X Y none d W).bare=_;unfold callDeferred;rw[if_neg];rotate_left
    .exact i _ _ l
    simp only[Sem.runT_eq,e,yd.res,GStep.bare_after];rfl
   show callDeferred P g j none n V=_;unfold callDeferred;rw[if_neg];rotate_left
   .exact i _ _ r
   simp only[e,yd.res];exact jfn _ _ _
  |round f rf hl ha hx hy=>
   refine⟨_,_,_,_,SkR.up (jm3 rf hl f ha hx hy (k:=.deferred) (.inr rfl)) o,λW W1 e=>?_,λV W1 es e=>?_⟩
   .show (callDeferred P X Y none d W).bare=_;unfold callDeferred;rw[if_neg];rotate_left
    .exact i _ _ l
    simp only[Sem.runT_eq,e,yd.res,GStep.bare_after];rfl
   show callDeferred P g j none n V=_;unfold callDeferred;rw[if_neg];rotate_left
   .exact i _ _ r
   simp only[e,yd.res];exact jfn _ _ _
  |defer hd2=>
   refine⟨_,_,_,_,o,λW W1 e=>?_,λV W1 es e=>?_⟩
   .show (callDeferred P X Y none d W).bare=_;unfold callDeferred;rw[if_neg];rotate_left
    .exact i _ _ l
    simp only[Sem.runT_eq,e,yd.res,GStep.bare_after];rfl
   show callDeferred P g j none n V=_;unfold callDeferred;rw[if_neg];rotate_left
   .exact i _ _ r
   simp only[e,yd.res];exact jfn _ _ _
  |recover=>
   have s:=jhe o;have H:=B.mode;have T:∃I J,SkR ok (j2 ok D gl P) E base q X I g J/\(∀W:Wl,(match X.mode,tryRecover X Y with|.returning,some (_,callers)=>GStep.go {frame:=X,callers,status:=.running,dying:=none} W|_,_=>GStep.go {frame:=X,callers:=Y,status:=.running,dying:=none} W)=.go (G0 X I) W)/\
    (∀W:Wl,(match g.mode,tryRecover g j with|.returning,some (_,callers)=>GStep.go {frame:=g,callers,status:=.running,dying:=none} W|_,_=>GStep.go {frame:=g,callers:=j,status:=.running,dying:=none} W)=.go (G0 g J) W):=by
      generalize X.mode=m1 at H;generalize g.mode=m2 at H;generalize tryRecover X Y=x1 at s;generalize tryRecover g j=x2 at s;cases H<;>cases x1<;>cases x2<;>first|exact s.elim|exact⟨_,_,o,λ_=>rfl,λ_=>rfl⟩|exact⟨_,_,s.2,λ_=>rfl,λ_=>rfl⟩
   obtain⟨I,J,U,ka,kb⟩:=T;refine⟨_,_,_,_,U,λW W1 e=>?_,λV W1 es e=>?_⟩
   .show (callDeferred P X Y none d W).bare=_;unfold callDeferred;rw[if_neg];rotate_left
    .exact i _ _ l
    simp only[Sem.runT_eq,e,yd.res,GStep.bare_after];exact congrArg GStep.bare (ka W1)
   show callDeferred P g j none n V=_;unfold callDeferred;rw[if_neg];rotate_left
   .exact i _ _ r
   simp only[e,yd.res];exact(congrArg (GStep.after _) (kb W1)).trans (jfn _ _ _)
end
section
variable {G:Nat} {p:Ren G} {E:String->Bool}
variable {D:List Fm}
def yg.sem3 (k:jrc P) {T:List Fm} {α β:Type} {R:Ren G->α->β->Prop} {m:Sem α} {m':Sem β} (h:SR ok C P R p m m') (l:WR ok C p w w') (n:WK Prot p w)
 {fn:Fi} {A B:Wl->GStep} (o:∀h W Z,q12 h->m.run P W=.halt h Z->y7 (A W).bare)
 (r:∀q x y,p.Le q->jo8 ok R q x y->(∀W X,m.run P W=x.res X->y7 (A W).bare)\/∃fr cs c f,SkR ok C D T q fr cs c f/\(∀W X,m.run P W=x.res X->(A W).bare=.go (G0 fr cs) X)/\∀V X Y,m'.runT P V #[]=(y.res X,Y)->B V=.go (G0 c f) X (seen P fn Y)):
 yg ok C P Prot D T p w w' A B:=by
 obtain⟨ans,e|⟨u,q,v,z,Y,x,y,F,H,I,i,J,K,j,L⟩⟩:=SR.run (Prot:=Prot) k h l n
 .refine⟨ans,.inl λt d a=>?_⟩;obtain⟨e,Z,b,M⟩:=e t d a;exact o e _ Z b M
 obtain g|⟨fr,cs,c,f,s,N,O⟩:=r q x y i.le K
 .exact⟨ans,.inl λt d a=>g _ _ (j t d a)⟩
 exact⟨ans,.inr ⟨u,q,v,z,fr,cs,c,f,seen P fn Y,F,H,I,i,λe Q=>J e (Conc.mem_seen Q),s,λt d a=>N _ _ (j t d a),λt d a=>O _ _ Y (by rw[L t d a #[]];simp)⟩⟩
def jno {i:List Fm} {f:Fm} {a:List Fm} (g:SkR ok C D i p fr cs f a) (h:cs≠D):∃c b d e,cs=c::d/\a=b::e/\SkR ok C D i p c d b e:=by
 cases g with
 |bot=>exact absurd rfl h
 |up _ s=>exact⟨_,_,_,_,rfl,rfl,s⟩
def jm2 {a b:Fm} (h:LR (IR C p) a.todo b.todo):a.catches P=false/\b.catches P=false:=by
 unfold Frame.catches;generalize a.todo=t1 at h;generalize b.todo=t2 at h;cases h with
 |nil=>exact⟨by cases P.funcs[a.fn]?<;>rfl,by cases P.funcs[b.fn]?<;>rfl⟩
 |cons hi _=>cases hi<;>exact⟨by cases P.funcs[a.fn]?<;>rfl,by cases P.funcs[b.fn]?<;>rfl⟩
def juw (D:List Fm) (fr:Fm) (cs:List Fm):Prop:=cs=D/\fr.defers=[]/\fr.mode≠.run
abbrev Out (fr:Fm) (cs:List Fm):Prop:=juw [c0] fr cs
def jo3 (F:jhy G P ok E gl) (I:Fx gl p) {base:List Fm} {a:Fm} {m:List Fm} (n:WR ok (j2 ok E gl P) p w w') (o:WK Prot p w)
 (A:SkR ok (j2 ok E gl P) D base p fr cs a m) (J:fr.mode≠.run) (ho:¬juw D fr cs) (main j:Bool):
 yg ok (j2 ok E gl P) P Prot D base p w w' (λW=>unwind P main fr cs none W) (λW=>unwind P j a m none W):=by
 have b:=A.top;have K:=b.defers;generalize i:fr.defers=d1 at K;generalize r:a.defers=d2 at K;cases K with
 |@cons d d' ds ds' h1 h2=>
  have s:SkR ok (j2 ok E gl P) D base p {fr with defers:=ds} cs {a with defers:=ds'} m:=A.put ⟨b.fn,b.tmps,b.todo,h2,b.mode,b.kind,b.kinds,b.round⟩ rfl rfl;obtain⟨tg,S⟩:=d;obtain⟨tg',T⟩:=d';have U:=h1.target;simp only at U;cases U with
  |collected e=>
   refine yg.sem3 F.two.nf (jj3 e) n o (fn:=a.fn) (λh W w2 hb e=>?_) λq x y u L=>?_
   .show y7 (unwind P main fr cs none W).bare;unfold unwind;rw[i];simp only[Sem.runT_eq,e,GStep.bare_after];trivial
   have B:=A.mono u;have k:=B.top;cases L with
   |panic hv=>
    refine .inl λW W1 e=>?_;show y7 (unwind P main fr cs none W).bare;unfold unwind;rw[i];simp only[Sem.runT_eq,e,GStep.bare_after,yd.res];trivial
   |goexit=>
    refine .inl λW W1 e=>?_;show y7 (unwind P main fr cs none W).bare;unfold unwind;rw[i];simp only[Sem.runT_eq,e,GStep.bare_after,yd.res];trivial
   |@val l l' hl=>
    refine .inr ⟨{fr with defers:=l++ds},_,{a with defers:=l'++ds'},_,B.put ⟨k.fn,k.tmps,k.todo,LR.append hl (LR.mono (λ_ _=>DR.mono u) h2),k.mode,k.kind,k.kinds,k.round⟩ rfl rfl,λW W1 e=>?_,λV W1 es e=>?_⟩
    .show (unwind P main fr cs none W).bare=_;unfold unwind;rw[i];simp only[Sem.runT_eq,e,GStep.bare_after,yd.res];rfl
    show unwind P j a m none V=_;unfold unwind;rw[r];simp only[e,yd.res];exact jfn _ _ _
  |@fn f g c z hf hc=>
   have M:(λW=>unwind P main fr cs none W)=λW=>callDeferred P {fr with defers:=ds} cs none ⟨.fn f c,S⟩ W:=funext λW=>by unfold unwind;rw[i]
   have N:(λW=>unwind P j a m none W)=λW=>callDeferred P {a with defers:=ds'} m none ⟨.fn g z,T⟩ W:=funext λW=>by unfold unwind;rw[r]
   rw[M,N];exact jgv F I n o s h1
  |nil=>
   have M:(λW=>unwind P main fr cs none W)=λW=>callDeferred P {fr with defers:=ds} cs none ⟨.nil,S⟩ W:=funext λW=>by unfold unwind;rw[i]
   have N:(λW=>unwind P j a m none W)=λW=>callDeferred P {a with defers:=ds'} m none ⟨.nil,T⟩ W:=funext λW=>by unfold unwind;rw[r]
   rw[M,N];exact jgv F I n o s h1
 |nil=>
  have hcs:cs≠D:=λe=>ho ⟨e,i,J⟩;obtain⟨c,z,es,O,rfl,rfl,H⟩:=jno A hcs;have Q:=b.mode;obtain⟨nc,nc'⟩:=jm2 (P:=P) b.todo
  generalize t:fr.mode=m1 at Q J;generalize R:a.mode=m2 at Q;cases Q with
  |run=>exact absurd rfl J
  |panicking hc=>
   refine .go n o (H.put (jgp H.top hc) (va _ _).1 (va _ _).2) (λW=>?_) λV=>?_
   .show (unwind P main fr (c::es) none W).bare=_;unfold unwind;rw[i,t];simp only[nc,Bool.false_eq_true,if_false];rfl
   show unwind P j a (z::O) none V=_;unfold unwind;rw[r,R];simp only[nc',Bool.false_eq_true,if_false];rfl
  |returning=>
   cases ef:P.funcs[fr.fn]?with
   |none=>
    obtain⟨X,Y,Z,aa,s,ka,kb⟩:=jg2 (P:=P) b H (jj7 b.tmps 0) main j;refine .go n o s (λW=>?_) λV=>?_
    .show (unwind P main fr (c::es) none W).bare=_;unfold unwind;rw[i,t];simp only[ef];exact ka W
    show unwind P j a (z::O) none V=_;unfold unwind;rw[r,R];simp only[b.fn,ef];exact kb V
   |some fn=>
    refine yg.sem3 F.two.nf (joa F.two.fit I fn b.tmps) n o (fn:=a.fn) (λh W w2 hb e=>?_) λq x y u L=>?_
    .show y7 (unwind P main fr (c::es) none W).bare;unfold unwind;rw[i,t];simp only[ef,Sem.runT_eq,e,GStep.bare_after];cases h<;>trivial
    have B:=H.mono u;have k:=b.mono u;cases L with
    |panic hv=>
     refine .inl λW W1 e=>?_;show y7 (unwind P main fr (c::es) none W).bare;unfold unwind;rw[i,t];simp only[ef,Sem.runT_eq,e,GStep.bare_after,yd.res];trivial
    |goexit=>
     refine .inl λW W1 e=>?_;show y7 (unwind P main fr (c::es) none W).bare;unfold unwind;rw[i,t];simp only[ef,Sem.runT_eq,e,GStep.bare_after,yd.res];trivial
    |@val v v' hv=>
     obtain⟨X,Y,Z,aa,s,ka,kb⟩:=jg2 (P:=P) k B hv main j;refine .inr ⟨X,Y,Z,aa,s,λW W1 e=>?_,λV W1 es0 e=>?_⟩
     .show (unwind P main fr (c::es) none W).bare=_;unfold unwind;rw[i,t];simp only[ef,Sem.runT_eq,e,GStep.bare_after,yd.res];exact ka W1
     show unwind P j a (z::O) none V=_;unfold unwind;rw[r,R];simp only[b.fn,ef,e,yd.res];rw[kb W1,jfn]
end
section
variable {G:Nat} {E:Code->Bool} {p:Ren G} {C:String->Bool}
variable {D:List Fm} {l:Nat}
def jqa {d:List Fm} {a:Fm} {b:List Fm} (c:SkR ok E D d p fr cs a b) (h:fr.roundOf=some l):cs≠D:=by
 cases c with
 |bot _ _ o=>rw[o]at h;cases h
 |up _ s=>exact λe=>by have:=s.long;rw[<-e]at this;simp at this;omega
def jf9 (F:jhy G P ok C gl) {T:List Fm} {b:Fm} {i:List Fm} (r:WR ok (j2 ok C gl P) p w w') (s:WK Prot p w)
 (d:SkR ok (j2 ok C gl P) D T p fr cs b i) {m:Nat} (t:fr.roundOf=some l) (u:p.f l=some m) (j:Option Code) (z:∀c,j=some c->j2 ok C gl P c=true) (X k:Bool)
 (H:∀W v a,(Instr.endRound l j).run P W=.ok v a->(A W).bare=(doReturn P X fr cs none v a).bare) (g:∀W h a,(Instr.endRound l j).run P W=.halt h a->y7 (A W).bare)
 (n:∀V v a Z,(Instr.endRound m j).runT P V #[]=(.ok v a,Z)->B V=GStep.after (seen P b.fn Z) (doReturn P k b i none v a)):
 yg ok (j2 ok C gl P) P Prot D T p w w' A B:=by
 refine yg.sem3 F.two.nf (jnm u j z) r s (fn:=b.fn) (λh W w2 n e=>g _ _ _ e) λq x y o I=>?_;cases I with
 |panic hv=>exact .inl λW Y e=>g _ _ _ e
 |goexit=>exact .inl λW Y e=>g _ _ _ e
 |val hv=>
  obtain⟨c,Q,R,S,rfl,rfl,J⟩:=jno (d.mono o) (jqa d t);obtain⟨K,L,M,N,O,ka,kb⟩:=jg2 (P:=P) (d.top.mono o) J hv X k;exact .inr ⟨K,L,M,N,O,λW Y e=>(H _ _ _ e).trans (ka Y),λV Y Z e=>by rw[n _ _ _ _ e,kb Y,jfn]⟩
def yg.pre {R:List Fm} {q:Ren G} {w2 w2':Wl} {j k:Wl->GStep} {ans0 ansC0:Ans} {es0:Array Event} (g:Gua Prot p q w' w2') (f:jfk w' w2' ansC0) (u:∀e∈es0,jlo Prot q e)
 (m:∀t d,Agr t d ans0->(A (At w t d)).bare=(j (At w2 t (d+ans0.length))).bare) (v:∀t d,Agr t d ansC0->B (At w' t d)=GStep.after es0 (k (At w2' t (d+ansC0.length)))) (s:yg ok E P Prot D R q w2 w2' j k):yg ok E P Prot D R p w w' A B:=by
 obtain⟨ans,h|⟨x,r,y,z,fr,cs,F,H,T,n,I,J,o,K,L,M,N⟩⟩:=s
 .refine⟨ans0++ans,.inl λt d a=>?_⟩;obtain⟨b,c⟩:=a.app;rw[m t d b];exact h t _ c
 refine⟨ans0++ans,.inr ⟨ansC0++x,r,y,z,fr,cs,F,H,es0++T,⟨f.agr.join ?_,?_⟩,I,J,g.trans o,λe O=>?_,L,λt d a=>?_,λt d a=>?_⟩⟩
 .have:=n.agr;rw[g.tape,f.drawn]at this;exact this
 .rw[n.drawn,f.drawn,nj,nz]
 .obtain i|i:=Array.mem_append.1 O
  .exact(u e i).mono o.le
  exact K e i
 .obtain⟨b,c⟩:=a.app;rw[m t d b,M t _ c,nj,nz]
 obtain⟨b,c⟩:=a.app;rw[v t d b,N t _ c,jlb,nj,nz]
def jjp (ρ:Operand->Vl) (f:Operand) (v:Vl):resolve ρ {callee:=.value f,args:=#[.const v],argTypes:=#[]} 0=Deferred.ofValue (ρ f) #[ρ (.const v)]:=by
 simp[resolve]
def jqw (F:jhy G P ok C gl) (r:Fx gl p) {M:List Fm} (v:ok RF=true->y9 D/\y9 M) {a:Fm} {b:List Fm} (x:WR ok (j2 ok C gl P) p w w') (y:WK Prot p w)
 (s:SkR ok (j2 ok C gl P) D M p fr cs a b) (f:∀o,fr.oper?=some o->jf7 ok C gl P o.op=true):
 yg ok (j2 ok C gl P) P Prot D M p w w' (λW=>stepG.oper P true fr cs none W) (λW=>stepG.oper P true a b none W):=by
 have j:=s.top;have k:=j.round;have n:=jsj j;cases eo:fr.oper? with
 |none=>exact .bad λW=>by unfold stepG.oper;simp only[eo];trivial
 |some o=>
  rw[eo]at n;have f:=f o eo;have H:SR ok (j2 ok C gl P) P (NR ok (j2 ok C gl P)) p (execOp fr.eval o) (execOp a.eval o):=jqd F.two r (jj6 r j) o f;have z:=jhs (Prot:=Prot) F v x y s true H;generalize t:fr.roundOf=r1 at k;generalize u:a.roundOf=r2 at k;cases r1<;>cases r2<;>first|exact k.elim|skip
  .have g:(λW=>stepG.oper P true fr cs none W)=λW=>stepG.apply P true fr cs none (execOp fr.eval o) W:=funext λW=>by unfold stepG.oper;simp only[eo,t]
   have i:(λW=>stepG.oper P true a b none W)=λW=>stepG.apply P true a b none (execOp a.eval o) W:=funext λW=>by unfold stepG.oper;simp only[n,u]
   rw[g,i];exact z
  rename_i l m;by_cases e:∃c,o.op=.defer c
  .obtain⟨c,e⟩:=e;rw[e]at f;have g:(λW=>stepG.oper P true fr cs none W)=λW=>stepG.apply P true fr cs none (do Instr.deferInRound l (<-resolve fr.eval c o.type);pure .skip) W:=funext λW=>by unfold stepG.oper;simp only[eo,t,e]
   have i:(λW=>stepG.oper P true a b none W)=λW=>stepG.apply P true a b none (do Instr.deferInRound m (<-resolve a.eval c o.type);pure .skip) W:=funext λW=>by unfold stepG.oper;simp only[n,u,e]
   rw[g,i];exact jhs F v x y s true (SR.bind (jjn (jj6 r j) c f _) λq d J I h=>SR.bind (jjy (I _ _ k) h) λK _ _ L _=>qs .skip)
  have g:(λW=>stepG.oper P true fr cs none W)=λW=>stepG.apply P true fr cs none (execOp fr.eval o) W:=funext λW=>by
   unfold stepG.oper;simp only[eo,t];split
   .next h2=>exact absurd ⟨_,h2⟩ e
   rfl
  have i:(λW=>stepG.oper P true a b none W)=λW=>stepG.apply P true a b none (execOp a.eval o) W:=funext λW=>by
   unfold stepG.oper;simp only[n,u];split
   .next h2=>exact absurd ⟨_,h2⟩ e
   rfl
  rw[g,i];exact z
def jr4 (F:jhy G P ok C gl) (hp:Fx gl p) {base:List Fm} (hpl:ok RF=true->y9 D/\y9 base) {H:Fm} {N:List Fm} (T:WR ok (j2 ok C gl P) p w w') (U:WK Prot p w)
 (O:SkR ok (j2 ok C gl P) D base p fr cs H N) (emode:fr.mode=.run) (hns:¬q11 ok C gl P fr) (main X:Bool):
 yg ok (j2 ok C gl P) P Prot D base p w w' (λW=>stepG.exec P main true fr cs none W) (λW=>stepG.exec P X true H N none W):=by
 have z:=O.top;have Q:=z.round;have ht:=z.todo;generalize g:fr.todo=t1 at ht;generalize I:H.todo=t2 at ht;generalize K:fr.roundOf=r1 at Q;generalize e4:H.roundOf=r2 at Q;have S:∀{k k':List Item},LR (IR (j2 ok C gl P) p) k k'->(∀W,stepG.exec P main true fr cs none W=.go (G0 {fr with todo:=k} cs) W)->(∀W,stepG.exec P X true H N none W=.go (G0 {H with todo:=k'} N) W)->
  yg ok (j2 ok C gl P) P Prot D base p w w' (λW=>stepG.exec P main true fr cs none W) (λW=>stepG.exec P X true H N none W):=λ{k k'} h ha hb=>
  .go T U (O.put (a':={fr with todo:=k}) (b':={H with todo:=k'}) ⟨z.fn,z.tmps,h,z.defers,z.mode,z.kind,z.kinds,z.round⟩ rfl rfl) (λW=>by rw[ha];rfl) hb
 cases ht with
 |nil=>
  cases r1<;>cases r2<;>first|exact Q.elim|skip
  .refine .go T U (O.put (a':={fr with mode:=.returning}) (b':={H with mode:=.returning}) ⟨z.fn,z.tmps,z.todo,z.defers,.returning,z.kind,z.kinds,z.round⟩ rfl rfl) (λW=>?_) λV=>?_
   .unfold stepG.exec;simp only[g,K];rfl
   unfold stepG.exec;simp only[I,e4];rfl
  refine jf9 F T U O K Q none (λc h=>by cases h) main X (λW v Y e=>?_) (λW h Y e=>?_) λV v Y es e=>?_
  .unfold stepG.exec;simp only[g,K,Sem.runT_eq,e,GStep.bare_after]
  .unfold stepG.exec;simp only[g,K,Sem.runT_eq,e,GStep.bare_after];trivial
  unfold stepG.exec;simp only[I,e4,e]
 |@cons i i' k k' hi hk'=>
  cases hi with
  |inBlock=>exact S hk' (λW=>oD) (λV=>oE)
  |inScope=>exact S hk' (λW=>oD) (λV=>oE)
  |@inLoop b h=>exact S (.cons (.code h) (.cons (.inLoop h) hk')) (λW=>oD) (λV=>oE)
  |inRangeFunc h=>exact .bad λW=>by unfold stepG.exec;simp only[g];trivial
  |@endRangeFunc l m h=>
   refine yg.sem3 F.two.nf (joi F.two.fit hp h) T U (fn:=H.fn) (λh W w2 hb e=>?_) λq x y hq hxy=>?_
   .show y7 (stepG.exec P main true fr cs none W).bare;unfold stepG.exec;simp only[g,Sem.runT_eq,e,GStep.bare_after];cases h<;>first|exact hb.elim|trivial
   have sq:=O.mono hq;have J:=sq.top;have hkq:LR (IR (j2 ok C gl P) q) k k':=LR.mono (λ_ _=>IR.mono hq) hk';cases hxy with
   |goexit=>exact .inl λW W1 e=>by show y7 (stepG.exec P main true fr cs none W).bare;unfold stepG.exec;simp only[g,Sem.runT_eq,e,GStep.bare_after,yd.res];trivial
   |panic hv=>
    refine .inr ⟨_,_,_,_,sq.put (jgp J (.cons (a:={v:=_,recovered:=false}) (b:={v:=_,recovered:=false}) ⟨hv,rfl,rfl⟩ .nil)) (va _ _).1 (va _ _).2,λW W1 e=>?_,λV W1 es e=>?_⟩
    .show (stepG.exec P main true fr cs none W).bare=_;unfold stepG.exec;simp only[g,Sem.runT_eq,e,GStep.bare_after,yd.res];rfl
    show stepG.exec P X true H N none V=_;unfold stepG.exec;simp only[I,e,yd.res];exact jfn _ _ _
   |@val j j' hj=>
    obtain⟨rfl,hj⟩:=hj
    have hkj:LR (IR (j2 ok C gl P) q) ((j.map Item.code).toList++k) ((j.map Item.code).toList++k'):=by
        cases j with
        |none=>exact hkq
        |some c=>exact .cons (.code (hj c rfl)) hkq
    refine .inr ⟨{fr with todo:=(j.map Item.code).toList++k},_,{H with todo:=(j.map Item.code).toList++k'},_,sq.put ⟨J.fn,J.tmps,hkj,J.defers,J.mode,J.kind,J.kinds,J.round⟩ rfl rfl,λW W1 e=>?_,λV W1 es e=>?_⟩
    .show (stepG.exec P main true fr cs none W).bare=_;unfold stepG.exec;simp only[g,Sem.runT_eq,e,GStep.bare_after,yd.res];rfl
    show stepG.exec P X true H N none V=_;unfold stepG.exec;simp only[I,e,yd.res];exact jfn _ _ _
  |beginRound=>
   have ea:(λW=>stepG.exec P main true fr cs none W)=λW=>stepG.apply P true fr cs none (do r1.elim (stuck "beginRound: no round") Instr.beginRound;pure .skip) W:=funext λW=>by unfold stepG.exec;simp only[g,K]
   have eb:(λW=>stepG.exec P X true H N none W)=λW=>stepG.apply P true H N none (do r2.elim (stuck "beginRound: no round") Instr.beginRound;pure .skip) W:=funext λW=>by unfold stepG.exec;simp only[I,e4]
   rw[ea,eb];refine jhs F hpl T U O true ?_;cases r1<;>cases r2<;>first|exact Q.elim|skip
   .exact .dead (yw.bind (.halt (h:=.stuck _) trivial) _)
   exact SR.bind (jll F.two.fit hp Q) λq _ _ hq _=>qs .skip
  |@inRegion ops l h=>
   cases l with
   |nil=>exact S hk' (λW=>oD) (λV=>oE)
   |cons n rest=>
    have ey:=jnu ops z.tmps;cases ew:((ops[n]?).map (Region.wanted · (yielded ops fr.tmps))).getD false with
    |false=>
     refine .go T U (O.put (jfl z (VR.undef _)) (yr _ _).1 (yr _ _).2) (λW=>?_) λV=>?_
     .unfold stepG.exec;simp only[g,ew];rfl
     unfold stepG.exec;simp only[I,ey,ew];rfl
    |true=>
     have ea:(λW=>stepG.exec P main true fr cs none W)=λW=>stepG.oper P true fr cs none W:=funext λW=>by unfold stepG.exec;simp only[g,ew];rfl
     have eb:(λW=>stepG.exec P X true H N none W)=λW=>stepG.oper P true H N none W:=funext λW=>by unfold stepG.exec;simp only[I,ey,ew];rfl
     rw[ea,eb];refine jqw F hp hpl T U O λo eo=>?_;unfold Frame.oper? at eo;rw[g]at eo;exact jqy (h n List.mem_cons_self o eo)
  |@code c h=>
   cases c with
   |skip=>exact S hk' (λW=>oD) (λV=>oE)
   |label=>exact S hk' (λW=>oD) (λV=>oE)
   |seq a b=>
    simp only[j2,Bool.and_eq_true]at h;exact S (.cons (.code h.1) (.cons (.code h.2) hk')) (λW=>oD) (λV=>oE)
   |block n b=>
    have h:j2 ok C gl P b=true:=h;exact S (.cons (.code h) (.cons (.inBlock n) hk')) (λW=>oD) (λV=>oE)
   |loop b=>
    have h:j2 ok C gl P b=true:=h;exact S (.cons (.code h) (.cons (.inLoop h) hk')) (λW=>oD) (λV=>oE)
   |scope b=>
    have h:j2 ok C gl P b=true:=h;exact S (.cons (.code h) (.cons (.inScope h) hk')) (λW=>oD) (λV=>oE)
   |refuse=>exact .bad λW=>by unfold stepG.exec;simp only[g];trivial
   |cond x a b=>
    simp only[j2,Bool.and_eq_true]at h;have L:=jj6 hp z x h.1.1;generalize M:fr.eval x=v at L;generalize e6:H.eval x=v' at L;cases L with
    |bool b0=>exact S (.cons (.code (c:=if b0 then a else b) (by cases b0;exact h.2;exact h.1.2)) hk') (λW=>by unfold stepG.exec;simp only[g,M];rfl) (λV=>by unfold stepG.exec;simp only[I,e6];rfl)
    |_=>exact .bad λW=>by unfold stepG.exec;simp only[g,M];trivial
   |ret=>
    cases r1<;>cases r2<;>first|exact Q.elim|skip
    .refine .go T U (O.put (a':={fr with mode:=.returning}) (b':={H with mode:=.returning}) ⟨z.fn,z.tmps,z.todo,z.defers,.returning,z.kind,z.kinds,z.round⟩ rfl rfl) (λW=>?_) λV=>?_
     .unfold stepG.exec;simp only[g,K];rfl
     unfold stepG.exec;simp only[I,e4];rfl
    refine jf9 F T U O K Q (some .ret) (λc h=>by cases h;rfl) main X (λW v Y e=>?_) (λW h Y e=>?_) λV v Y es e=>?_
    .unfold stepG.exec;simp only[g,K,Sem.runT_eq,e,GStep.bare_after]
    .unfold stepG.exec;simp only[g,K,Sem.runT_eq,e,GStep.bare_after];trivial
    unfold stepG.exec;simp only[I,e4,e]
   |exit n=>
    have L:=jsn n hk';generalize M:exitTo n k=x at L;generalize e6:exitTo n k'=x' at L;cases x<;>cases x'<;>first|exact L.elim|skip
    rotate_left
    .exact S L (λW=>by unfold stepG.exec;simp only[g,M,Option.elim_some];rfl) (λV=>by unfold stepG.exec;simp only[I,e6,Option.elim_some];rfl)
    cases r1<;>cases r2<;>first|exact Q.elim|skip
    .exact .bad λW=>by unfold stepG.exec;simp only[g,K,M,Option.elim_none];trivial
    refine jf9 F T U O K Q (some (.exit n)) (λc h=>by cases h;rfl) main X (λW v Y e=>?_) (λW h Y e=>?_) λV v Y es e=>?_
    .unfold stepG.exec;simp only[g,K,M,Option.elim_none,Sem.runT_eq,e,GStep.bare_after]
    .unfold stepG.exec;simp only[g,K,M,Option.elim_none,Sem.runT_eq,e,GStep.bare_after];trivial
    unfold stepG.exec;simp only[I,e4,e6,Option.elim_none,e]
   |goto n=>
    have L:=jrd n hk';generalize M:gotoIn n k=x at L;generalize e6:gotoIn n k'=x' at L;cases x<;>cases x'<;>first|exact L.elim|skip
    rotate_left
    .exact S L (λW=>by unfold stepG.exec;simp only[g,M,Option.elim_some];rfl) (λV=>by unfold stepG.exec;simp only[I,e6,Option.elim_some];rfl)
    cases r1<;>cases r2<;>first|exact Q.elim|skip
    .exact .bad λW=>by unfold stepG.exec;simp only[g,K,M,Option.elim_none];trivial
    refine jf9 F T U O K Q (some (.goto n)) (λc h=>by cases h;rfl) main X (λW v Y e=>?_) (λW h Y e=>?_) λV v Y es e=>?_
    .unfold stepG.exec;simp only[g,K,M,Option.elim_none,Sem.runT_eq,e,GStep.bare_after]
    .unfold stepG.exec;simp only[g,K,M,Option.elim_none,Sem.runT_eq,e,GStep.bare_after];trivial
    unfold stepG.exec;simp only[I,e4,e6,Option.elim_none,e]
   |region n ops d=>
    have all:∀(l:List Nat) (L:(ops.all λo=>jf7 ok C gl P o.op)=true),∀m∈l,∀x,ops[m]?=some x->j2 ok C gl P (.region 0 #[x] true)=true:=λl L m _ x e=>jkg (jmq L x (mS e));cases d with
    |false=>
     simp only[j2,Bool.or_eq_true]at h;have h:=h.resolve_right λq=>hns ⟨emode,n,ops,k,g,q⟩;exact S (.cons (.inRegion (o:=ops) (List.range ops.size) (all _ h)) hk') (λW=>oD) (λV=>oE)
    |true=>
     have h:(ops.all λo=>jf7 ok C gl P o.op)=true:=by simpa[j2,cvR]using h
     refine yg.sem3 F.two.nf (R:=yk) (m:=choose (.order fr.fn n)) (m':=choose (.order fr.fn n)) (.choose λ_=>.pure rfl) T U (fn:=H.fn) (λh W w2 hb e=>?_) λq x y hq hxy=>?_
     .show y7 (stepG.exec P main true fr cs none W).bare;unfold stepG.exec;simp only[g,e];trivial
     have sq:=O.mono hq;have J:=sq.top;cases hxy with
     |goexit=>exact .inl λW W1 e=>by show y7 (stepG.exec P main true fr cs none W).bare;unfold stepG.exec;simp only[g,e,yd.res];trivial
     |panic hv=>exact .inl λW W1 e=>by show y7 (stepG.exec P main true fr cs none W).bare;unfold stepG.exec;simp only[g,e,yd.res];trivial
     |@val t t' ht=>
      cases ht;refine .inr ⟨{fr with todo:=.inRegion ops (Region.schedule (P.follows .mixedOrders) ops t)::k},_,{H with todo:=.inRegion ops (Region.schedule (P.follows .mixedOrders) ops t)::k'},_,sq.put ⟨J.fn,J.tmps,.cons (.inRegion _ (all _ h)) (LR.mono (λ_ _=>IR.mono hq) hk'),J.defers,J.mode,J.kind,J.kinds,J.round⟩ rfl rfl,λW W1 e=>?_,λV W1 es e=>?_⟩
      .show (stepG.exec P main true fr cs none W).bare=_;unfold stepG.exec;simp only[g,e,yd.res];rfl
      have M:((choose (.order fr.fn n)).runT P V #[]).2=#[]:=by
           show ((Sem.choose (.order fr.fn n) Sem.pure).runT P V #[]).2=#[];unfold Sem.runT;split<;>rfl
      have e6:(choose (.order fr.fn n)).run P V=.ok t W1:=by
           have:=congrArg Prod.fst e;rwa [Sem.runT_fst]at this
      rw[e]at M;cases M;show stepG.exec P X true H N none V=_;unfold stepG.exec;simp only[I,z.fn,e6];rfl
   |rangeFunc f ps a b=>
    simp only[j2,Bool.and_eq_true]at h;have hr2:vg (λr s=>p.f r=some s) fr.roundOf H.roundOf:=z.round;have hE:=jms (P:=P) fr.fn z.tmps ps h.1.2 h.2 hr2
    have halt:∀W h w2,(Instr.enterLoop fr.fn fr.tmps ps a b fr.roundOf).run P W=.halt h w2->y7 (stepG.exec P main true fr cs none W).bare:=λW h w2 e=>by
        unfold stepG.exec;simp only[g,Sem.runT_eq,e,GStep.bare_after];trivial
    obtain⟨ans,e|⟨ansC,q,Y,w1',es,x,y,g0,g1,g2,g3,g4,g5,g6,g7⟩⟩:=SR.run (Prot:=Prot) F.two.nf hE T U
    .refine⟨ans,.inl λt d Z=>?_⟩;obtain⟨e,w2,_,Q⟩:=e t d Z;exact halt _ _ _ Q
    have g8:=λt d Z=>g7 t d Z #[];simp only[Array.empty_append]at g8;cases g5 with
    |panic=>exact⟨ans,.inl λt d Z=>halt _ _ _ (g6 t d Z)⟩
    |goexit=>exact⟨ans,.inl λt d Z=>halt _ _ _ (g6 t d Z)⟩
    |@val u v huv=>
     obtain⟨l,mk⟩:=u;obtain⟨l',mk'⟩:=v;obtain⟨hl,hm⟩:=huv;simp only at hl hm;have sq:=O.mono g3.le;have J:=sq.top
     have s2:SkR ok (j2 ok C gl P) D base q {fr with todo:=.inRangeFunc l::k,defers:=mk++fr.defers} cs {H with todo:=.inRangeFunc l'::k',defers:=mk'++H.defers} N:=
         sq.put ⟨J.fn,J.tmps,.cons (.inRangeFunc hl) (LR.mono (λ_ _=>IR.mono g3.le) hk'),LR.append hm J.defers,J.mode,J.kind,J.kinds,J.round⟩ rfl rfl
     have ap:=jhs (Prot:=Prot) F hpl g1 g2 s2 true (SR.bind (jh4 (jj6 (hp.mono g3.le) s2.top f h.1.1.2) (Arr.one (VR.funcA (.yield h.1.1.1 hl) Arr.nil Arr.nil))) λq1 d e hq1 hd=>ji8 F.two ((hp.mono g3.le).mono hq1) hd.target hd.args);refine yg.pre g3 g0 (ans0:=ans) (es0:=seen P H.fn es) (λe he=>g4 e (Conc.mem_seen he)) (λt d Z=>?_) (λt d Z=>?_) ap
     .show (stepG.exec P main true fr cs none (At w t d)).bare=_;unfold stepG.exec;simp only[g,Sem.runT_eq,g6 t d Z,GStep.bare_after,yd.res,jjp];rfl
     show stepG.exec P X true H N none (At w' t d)=_;unfold stepG.exec;simp only[I,z.fn,g8 t d Z,yd.res,jjp];rfl
def jsa (F:jhy G P ok C gl) (m:Fx gl p) {y:List Fm} (s:ok RF=true->y9 D/\y9 y) {a:Fm} {c:List Fm} (o:WR ok (j2 ok C gl P) p w w') (q:WK Prot p w)
 (f:SkR ok (j2 ok C gl P) D y p fr cs a c) (t:¬juw D fr cs) (u:¬q11 ok C gl P fr) (x b:Bool):
 yg ok (j2 ok C gl P) P Prot D y p w w' (λW=>stepG P x (G0 fr cs) W) (λW=>stepG P b (G0 a c) W):=by
 have g:=f.top.mode;generalize d:fr.mode=m1 at g;generalize i:a.mode=m2 at g;have r:∀{n:FrameMode},n≠.run->fr.mode=n->a.mode≠.run->yg ok (j2 ok C gl P) P Prot D y p w w' (λW=>stepG P x (G0 fr cs) W) (λW=>stepG P b (G0 a c) W):=λ{n} hn e hn'=>by
  have j:(λW=>stepG P x (G0 fr cs) W)=λW=>unwind P x fr cs none W:=funext λW=>by
   unfold stepG G0;cases e9:fr.mode with
   |run=>exact absurd (e.symm.trans e9) hn
   |returning=>simp only[e9]
   |panicking=>simp only[e9]
  have k:(λW=>stepG P b (G0 a c) W)=λW=>unwind P b a c none W:=funext λW=>by
   unfold stepG G0;cases e9:a.mode with
   |run=>exact absurd e9 hn'
   |returning=>simp only[e9]
   |panicking=>simp only[e9]
  rw[j,k];exact jo3 F m o q f (e▸hn) t x b
 cases g with
 |run=>
  have j:(λW=>stepG P x (G0 fr cs) W)=λW=>stepG.exec P x true fr cs none W:=funext λW=>by
   unfold stepG G0;simp only[d]
  have k:(λW=>stepG P b (G0 a c) W)=λW=>stepG.exec P b true a c none W:=funext λW=>by
   unfold stepG G0;simp only[i]
  rw[j,k];exact jr4 F m s o q f d u x b
 |returning=>exact r (λh=>by cases h) d (λh=>by rw[i]at h;cases h)
 |panicking=>exact r (λh=>by cases h) d (λh=>by rw[i]at h;cases h)
end
section
structure Cfg where
 fr:Fm
 cs:List Fm
 w:Wl
def jld (P:Pq) (c c':Cfg) (ans:Ans):Prop:=∀t d,Agr t d ans->(stepG P true (G0 c.fr c.cs) (At c.w t d)).bare=.go (G0 c'.fr c'.cs) (At c'.w t (d+ans.length))
def jf8 (P:Pq) (c' c:Cfg):Prop:=(∃ans,jld P c c' ans)/\¬Out c.fr c.cs
def jux (P:Pq) (c:Cfg) (t:Nat->Question->Nat) (d:Nat):Prop:=∃n fr w',runN P n (lone c.fr c.cs (At c.w t d))=.next (lone fr [c0] w')/\Out fr [c0]
def jsl {α:Type} {r:α->α->Prop} {a:α} (h:¬Acc r a):∃f:Nat->α,f 0=a/\∀n,r (f (n+1)) (f n):=by
 have b:∀x:{x//¬Acc r x},∃y:{x//¬Acc r x},r y.1 x.1:=λx=>by
  apply mP;intro d;exact x.2 (Acc.intro _ λy e=>mP λi=>d ⟨⟨y,i⟩,e⟩)
 let g:Nat->{x//¬Acc r x}:=λn=>Nat.rec ⟨a,h⟩ (λ_ x=>Classical.choose (b x)) n
 exact⟨λn=>(g n).1,rfl,λn=>Classical.choose_spec (b (g n))⟩
def cat (an:Nat->Ans):Nat->Ans
 |0=>[]
 |n+1=>cat an n++an n
def jpw (a:Nat->Ans) {n m:Nat} (h:n<=m) {i:Nat} {x:Question×Nat} (e:(cat a n)[i]?=some x):(cat a m)[i]?=some x:=by
 induction h with
 |refl=>exact e
 |step _ ih=>
  show (cat a _++a _)[i]?=some x;rw[List.getElem?_append_left ((List.getElem?_eq_some_iff.1 ih).1)];exact ih
open Classical in
noncomputable def jjd (an:Nat->Ans):Nat->Question->Nat:=λi _=>if h:∃n x,(cat an n)[i]?=some x then (Classical.choose (Classical.choose_spec h)).2 else 0
def jok (a:Nat->Ans) (n:Nat):Agr (jjd a) 0 (cat a n):=λi x e=>by
 have h:∃n x,(cat a n)[i]?=some x:=⟨n,x,e⟩;unfold jjd;rw[mF,dif_pos h];have d:=Classical.choose_spec (Classical.choose_spec h);rcases Nat.le_total n (Classical.choose h)with b|b
 .have:=jpw a b e;rw[d]at this;rw[mR this]
 have:=jpw a b d;rw[e]at this;rw[mR this]
variable {c:Cfg}
def jnf (h:∀t,jux P c t 0):Acc (jf8 P) c:=by
 apply mP;intro o;obtain⟨f,p,d⟩:=jsl o;have g:=λn=>(d n).1
 let an:Nat->Ans:=λn=>Classical.choose (g n)
 have q:∀n,jld P (f n) (f (n+1)) (an n):=λn=>Classical.choose_spec (g n);obtain⟨n,x,w',i,j⟩:=h (jjd an)
 have r:∀k,runN P k (lone c.fr c.cs (At c.w (jjd an) 0))=.next (lone (f k).fr (f k).cs (At (f k).w (jjd an) (cat an k).length)):=by
  intro k;induction k with
  |zero=>rw[p];rfl
  |succ k ih=>
   have l:=(Agr.app (a:=cat an k) (b:=an k) (jok an (k+1))).2;rw[mF]at l;have s:=step_lone_go (q k _ _ l);have u:(cat an (k+1)).length=(cat an k).length+(an k).length:=by show (cat an k++an k).length=_;rw[nj]
   rw[u,runN_add,ih];show runN P 1 _=_;unfold runN;rw[s];rfl
 rw[r n]at i;have e:lone (f n).fr (f n).cs (At (f n).w (jjd an) (cat an n).length)=lone x [c0] w':=by injection i
 have m:(f n).fr=x/\(f n).cs=[c0]:=by
  unfold lone at e;simp at e;exact⟨e.2.1,e.2.2⟩
 rw[<-m.1,<-m.2]at j;exact(d n).2 j
def jut (P:Pq) (R:Fm->Wv) (c:Cfg) (t:Nat->Question->Nat) (d:Nat):Prop:=∃n fr w',runN P n (lone c.fr c.cs (At c.w t d))=.next (lone fr [c0] w')/\Out fr [c0]/\R fr w'
def Inv (P:Pq) (R:Fm->Wv) (c:Cfg) (past:Ans):Prop:=∀t,Agr t 0 past->jut P R c t past.length
def jih {d a:Fm} {h b:List Fm} {w w':Wl} (e:lone d h w=lone a b w'):d=a/\h=b/\w=w':=by
 unfold lone at e;simp at e;exact⟨e.2.1,e.2.2,e.1⟩
variable {R:Fm->Wv}
def Inv.step {f:Cfg} {b ans:Ans} (h:Inv P R c b) (i:jld P c f ans) (j:¬Out c.fr c.cs):Inv P R f (b++ans):=λt k=>by
 obtain⟨l,g⟩:=k.app;rw[mF]at g;obtain⟨n,r,w',a,d,m⟩:=h t l;have o:=step_lone_go (i t _ g);cases n with
 |zero=>
  have e:lone c.fr c.cs (At c.w t b.length)=lone r [c0] w':=by unfold runN at a;injection a
  obtain⟨p,q,_⟩:=jih e;rw[<-p,<-q]at d;exact absurd d j
 |succ n=>
  unfold runN at a;rw[o]at a;exact⟨n,r,w',by rw[nj];exact a,d,m⟩
def Inv.acc (h:Inv P R c []):Acc (jf8 P) c:=
 jnf λt=>by
  obtain⟨n,d,w',a,b,_⟩:=h t (Agr.nil t 0);exact⟨n,d,w',a,b⟩
end
open Go.Conc Go.ConcN Go.RowKit Go.Conc.Lib Go.ConcR.Gen Go.ConcN.Gen
open Go.ConcR (KK wgBlock WgAt stA smA rd wr mk Payload Aside2 DC0)
variable {E:Env} {z:Vl->Wv} {γ:Gam} {J:Wl} {G1:Grp}
variable [Payload] {L:WgLink} {C:Fm} {D:Act} {A:Array Oper} {F:Nat} {B:List Nat} {I:List Item} {K:List Fm}
def jof (H:WgLib P L) (b:E.tyWg=L.tWg) (c:γ.ph=.shut G1) (d:G1.W<=16) (e:¬γ.own G1.Wg) (f:¬γ.rd G1.Wg) (g:WgL E G1.Wg J) (h:∀a w',q9 E γ J a->jkl E G1 a->q9 E (γ.back G1) a w'->q7 P E z true (γ.back G1) (G (C.at (D.put ((A[F]?).bind (·.dst)) (.tuple #[])) (.inRegion A B::I)) K) w') (N:Nat) (m:N<=16):∀(T:Av) (w:Wl),T.size=84->T[0]?=some (PP G1.Wg)->q9 E γ J w->(∃u,u<N/\WgQ E G1.Wg w ((u:Nat)*KQ) 0)->q7 P E z true (γ.to (.waits G1)) (G ((base L.wait).at ⟨T,[]⟩ [.code (L7 L),.inLoop (L7 L),.inBlock 0]) (C.at D (.inRegion A (F::B)::I)::K)) w:=by
 induction N with
 |zero=>intro T w _ _ _ ⟨u,i,_⟩;omega
 |succ N ih=>
  intro T w j k l ⟨u,i,q⟩;exact jlf H b c d e f g h N (ih oe) T w j k l (.inr ⟨u,oe,q⟩)
def jq6 (H:WgLib P L) (g:E.tyWg=L.tWg) (e:γ.ph=.shut G1) (i:G1.W<=16) (j:¬γ.own G1.Wg) (k:¬γ.rd G1.Wg) (l:WgL E G1.Wg J) (n:∀f w',q9 E γ J f->jkl E G1 f->q9 E (γ.back G1) f w'->q7 P E z true (γ.back G1) (G (C.at (D.put ((A[F]?).bind (·.dst)) (.tuple #[])) (.inRegion A B::I)) K) w'):q7 P E z true γ (G ((base L.wait).at ⟨#[PP G1.Wg]++Array.replicate ((waitFn L).ntmps-1) undef,[]⟩ [.code (body_wait L)]) (C.at D (.inRegion A (F::B)::I)::K)) J:=by
 have q:=jlf H g e i j k l n 16 (jof H g e i j k l n 16 (mC _));lib_facts
 have s:γ.ph.grp=some G1:=mi;have t:γ.ph.wt=false:=mi;have c:q9 E γ J J:=q9.refl _ _ _;refine q7.by (m:=40) ?_;simp only[body_wait,waitFn,Option.getD_some];walk_nrm;refine Wz c q9.trans λ_ c=>?_
 refine mz (λx o=>?_);replace c:=c.trans o;clear o;refine q7.disW (G1:=G1) e rfl (λ_=>stepG_mark0 .disable oi rfl rfl oX rfl H.f_disable (x_disable_n L) (x_disable_b L) (x_disable_x L) (x_disable_f L)) λy p=>?_;replace c:=c.trans p;clear p;have d:∀{a b:Wl},q9 E γ J a->q9 E (γ.to (.waits G1)) a b->q9 E γ J b:=λh r=>h.trans (r.back (by rw[s];rfl) t);refine q7.by (m:=20) ?_
 walk_nrm;refine Fz @d c λ_ c=>?_
 u_c stepG_loop d c
 refine mz (λu v=>?_);replace c:=d c v;exact q _ u rfl rfl c (.inl rfl)
end Go.Proofs.YtbfkeoagmajcpaaGreatDoor
