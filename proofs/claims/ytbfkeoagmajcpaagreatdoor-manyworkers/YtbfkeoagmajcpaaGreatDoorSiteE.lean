import Derived.Test.YtbfkeoagmajcpaaGreatDoorKAx
set_option linter.defProp false
set_option linter.unusedSectionVars false
set_option linter.unusedSimpArgs false
set_option linter.unusedVariables false
namespace Go.Proofs.YtbfkeoagmajcpaaGreatDoor
variable {A:Code->Bool} {B C:Type} {G r s:Nat} {P:Pq} {a b d:Addr} {c:Av} {f:Nat×Nat} {m:Mode} {o:Obj} {ok:Fi->Bool} {v:Vl} {w w':Wl}
section
def OD1:Nat:=1000000002
def OD2:Nat:=1000000003
def odd (r:Nat):Bool:=r==OD1||r==OD2
def jhb (h:odd r=true):r=OD1\/r=OD2:=by simpa[odd]using h
def not_odd (h:OD2<r):odd r=false:=by
 rw[<-Bool.not_eq_true];intro q;have:=jhb q;unfold OD1 OD2 at*;omega
structure Ren (G:Nat) where
 f:Nat->Option Nat
 inj:∀a b c,f a=some c->f b=some c->a=b
 low:∀a b,f a=some b->(a<G↔b<G)
def Ren.Le (p q:Ren G):Prop:=∀a b,p.f a=some b->q.f a=some b
def Ren.Le.refl (p:Ren G):p.Le p:=λ_ _ h=>h
variable {p q:Ren G}
def Ren.Le.trans {r:Ren G} (h:p.Le q) (g:q.Le r):p.Le r:=λ_ _ e=>g _ _ (h _ _ e)
def Ren.add (p:Ren G) (a b:Nat) (h:∀x,p.f x≠some b) (hg:G<=a/\G<=b):Ren G where
 f x:=if x=a then some b else p.f x
 inj x y c hx hy:=by
    by_cases ex:x=a<;>by_cases ey:y=a<;>simp[ex,ey]at hx hy
    .rw[ex,ey]
    .subst hx;exact absurd hy (h y)
    .subst hy;exact absurd hx (h x)
    exact p.inj _ _ _ hx hy
 low x y hx:=by
    by_cases ex:x=a<;>simp[ex]at hx
    .omega
    exact p.low _ _ hx
def Ren.add_le (p:Ren G) {a b:Nat} (h:∀x,p.f x≠some b) (i:G<=a/\G<=b) (j:p.f a=none):p.Le (p.add a b h i):=λx y e=>by
 have:x≠a:=λq=>by rw[q,j]at e;cases e
 simp[Ren.add,this,e]
def Ren.add_at (p:Ren G) {a b:Nat} (h:∀x,p.f x≠some b) (e:G<=a/\G<=b):(p.add a b h e).f a=some b:=by simp[Ren.add]
structure Arr {A B:Type} (R:A->B->Prop) (a:Array A) (b:Array B):Prop where
 size:a.size=b.size
 at_:∀(i:Nat) (x:A) (y:B),a[i]?=some x->b[i]?=some y->R x y
structure AR (p:Ren G) (a b:Addr):Prop where
 blk:p.f a.block=some b.block
 off:b.off=a.off
 spot:b.spot=a.spot
def AR.mono (h:p.Le q) (r:AR p a b):AR q a b:=⟨h _ _ r.blk,r.off,r.spot⟩
def AR.add (r:AR p a b) (n:Nat):AR p (a.add n) (b.add n):=by
 unfold Addr.add;split
 .exact r
 exact⟨r.blk,by simp[r.off],rfl⟩
variable {c:Addr}
def AR.eq_iff (r:AR p a b) (s:AR p c d):(a==c)=(b==d):=by
 have e:a=c↔b=d:=by
  constructor
  .rintro rfl;cases b;cases d;have i:=r.blk.symm.trans s.blk;have j:=r.off;have k:=s.off;have l:=r.spot;have m:=s.spot;simp_all
  rintro rfl;cases a;cases c;have i:=p.inj _ _ _ r.blk s.blk;have j:=r.off;have k:=s.off;have l:=r.spot;have m:=s.spot;simp_all
 by_cases h:a=c
 .rw[beq_iff_eq.2 h,beq_iff_eq.2 (e.1 h)]
 rw[beq_eq_false_iff_ne.2 h,beq_eq_false_iff_ne.2 λq=>h (e.2 q)]
def AR.blk_iff (r:AR p a b) (s:AR p c d):(a.block==c.block)=(b.block==d.block):=by
 have e:a.block=c.block↔b.block=d.block:=
  ⟨λh=>by have:=r.blk;rw[h,s.blk]at this;exact(mR this).symm,λh=>p.inj _ _ _ r.blk (by rw[h];exact s.blk)⟩
 by_cases h:a.block=c.block
 .rw[beq_iff_eq.2 h,beq_iff_eq.2 (e.1 h)]
 rw[beq_eq_false_iff_ne.2 h,beq_eq_false_iff_ne.2 λq=>h (e.2 q)]
def RF:Fi:=1000000001
variable (ok:Fi->Bool)
inductive FR (p:Ren G):Fn->Fn->Prop
 |func {f:Fi}:ok f=true->FR p (.func f) (.func f)
 |yield {l m:Nat}:ok RF=true->p.f l=some m->FR p (.yield l) (.yield m)
variable {f g:Fn}
variable {ok}in
def FR.mono (h:p.Le q) (r:FR ok p f g):FR ok q f g:=by
 cases r with
 |func e=>exact .func e
 |yield r e=>exact .yield r (h _ _ e)
inductive VR (p:Ren G):Vl->Vl->Prop
 |bool (b:Bool):VR p (.bool b) (.bool b)
 |int (k:IntKind) (n:Int):VR p (.int k n) (.int k n)
 |string (s:By):VR p (.string s) (.string s)
 |nilFunc:VR p .nilFunc .nilFunc
 |nilIface:VR p .nilIface .nilIface
 |pnil:VR p (.pointer none) (.pointer none)
 |ptr {a b:Addr}:AR p a b->VR p (.pointer (some a)) (.pointer (some b))
 |snil (l c:Nat):VR p (.slice none l c) (.slice none l c)
 |slice {a b:Addr} (l c:Nat):AR p a b->VR p (.slice (some a) l c) (.slice (some b) l c)
 |mnil:VR p (.map none) (.map none)
 |map {r s:Nat}:p.f r=some s->VR p (.map (some r)) (.map (some s))
 |cnil:VR p (.chan none) (.chan none)
 |chan {r s:Nat}:p.f r=some s->VR p (.chan (some r)) (.chan (some s))
 |func {f g:Fn} {a b c d:Av}:FR ok p f g->a.size=b.size->(∀(i:Nat) (x y:Vl),a[i]?=some x->b[i]?=some y->VR p x y)->
  c.size=d.size->(∀(i:Nat) (x y:Vl),c[i]?=some x->d[i]?=some y->VR p x y)->VR p (.func f a c) (.func g b d)
 |iface (t:Tp) {v w:Vl}:VR p v w->VR p (.iface t v) (.iface t w)
 |agg {a b:Av}:a.size=b.size->(∀(i:Nat) (x y:Vl),a[i]?=some x->b[i]?=some y->VR p x y)->VR p (.agg a) (.agg b)
 |tuple {a b:Av}:a.size=b.size->(∀(i:Nat) (x y:Vl),a[i]?=some x->b[i]?=some y->VR p x y)->VR p (.tuple a) (.tuple b)
variable {ok}
variable {w:Vl}
def VR.mono (h:p.Le q) (r:VR ok p v w):VR ok q v w:=by
 induction r with
 |bool=>exact .bool _
 |int=>exact .int _ _
 |string=>exact .string _
 |nilFunc=>exact .nilFunc
 |nilIface=>exact .nilIface
 |pnil=>exact .pnil
 |ptr r=>exact .ptr (r.mono h)
 |snil=>exact .snil _ _
 |slice l c r=>exact .slice l c (r.mono h)
 |mnil=>exact .mnil
 |map e=>exact .map (h _ _ e)
 |cnil=>exact .cnil
 |chan e=>exact .chan (h _ _ e)
 |func f i _ j _ k m=>exact .func (f.mono h) i k j m
 |iface t _ ih=>exact .iface t ih
 |agg s _ ih=>exact .agg s ih
 |tuple s _ ih=>exact .tuple s ih
section
variable {A z:Type} {R:A->B->Prop} {S:z->C->Prop}
def Arr.mono {e:A->B->Prop} {a:Array A} {b:Array B} (h:∀x y,R x y->e x y) (r:Arr R a b):Arr e a b:=⟨r.size,λi x y j k=>h _ _ (r.at_ i x y j k)⟩
def Arr.nil:Arr R #[] #[]:=⟨rfl,λi x y h=>by simp at h⟩
def Arr.get {a:Array A} {b:Array B} (r:Arr R a b) (i:Nat):(a[i]?=none/\b[i]?=none)\/∃x y,a[i]?=some x/\b[i]?=some y/\R x y:=by
 obtain h|h:=Nat.lt_or_ge i a.size
 .have e:i<b.size:=r.size▸h;exact .inr ⟨_,_,my h,my e,r.at_ i _ _ (my h) (my e)⟩
 exact .inl ⟨mQ h,mQ (r.size▸h)⟩
def Arr.push {a:Array A} {b:Array B} (r:Arr R a b) {x:A} {y:B} (h:R x y):Arr R (a.push x) (b.push y):=by
 refine⟨by simp[r.size],λi u v k j=>?_⟩;rw[Array.getElem?_push]at k j;rw[<-r.size]at j;split at k
 .next e=>rw[if_pos e]at j;cases k;cases j;exact h
 next e=>rw[if_neg e]at j;exact r.at_ i u v k j
def Arr.append {a c:Array A} {b d:Array B} (r:Arr R a b) (s:Arr R c d):Arr R (a++c) (b++d):=by
 refine⟨by simp[r.size,s.size],λi u v j h=>?_⟩;rw[Array.getElem?_append]at j h;rw[<-r.size]at h;split at j
 .next e=>rw[if_pos e]at h;exact r.at_ i u v j h
 next e=>rw[if_neg e]at h;exact s.at_ _ u v j h
def Arr.set {a:Array A} {b:Array B} (r:Arr R a b) (i:Nat) {x:A} {y:B} (h:R x y):Arr R (a.setIfInBounds i x) (b.setIfInBounds i y):=by
 refine⟨by simp[r.size],λj u v l k=>?_⟩;rw[Array.getElem?_setIfInBounds]at l k;split at l
 .next e=>
  rw[if_pos e]at k;split at l
  .split at k
   .cases l;cases k;exact h
   cases k
  cases l
 next e=>rw[if_neg e]at k;exact r.at_ j u v l k
def Arr.replicate (n:Nat) {x:A} {y:B} (h:R x y):Arr R (Array.replicate n x) (Array.replicate n y):=by
 refine⟨oi,λi u v e j=>?_⟩;rw[Array.getElem?_replicate]at e j;split at e<;>simp_all
def Arr.extract {a:Array A} {b:Array B} (r:Arr R a b) (i j:Nat):Arr R (a.extract i j) (b.extract i j):=by
 refine⟨by simp[r.size],λk u v h l=>?_⟩;rw[Array.getElem?_extract]at h l;rw[<-r.size]at l;split at h
 .next e=>rw[if_pos e]at l;exact r.at_ _ u v h l
 cases h
def Arr.map {a:Array A} {b:Array B} {f:A->z} {g:B->C} (r:Arr R a b) (h:∀x y,R x y->S (f x) (g y)):Arr S (a.map f) (b.map g):=by
 refine⟨by simp[r.size],λk u v e i=>?_⟩;rw[Array.getElem?_map]at e i;obtain⟨j,l⟩|⟨x,y,j,l,m⟩:=r.get k
 .rw[j]at e;cases e
 rw[j]at e;rw[l]at i;cases e;cases i;exact h _ _ m
def Arr.refl {R:A->A->Prop} (h:∀x,R x x) (a:Array A):Arr R a a:=⟨rfl,λi x y j e=>by rw[j]at e;cases e;exact h _⟩
def Arr.modify {a:Array A} {b:Array B} (r:Arr R a b) (i:Nat) {f:A->A} {g:B->B} (h:∀x y,R x y->R (f x) (g y)):Arr R (a.modify i f) (b.modify i g):=by
 refine⟨by simp[r.size],λj u v k l=>?_⟩;rw[Array.getElem?_modify]at k l;obtain⟨m,n⟩|⟨x,y,m,n,o⟩:=r.get j
 .rw[m]at k;split at k<;>cases k
 rw[m]at k;rw[n]at l;split at k
 .next e=>rw[if_pos e]at l;cases k;cases l;exact h _ _ o
 next e=>rw[if_neg e]at l;cases k;cases l;exact o
def Arr.one {x:A} {y:B} (h:R x y):Arr R #[x] #[y]:=Arr.push Arr.nil h
end
abbrev VA (ok:Fi->Bool) (p:Ren G):Av->Av->Prop:=Arr (VR ok p)
def VA.mono (h:p.Le q) {a b:Av} (r:VA ok p a b):VA ok q a b:=Arr.mono (λ_ _=>VR.mono h) r
def VR.aggA {a b:Av} (r:VA ok p a b):VR ok p (.agg a) (.agg b):=.agg r.size r.at_
def VR.tupA {a b:Av} (r:VA ok p a b):VR ok p (.tuple a) (.tuple b):=.tuple r.size r.at_
def VR.funcA {a b c d:Av} (h:FR ok p f g) (r:VA ok p a b) (s:VA ok p c d):VR ok p (.func f a c) (.func g b d):=.func h r.size r.at_ s.size s.at_
def VR.undef (p:Ren G):VR ok p undef undef:=VR.tupA Arr.nil
def VR.cells (r:VR ok p v w):VA ok p v.cells w.cells:=by
 cases r with
 |agg s h=>exact⟨s,h⟩
 |bool|int|string|nilFunc|nilIface|pnil|snil|mnil|cnil=>exact Arr.one (by constructor)
 |ptr h=>exact Arr.one (.ptr h)
 |slice l c h=>exact Arr.one (.slice l c h)
 |map h=>exact Arr.one (.map h)
 |chan h=>exact Arr.one (.chan h)
 |func f e i j k=>exact Arr.one (.func f e i j k)
 |iface t h=>exact Arr.one (.iface t h)
 |tuple s h=>exact Arr.one (.tuple s h)
end
section
def jjx (a b:Nat×Nat):Prop:=(b.1=b.2\/(b.1<b.2/\a.1<=b.1/\b.2<=a.2))/\(a.1=a.2\/a.1<a.2)
structure MER (ok:Fi->Bool) (p:Ren G) (a b:MapEntry):Prop where
 key:VR ok p a.key b.key
 val:VR ok p a.val b.val
 born:b.born=a.born
inductive TR (ok:Fi->Bool) (p:Ren G):Target->Target->Prop
 |fn {f g:Fn} {c d:Av}:FR ok p f g->VA ok p c d->TR ok p (.fn f c) (.fn g d)
 |nil:TR ok p .nil .nil
 |collected {r s:Nat}:p.f r=some s->TR ok p (.collected r) (.collected s)
structure DR (ok:Fi->Bool) (p:Ren G) (a b:Deferred):Prop where
 target:TR ok p a.target b.target
 args:VA ok p a.args b.args
inductive LR {B C:Type} (R:B->C->Prop):List B->List C->Prop
 |nil:LR R [] []
 |cons {a:B} {b:C} {l:List B} {m:List C}:R a b->LR R l m->LR R (a::l) (b::m)
structure LoR (ok:Fi->Bool) (A:Code->Bool) (p:Ren G) (a b:Loop):Prop where
 state:b.state=a.state
 pending:b.pending=a.pending
 pendOk:∀c,a.pending=some c->A c=true
 fn:b.fn=a.fn
 tmps:VA ok p a.tmps b.tmps
 params:b.params=a.params
 assign:b.assign=a.assign
 assignOk:A a.assign=true
 body:b.body=a.body
 bodyOk:A a.body=true
 defers:p.f a.defers=some b.defers
inductive OR (ok:Fi->Bool) (A:Code->Bool) (p:Ren G):Obj->Obj->Prop
 |cells {c d:Av} (t:Tp) {f g:Nat×Nat}:VA ok p c d->jjx f g->OR ok A p (.cells c t f) (.cells d t g)
 |view {a b:Addr} (t:Tp):AR p a b->OR ok A p (.view a t) (.view b t)
 |number {a b:Addr} (l:Bool):AR p a b->OR ok A p (.number a l) (.number b l)
 |map {a b:Array MapEntry} (n:Nat):Arr (MER ok p) a b->OR ok A p (.map a n) (.map b n)
 |stringIter (s:By) (n:Nat):OR ok A p (.stringIter s n) (.stringIter s n)
 |mapIterN (n:Nat) (s:Array Nat) (k:Nat):OR ok A p (.mapIter none n s k) (.mapIter none n s k)
 |mapIter {r r':Nat} (n:Nat) (s:Array Nat) (k:Nat):p.f r=some r'->OR ok A p (.mapIter (some r) n s k) (.mapIter (some r') n s k)
 |loop {a b:Loop}:LoR ok A p a b->OR ok A p (.loop a) (.loop b)
 |deferredN:OR ok A p (.deferred none) (.deferred none)
 |deferred {a b:List Deferred}:LR (DR ok p) a b->OR ok A p (.deferred (some a)) (.deferred (some b))
inductive OD (ok:Fi->Bool) (A:Code->Bool) (p:Ren G) (r:Nat):Obj->Obj->Prop
 |nor {o o':Obj}:odd r=false->OR ok A p o o'->OD ok A p r o o'
 |odd {c d:Av} {t u:Tp}:odd r=true->c.size=d.size->d.size≠0->OD ok A p r (.pending c t) (.cells d u (0,0))
variable {p q:Ren G}
def MER.mono (h:p.Le q) {a b:MapEntry} (r:MER ok p a b):MER ok q a b:=⟨r.key.mono h,r.val.mono h,r.born⟩
def TR.mono (h:p.Le q) {a b:Target} (r:TR ok p a b):TR ok q a b:=by
 cases r with
 |fn f c=>exact .fn (f.mono h) (VA.mono h c)
 |nil=>exact .nil
 |collected e=>exact .collected (h _ _ e)
def DR.mono (h:p.Le q) {a b:Deferred} (r:DR ok p a b):DR ok q a b:=⟨r.target.mono h,VA.mono h r.args⟩
section
variable {R S:B->C->Prop}
def LR.mono (h:∀a b,R a b->S a b) {l:List B} {m:List C} (r:LR R l m):LR S l m:=by
 induction r with
 |nil=>exact .nil
 |cons h1 _ ih=>exact .cons (h _ _ h1) ih
def LR.append {l c:List B} {m d:List C} (r:LR R l m) (s:LR R c d):LR R (l++c) (m++d):=by
 induction r with
 |nil=>exact s
 |cons h1 _ ih=>exact .cons h1 ih
def Arr.list {a:Array B} {b:Array C} (r:Arr R a b):LR R a.toList b.toList:=by
 obtain⟨l⟩:=a;obtain⟨m⟩:=b;show LR R l m;have c:l.length=m.length:=r.size;have f:∀(i:Nat) x y,l[i]?=some x->m[i]?=some y->R x y:=λi x y d e=>r.at_ i x y (by simpa using d) (by simpa using e);clear r
 induction l generalizing m with
 |nil=>cases m with
  |nil=>exact .nil
  |cons=>simp at c
 |cons x l ih=>cases m with
  |nil=>simp at c
  |cons y m=>exact .cons (f 0 x y rfl rfl) (ih m (by simpa using c) λi u v d e=>f (i+1) u v (by simpa using d) (by simpa using e))
def LR.arr {l:List B} {m:List C} (r:LR R l m):Arr R l.toArray m.toArray:=by
 induction r with
 |nil=>exact Arr.nil
 |cons h _ ih=>simpa using Arr.append (Arr.one h) ih
end
def LoR.mono (h:p.Le q) {a b:Loop} (r:LoR ok A p a b):LoR ok A q a b:=
 ⟨r.state,r.pending,r.pendOk,r.fn,VA.mono h r.tmps,r.params,r.assign,r.assignOk,r.body,r.bodyOk,h _ _ r.defers⟩
variable {a b:Obj}
def OR.mono (h:p.Le q) (r:OR ok A p a b):OR ok A q a b:=by
 cases r with
 |cells t c f=>exact .cells t (VA.mono h c) f
 |view t a=>exact .view t (a.mono h)
 |number l a=>exact .number l (a.mono h)
 |map n a=>exact .map n (Arr.mono (λ_ _=>MER.mono h) a)
 |stringIter=>exact .stringIter _ _
 |mapIterN=>exact .mapIterN _ _ _
 |mapIter n s k e=>exact .mapIter n s k (h _ _ e)
 |loop l=>exact .loop (l.mono h)
 |deferredN=>exact .deferredN
 |deferred l=>exact .deferred (LR.mono (λ_ _=>DR.mono h) l)
def OD.mono (h:p.Le q) {r:Nat} (x:OD ok A p r a b):OD ok A q r a b:=by
 cases x with
 |nor e o=>exact .nor e (o.mono h)
 |odd e c d=>exact .odd e c d
def q12:Halt->Prop
 |.panic _|.goexit|.blocked|.waiting=>False
 |.unsupported (.initOrder g)=>odd g=true
 |_=>True
inductive yw {B:Type}:Sem B->Prop
 |halt {h:Halt}:q12 h->yw (.halt h)
 |shape {r:Nat} {k:Option (Tp×Nat)->Sem B}:(∀n,yw (k n))->yw (.shape r k)
 |frozen {a:Addr} {k:Bool->Sem B}:(∀b,yw (k b))->yw (.frozen a k)
 |choose {q:Question} {k:Nat->Sem B}:(∀n,yw (k n))->yw (.choose q k)
 |program {k:Pq->Sem B}:(∀p,yw (k p))->yw (.program k)
 |mark {m:Mark} {k:Sem B}:yw k->yw (.mark m k)
def jhu:Mark->Prop
 |.acquire _|.release _|.releaseMerge _|.disable|.enable|.read _|.write _=>False
 |_=>True
def jg6:Vl->Prop
 |.agg _|.tuple _=>False
 |_=>True
inductive SR (ok:Fi->Bool) (A:Code->Bool) (P:Pq) {B C:Type} (R:Ren G->B->C->Prop):Ren G->Sem B->Sem C->Prop
 |pure {p:Ren G} {a:B} {b:C}:R p a b->SR ok A P R p (.pure a) (.pure b)
 |load {p:Ren G} {m:Mode} {a b:Addr} {k:Vl->Sem B} {l:Vl->Sem C}:AR p a b->(∀v w,VR ok p v w->SR ok A P R p (k v) (l w))->SR ok A P R p (.load m a k) (.load m b l)
 |store {p:Ren G} {m:Mode} {a b:Addr} {v w:Vl} {k:Sem B} {l:Sem C}:AR p a b->VR ok p v w->SR ok A P R p k l->SR ok A P R p (.store m a v k) (.store m b w l)
 |storeBad {p:Ren G} {m:Mode} {a:Addr} {v:Vl} {k:Sem B} {l:Sem C}:¬jg6 v->SR ok A P R p (.store m a v k) l
 |new {p:Ren G} {o o':Obj} {k:Nat->Sem B} {l:Nat->Sem C}:OR ok A p o o'->(∀q r s,p.Le q->q.f r=some s->odd r=false->SR ok A P R q (k r) (l s))->SR ok A P R p (.new o k) (.new o' l)
 |shape {p:Ren G} {r s:Nat} {k:Option (Tp×Nat)->Sem B} {l:Option (Tp×Nat)->Sem C}:p.f r=some s->(odd r=false->∀x,SR ok A P R p (k x) (l x))->
  (odd r=true->∀t n,SR ok A P R p (k none) (l (some (t,n+1))))->SR ok A P R p (.shape r k) (.shape s l)
 |look {p:Ren G} {r s:Nat} {k:Option (Tp×Nat)->Sem B} {l:Option (Tp×Nat)->Sem C} {k2:Obj->Sem B}:p.f r=some s->(odd r=false->∀x,SR ok A P R p (k x) (l x))->
  k none=.getObj r k2->(odd r=true->∀t n c u,c.size=n+1->SR ok A P R p (k2 (.pending c u)) (l (some (t,n+1))))->SR ok A P R p (.shape r k) (.shape s l)
 |shapeOdd {p:Ren G} {r s:Nat} {k:Option (Tp×Nat)->Sem B} {m':Sem C}:p.f r=some s->odd r=true->SR ok A P R p (k none) m'->SR ok A P R p (.shape r k) m'
 |shapeR {p:Ren G} {s:Nat} {m:Sem B} {l:Option (Tp×Nat)->Sem C}:(∀x,SR ok A P R p m (l x))->SR ok A P R p m (.shape s l)
 |frozenR {p:Ren G} {b:Addr} {m:Sem B} {l:Bool->Sem C}:(∀y,SR ok A P R p m (l y))->SR ok A P R p m (.frozen b l)
 |freeze {p:Ren G} {a b:Addr} {n:Nat} {k:Sem B} {l:Sem C}:AR p a b->odd a.block=false->SR ok A P R p k l->SR ok A P R p (.freeze a n k) (.freeze b n l)
 |frozen {p:Ren G} {a b:Addr} {k:Bool->Sem B} {l:Bool->Sem C}:AR p a b->(∀x y,(y=true->x=true)->SR ok A P R p (k x) (l y))->SR ok A P R p (.frozen a k) (.frozen b l)
 |frozenOdd {p:Ren G} {a b:Addr} {m:Sem B} {l:Bool->Sem C}:p.f a.block=some b.block->odd a.block=true->SR ok A P R p m (l false)->SR ok A P R p m (.frozen b l)
 |getObj {p:Ren G} {r s:Nat} {k:Obj->Sem B} {l:Obj->Sem C}:p.f r=some s->(odd r=false->∀o o',OR ok A p o o'->SR ok A P R p (k o) (l o'))->(odd r=true->∀c t,yw (k (.pending c t)))->SR ok A P R p (.getObj r k) (.getObj s l)
 |setObj {p:Ren G} {r s:Nat} {o o':Obj} {k:Sem B} {l:Sem C}:p.f r=some s->odd r=false->OR ok A p o o'->SR ok A P R p k l->SR ok A P R p (.setObj r o k) (.setObj s o' l)
 |choose {p:Ren G} {q:Question} {k:Nat->Sem B} {l:Nat->Sem C}:(∀n,SR ok A P R p (k n) (l n))->SR ok A P R p (.choose q k) (.choose q l)
 |pick {p:Ren G} {q:Question} {k:Nat->Sem B} {l:Sem C} (n:Nat):q.forced=false->SR ok A P R p (k (q.cut n)) l->SR ok A P R p (.choose q k) l
 |sys {p:Ren G} {k:SysRet->Sem B} {l:SysRet->Sem C}:(∀r,SR ok A P R p (k r) (l r))->SR ok A P R p (.sys .env k) (.sys .env l)
 |program {p:Ren G} {k:Pq->Sem B} {l:Pq->Sem C}:SR ok A P R p (k P) (l P)->SR ok A P R p (.program k) (.program l)
 |mark {p:Ren G} {m:Mark} {k:Sem B} {l:Sem C}:jhu m->SR ok A P R p k l->SR ok A P R p (.mark m k) (.mark m l)
 |panic {p:Ren G} {v w:Vl}:VR ok p v w->SR ok A P R p (.halt (.panic v)) (.halt (.panic w))
 |goexit {p:Ren G}:SR ok A P R p (.halt .goexit) (.halt .goexit)
 |dead {p:Ren G} {m:Sem B} {m':Sem C}:yw m->SR ok A P R p m m'
def yw.bind {B C:Type} {m:Sem B} (h:yw m) (f:B->Sem C):yw (m.bind f):=by
 induction h with
 |halt h=>exact .halt h
 |shape _ ih=>exact .shape ih
 |frozen _ ih=>exact .frozen ih
 |choose _ ih=>exact .choose ih
 |program _ ih=>exact .program ih
 |mark _ ih=>exact .mark ih
def SR.bind {B C F δ:Type} {R:Ren G->B->C->Prop} {S:Ren G->F->δ->Prop} {m:Sem B} {E:Sem C} {f:B->Sem F} {g:C->Sem δ}
 (h:SR ok A P R p m E) (i:∀q a b,p.Le q->R q a b->SR ok A P S q (f a) (g b)):SR ok A P S p (m>>=f) (E>>=g):=by
 show SR ok A P S p (m.bind f) (E.bind g);induction h with
 |pure r=>exact i _ _ _ (Ren.Le.refl _) r
 |load a _ ih=>exact .load a λv w r=>ih v w r i
 |store a v _ ih=>exact .store a v (ih i)
 |storeBad h=>exact .storeBad h
 |new o _ ih=>exact .new o λq r s j e o=>ih q r s j e o λz a b D=>i z a b (j.trans D)
 |shape e _ _ ih ih2=>exact .shape e (λo x=>ih o x i) λo t n=>ih2 o t n i
 |@look p r s k l k2 e _ e2 _ ih ih2=>exact .look (k2:=λo=>(k2 o).bind f) e (λo x=>ih o x i) (by rw[e2];rfl) λo t n c u h=>ih2 o t n c u h i
 |shapeOdd e o _ ih=>exact .shapeOdd e o (ih i)
 |shapeR _ ih=>exact .shapeR λx=>ih x i
 |frozenR _ ih=>exact .frozenR λx=>ih x i
 |freeze a o _ ih=>exact .freeze a o (ih i)
 |frozenOdd e o _ ih=>exact .frozenOdd e o (ih i)
 |frozen a _ ih=>exact .frozen a λx y e=>ih x y e i
 |getObj e _ d ih=>exact .getObj e (λn o H r=>ih n o H r i) λo c t=>(d o c t).bind f
 |setObj e n o _ ih=>exact .setObj e n o (ih i)
 |choose _ ih=>exact .choose λn=>ih n i
 |pick n e _ ih=>exact .pick n e (ih i)
 |sys _ ih=>exact .sys λr=>ih r i
 |program _ ih=>exact .program (ih i)
 |mark e _ ih=>exact .mark e (ih i)
 |panic v=>exact .panic v
 |goexit=>exact .goexit
 |dead d=>exact .dead (d.bind f)
def SR.mono {B C:Type} {R S:Ren G->B->C->Prop} {m:Sem B} {k:Sem C} (h:SR ok A P R p m k) (f:∀q a b,p.Le q->R q a b->S q a b):SR ok A P S p m k:=by
 induction h with
 |pure r=>exact .pure (f _ _ _ (Ren.Le.refl _) r)
 |load a _ ih=>exact .load a λv w r=>ih v w r f
 |store a v _ ih=>exact .store a v (ih f)
 |storeBad h=>exact .storeBad h
 |new o _ ih=>exact .new o λq r s g e o=>ih q r s g e o λi a b j=>f i a b (g.trans j)
 |shape e _ _ ih ih2=>exact .shape e (λo x=>ih o x f) λo t n=>ih2 o t n f
 |look e _ e2 _ ih ih2=>exact .look e (λo x=>ih o x f) e2 λo t n c u h=>ih2 o t n c u h f
 |shapeOdd e o _ ih=>exact .shapeOdd e o (ih f)
 |shapeR _ ih=>exact .shapeR λx=>ih x f
 |frozenR _ ih=>exact .frozenR λx=>ih x f
 |freeze a o _ ih=>exact .freeze a o (ih f)
 |frozenOdd e o _ ih=>exact .frozenOdd e o (ih f)
 |frozen a _ ih=>exact .frozen a λx y e=>ih x y e f
 |getObj e _ d ih=>exact .getObj e (λn o z r=>ih n o z r f) d
 |setObj e n o _ ih=>exact .setObj e n o (ih f)
 |choose _ ih=>exact .choose λn=>ih n f
 |pick n e _ ih=>exact .pick n e (ih f)
 |sys _ ih=>exact .sys λr=>ih r f
 |program _ ih=>exact .program (ih f)
 |mark e _ ih=>exact .mark e (ih f)
 |panic v=>exact .panic v
 |goexit=>exact .goexit
 |dead d=>exact .dead d
end
section
def Fx (z:Nat->Bool) (p:Ren G):Prop:=∀g,z g=true->p.f g=some g
def Fx.mono {z:Nat->Bool} {p q:Ren G} (h:Fx z p) (f:p.Le q):Fx z q:=λg e=>f _ _ (h g e)
structure Fit (G:Nat) (P:Pq) (ok:Fi->Bool) (C:String->Bool) (z:Nat->Bool):Prop where
 size:P.globals.size=G
 zero:∀t i v,P.info? t=some i->i.zero=some v->∀p:Ren G,VR ok p v v
 meth:∀t i m f b,P.info? t=some i->m∈i.methods->C m.name=true->m.func=some (f,b)->ok f=true
 handle:z G=true
 ahead:P.follows .staticDataAhead=true
 none_:∀g,odd g=true->P.stepOf g=none
variable {D:Type} {R:Ren G->B->D->Prop} {m:Sem D} {E:Obj} {w:Vl} {d:Av}
section
variable {p:Ren G}
def yk {B:Type} (_:Ren G) (a b:B):Prop:=a=b
def qs {a:B} {b:D} (h:R p a b):SR ok A P R p (pure a) (pure b):=.pure h
def qk {s:String}:SR ok A P R p (stuck s:Sem B) m:=.dead (.halt trivial)
def j4 {u:Unsupported} (h:q12 (.unsupported u):=by trivial):SR ok A P R p (unsupported u:Sem B) m:=.dead (.halt h)
def jro {u:String}:SR ok A P R p (Go.throw u:Sem B) m:=.dead (.halt trivial)
def j5 {f:Pq->Sem B} {g:Pq->Sem D} (h:SR ok A P R p (f P) (g P)):SR ok A P R p (program>>=f) (program>>=g):=.program h
def y8 {q:Question} {f:Nat->Sem B} {g:Nat->Sem D} (h:∀n,SR ok A P R p (f n) (g n)):SR ok A P R p (choose q>>=f) (choose q>>=g):=.choose h
def jf4 {f:Option (Tp×Nat)->Sem B} {g:Option (Tp×Nat)->Sem D} (e:p.f r=some s) (h:∀n,SR ok A P R p (f n) (g n)) (i:∀t n,SR ok A P R p (f none) (g (some (t,n+1))):=by intros;first|exact qk|exact j4):SR ok A P R p (shape r>>=f) (shape s>>=g):=.shape e (λ_=>h) λ_=>i
def jgl {f:Bool->Sem B} {g:Bool->Sem D} (e:AR p a b) (h:∀x y,(y=true->x=true)->SR ok A P R p (f x) (g y)):SR ok A P R p (frozen a>>=f) (frozen b>>=g):=.frozen e h
def y4 {f:Obj->Sem B} {g:Obj->Sem D} (e:p.f r=some s) (h:∀o E,odd r=false->OR ok A p o E->SR ok A P R p (f o) (g E)) (i:∀c t,yw (f (.pending c t)):=by intros;first|exact .halt trivial|exact yw.bind (.halt (h:=.stuck _) trivial) _):SR ok A P R p (getObj r>>=f) (getObj s>>=g):=.getObj e (λn o E=>h o E n) λ_=>i
def je8 {f:Unit->Sem B} {g:Unit->Sem D} (e:p.f r=some s) (i:odd r=false) (j:OR ok A p o E) (h:SR ok A P R p (f ()) (g ())):SR ok A P R p (setObj r o>>=f) (setObj s E>>=g):=.setObj e i j h
def jh5 {R:Ren G->Unit->Unit->Prop} (e:p.f r=some s) (g:odd r=false) (i:OR ok A p o E) (h:R p () ()):SR ok A P R p (setObj r o) (setObj s E):=.setObj e g i (.pure h)
def je9 {R:Ren G->Nat->Np} (g:OR ok A p o E) (h:∀q r s,p.Le q->q.f r=some s->R q r s):SR ok A P R p (newObj o) (newObj E):=.new g λq r s i e _=>.pure (h q r s i e)
def jip {m:Mode} (e:AR p a b):SR ok A P (VR ok) p (load a m) (load b m):=.load e λ_ _ h=>.pure h
def jru {R:Ren G->Unit->Unit->Prop} {m:Mode} (e:AR p a b) (f:VR ok p v w) (h:R p () ()):SR ok A P R p (store a v m) (store b w m):=.store e f (.pure h)
def jpp {R:Ren G->Unit->Unit->Prop} {m:Mark} (e:jhu m) (h:R p () ()):SR ok A P R p (mark m) (mark m):=.mark e (.pure h)
def jf6 {n:Nat}:SR ok A P yk p (askRoom n) (askRoom n):=by
 unfold askRoom;split
 .exact jpp trivial rfl
 exact qs rfl
def j6 (t:Tp):SR ok A P (λ_ a b=>a=b/\P.info? t=some a) p (typeInfo t) (typeInfo t):=by
 refine j5 ?_;cases h:P.info? t with
 |none=>exact qk
 |some i=>exact qs ⟨rfl,rfl⟩
def q8 (t:Tp):SR ok A P yk p (underlying t) (underlying t):=by
 refine j5 ?_;split
 .exact qs rfl
 exact qk
def jkq (n:String):SR ok A P yk p (cutType n) (cutType n):=by
 refine j5 ?_;split
 .exact qs rfl
 exact qk
def jh2 (t:Tp):SR ok A P yk p (typeStr t) (typeStr t):=by
 refine SR.bind (j6 t) λq a b e h=>?_;obtain⟨rfl,_⟩:=h
 dsimp only;split
 .exact j4
 exact qs rfl
def yc (t:Tp):SR ok A P yk p (sizeOf t) (sizeOf t):=
 SR.bind (j6 t) λq a b e h=>by obtain⟨rfl,_⟩:=h;exact qs rfl
def jn7 (t:Tp):SR ok A P yk p (isAgg t) (isAgg t):=by
 refine SR.bind (q8 t) λq a b e h=>?_;cases h;split
 .exact qs rfl
 .exact qs rfl
 exact qs rfl
def jgs (t:Tp):SR ok A P yk p (elemOf t) (elemOf t):=by
 refine SR.bind (q8 t) λq a b e h=>?_;cases h;split
 .exact qs rfl
 exact qk
variable {C:String->Bool} {z:Nat->Bool}
def ys (F:Fit G P ok C z) (t:Tp):SR ok A P (λq a b=>VR ok q a b/\a=b) p (zeroValue t) (zeroValue t):=by
 refine SR.bind (j6 t) λq a b e h=>?_;obtain⟨rfl,h⟩:=h;cases hz:a.zero with
 |none=>exact j4
 |some v=>exact qs ⟨F.zero t a v h hz q,rfl⟩
def jgu {a b:Addr} (i:Nat):∀(n:Nat) {p:Ren G} {c d:Av},AR p a b->VA ok p c d->∀j,j=i->SR ok A P (VA ok) p (loadCellsFrom a j n c) (loadCellsFrom b j n d)
 |0,p,c,d,_,h,j,_=>qs h
 |n+1,p,c,d,ha,h,j,e=>SR.bind (jip (ha.add j)) λq v w f g=>by
  subst e;exact jgu (j+1) n (ha.mono f) ((VA.mono f h).push g) _ rfl
def jfv (e:AR p a b) (n:Nat):SR ok A P (VA ok) p (loadCells a n) (loadCells b n):=jgu 0 n e Arr.nil 0 rfl
def vq {R:Ren G->Unit->Unit->Prop} {a b:Addr}:∀{l m:Lv} {p:Ren G} (i:Nat),AR p a b->LR (VR ok p) l m->(∀q,p.Le q->R q () ())->SR ok A P R p (storeCells a l i) (storeCells b m i)
 |[],_,p,i,ha,h,hR=>by cases h;exact qs (hR p (Ren.Le.refl _))
 |v::l,_,p,i,ha,h,hR=>by
  cases h with
  |cons hv hl=>exact SR.bind (jru (R:=λ_ _ _=>True) (ha.add i) hv trivial) λq _ _ e _=>vq (i+1) (ha.mono e) (hl.mono λ_ _=>VR.mono e) λr f=>hR r (e.trans f)
def je6 (t:Tp) (e:AR p a b):SR ok A P (VR ok) p (loadVar t a) (loadVar t b):=by
 refine SR.bind (jn7 t) λq x y f h=>?_;cases h;split
 .refine SR.bind (yc t) λi x y g h=>?_;cases h;exact SR.bind (jfv ((e.mono f).mono g) _) λj c d k h=>qs (VR.aggA h)
 exact jip (e.mono f)
def jga {R:Ren G->Unit->Unit->Prop} (t:Tp) (i:AR p a b) (j:VR ok p v w) (k:∀q,p.Le q->R q () ()):SR ok A P R p (storeVar t a v) (storeVar t b w):=by
 refine SR.bind (yc t) λq x y f h=>?_;cases h;have g:=j.cells;split
 .exact .dead (.halt trivial)
 next e=>
 rw[if_neg (by rw[<-g.size];exact e)];exact vq 0 (i.mono f) (VA.mono f g).list λr l=>k r (f.trans l)
def jfa (t:Tp) (h:VA ok p c d):SR ok A P AR p (newRow t c) (newRow t d):=
 SR.bind (je9 (R:=λq r s=>q.f r=some s) (.cells t h ⟨.inl rfl,.inl rfl⟩) λq r s _ e=>e) λq r s g e=>qs ⟨e,rfl,rfl⟩
def jo4 (t:Tp) (h:VA ok p c d):SR ok A P (λq a b=>AR q a b/\odd a.block=false) p (newRow t c) (newRow t d):=
 SR.new (.cells t h ⟨.inl rfl,.inl rfl⟩) λq r s _ e o=>.pure ⟨⟨e,rfl,rfl⟩,o⟩
def jfz (t:Tp) (h:VR ok p v w):SR ok A P AR p (newVar t v) (newVar t w):=jfa t h.cells
def jfe (t:Tp) (h:VA ok p c d) (off:Nat):SR ok A P (VR ok) p (part t c off) (part t d off):=by
 refine SR.bind (jn7 t) λq x y g e=>?_;cases e;split
 .refine SR.bind (yc t) λl x y j e=>?_;cases e;exact qs (VR.aggA (((VA.mono g h).extract _ _).mono λ_ _=>VR.mono j))
 rcases(VA.mono g h).get off with ⟨f,i⟩|⟨x,y,f,i,k⟩
 .rw[f];exact qk
 rw[f,i];exact qs k
def ve (h:VR ok p v w):SR ok A P R p (goPanic v:Sem B) (goPanic w:Sem D):=.panic h
def jjc (s:String):VR ok p (strVal s) (strVal s):=.string _
def jho (F:Fit G P ok C z) (e:Fx z p) (t:Tp):VR ok p (typeHandle P t) (typeHandle P t):=.ptr ⟨by rw[F.size];exact e _ F.handle,rfl,rfl⟩
def jfi (s:String):SR ok A P R p (panicString s:Sem B) (panicString s:Sem D):=j5 (ve (.iface _ (jjc s)))
def jhc {a b c d:Vl} (e:VR ok p a b) (f:VR ok p c d):VA ok p #[a,c] #[b,d]:=(Arr.one e).push f
def j7 (F:Fit G P ok C z) (g:Fx z p) (e:RuntimeError):SR ok A P R p (runtimePanic e:Sem B) (runtimePanic e:Sem D):=by
 refine j5 ?_;have j:∀{q:Ren G},p.Le q->∀t:Option Tp,VR ok q (match t with|some t=>typeHandle P t|none=>.pointer none) (match t with|some t=>typeHandle P t|none=>.pointer none):=λf t=>by
  cases t with
  |none=>exact .pnil
  |some t=>exact jho F (g.mono f) t
 cases e with
 |bounds x y s c=>exact ve (.iface _ (VR.aggA ((((Arr.one (.int _ _)).push (.int _ _)).push (.bool _)).push (.int _ _))))
 |error m=>exact ve (.iface _ (jjc m))
 |plain m=>exact ve (.iface _ (jjc m))
 |nilDeref=>exact ve (.iface _ (jjc _))
 |typeAssertion i c a m=>
  refine SR.bind (jgs _) λq x y f h=>?_;cases h;exact SR.bind (jfz _ (VR.aggA ((((Arr.one (j f i)).push (j f c)).push (jho F (g.mono f) a)).push (jjc m)))) λk x y l h=>ve (.iface _ (.ptr h))
 |panicNil=>
  refine SR.bind (jgs _) λq x y f h=>?_;cases h;exact SR.bind (jfz _ (VR.aggA Arr.nil)) λk x y l h=>ve (.iface _ (.ptr h))
 |unhashable t=>exact ve (.iface _ (VR.aggA (Arr.one (jho F g t))))
def zd (F:Fit G P ok C z) (e:Fx z p) (k:IntKind) (x y:Int) (c:BoundsCode):SR ok A P R p (boundsPanic k x y c:Sem B) (boundsPanic k x y c:Sem D):=by
 unfold boundsPanic;dsimp only;split
 .exact .choose λn=>j7 F e (.bounds (IntKind.i64.wrap x) y (n==1) c)
 exact j7 F e (.bounds (IntKind.i64.wrap x) y (k !=.u64) c)
def jgy (h:VR ok p v w):SR ok A P (λ_ a b=>a=b/\v=.int a.1 a.2) p (asIntOf v) (asIntOf w):=by
 cases h<;>first|exact qs ⟨rfl,rfl⟩|exact qk|exact j4
def jf2 (h:VR ok p v w):SR ok A P yk p (asInt v) (asInt w):=
 SR.bind (jgy h) λq a b e h=>by obtain⟨rfl,_⟩:=h;exact qs rfl
def jqs (h:VR ok p v w):SR ok A P yk p (asBool v) (asBool w):=by
 cases h<;>first|exact qs rfl|exact qk
def jgt (F:Fit G P ok C z) (e:Fx z p) (h:VR ok p v w):SR ok A P AR p (asAddr v) (asAddr w):=by
 cases h<;>first|exact qs mj|exact qk|exact j7 F e .nilDeref
end
end
section
variable {p:Ren G} {B:String->Bool} {L:Nat->Bool}
def vg {α β:Type} (R:α->β->Prop):Option α->Option β->Prop
 |none,none=>True
 |some a,some b=>R a b
 |_,_=>False
def Imp (_:Ren G) (x y:Bool):Prop:=y=true->x=true
def vg.isSome {α β:Type} {R:α->β->Prop} {a:Option α} {b:Option β} (h:vg R a b):b.isSome=a.isSome:=by
 cases a<;>cases b<;>first|rfl|cases h
def jhp (e:p.f r=some s):SR ok A P (λq=>vg λx y=>AR q x.1 y.1/\x.2=y.2) p (viewAt r) (viewAt s):=by
 refine .look e (λg n=>?_) rfl λ_ t n c u _=>.pure trivial;cases n with
 |some n=>exact qs trivial
 |none=>
  refine .getObj e (λ_ o i h=>?_) λq=>(by rw[g]at q;cases q)
  cases h<;>first|exact qs trivial|exact qs ⟨mj,rfl⟩
def jjt (e:p.f r=some s):SR ok A P (λq=>vg λx y=>AR q x.1 y.1/\x.2=y.2) p (numberAt r) (numberAt s):=by
 refine .look e (λg n=>?_) rfl λ_ t n c u _=>.pure trivial;cases n with
 |some n=>exact qs trivial
 |none=>
  refine .getObj e (λ_ o i h=>?_) λq=>(by rw[g]at q;cases q)
  cases h<;>first|exact qs trivial|exact qs ⟨mj,rfl⟩
def joc (g:p.f r=some s):SR ok A P yk p (cellsIn r) (cellsIn s):=by
 refine .look g (λi n=>?_) rfl λ_ t n c u e=>.pure (congrArg some e);cases n with
 |some n=>exact qs rfl
 |none=>
  refine .getObj g (λ_ o k j=>?_) λq=>(by rw[i]at q;cases q)
  cases j<;>first|exact qs rfl|(rename_i h;exact qs (congrArg some h.size))
def jjr (g:AR p a b) (l:Bool):SR ok A P (VR ok) p (asNumber a l) (asNumber b l):=
 SR.bind (je9 (R:=λq r s=>q.f r=some s) (.number l g) λq r s _ e=>e) λq r s h e=>qs (.ptr ⟨e,rfl,rfl⟩)
def y0 (e:AR p a b):SR ok A P (λq x y=>AR q x.1 y.1/\x.2=y.2) p (behindNumber a) (behindNumber b):=by
 refine SR.bind (jjt e.blk) λq x y f h=>?_
 cases x<;>cases y<;>first|exact qs ⟨e.mono f,rfl⟩|exact qs h|cases h
def jgr (e:AR p a b):SR ok A P yk p (noView a) (noView b):=by
 refine SR.bind (jhp e.blk) λq x y f h=>?_;rw[h.isSome];split
 .exact j4
 exact qs rfl
def ji9 (e:AR p a b) (f:odd a.block=false):SR ok A P yk p (markStringish a) (markStringish b):=by
 refine .shape e.blk (λ_ n=>?_) λq=>(by rw[f]at q;cases q);cases n with
 |some n=>exact .freeze ⟨e.blk,rfl,rfl⟩ f (.pure rfl)
 |none=>exact qs rfl
def jiy (e:AR p a b):SR ok A P Imp p (stringish a) (stringish b):=by
 refine jgl e λx y h=>?_
 try dsimp only
 cases x with
 |false=>
  cases y with
  |true=>cases h rfl
  |false=>
   refine .shape e.blk (λ_ n=>?_) λf t n=>.frozenOdd e.blk f (.pure λh=>h);cases n with
   |some n=>exact .frozen ⟨e.blk,rfl,rfl⟩ λx y h=>.pure h
   |none=>exact qs (λh=>h)
 |true=>
  cases y with
  |true=>exact qs λ_=>rfl
  |false=>
   refine .shapeR λn=>?_;show SR ok A P Imp p (pure true) (match n with|some (_,k)=>frozen {block:=b.block,off:=k}|none=>pure false);cases n with
   |none=>exact qs (show Imp p true false from λ_=>rfl)
   |some x=>exact .frozenR λy=>.pure (show Imp p true y from λ_=>rfl)
variable {c:Addr}
def jjv (j:AR p a b) (k:AR p c d):SR ok A P Imp p (mayBeOne a c) (mayBeOne b d):=by
 refine SR.bind (jiy j) λq x y i h=>?_;refine SR.bind (jiy (k.mono i)) λw z C l m=>?_
 try dsimp only
 refine SR.bind (R:=Imp) (jf4 ((j.mono i).mono l).blk (λn=>qs λh=>h) λt n=>qs λh=>(by cases h)) λD E F o u=>?_;refine SR.bind (R:=Imp) (jf4 (((k.mono i).mono l).mono o).blk (λn=>qs λh=>h) λt n=>qs λh=>(by cases h)) λH I J K v=>qs ?_;intro e;simp only[Bool.or_eq_true,Bool.and_eq_true]at e ⊢;obtain(⟨f,g⟩|⟨f,g⟩)|⟨f,g⟩:=e
 .exact .inl (.inl ⟨h f,m g⟩)
 .exact .inl (.inr ⟨h f,u g⟩)
 exact .inr ⟨m f,v g⟩
def jp0 {x y:Bool} (h:y=true->x=true) {n:String}:SR ok A P yk p (if x=true then do let k <-choose (.extern n 2);return k==1 else pure false) (if y=true then do let k <-choose (.extern n 2);return k==1 else pure false:Sem Bool):=by
 cases x with
 |false=>
  cases y with
  |true=>cases h rfl
  |false=>exact qs rfl
 |true=>
  cases y with
  |true=>exact .choose λn=>.pure rfl
  |false=>exact .pick 0 rfl (.pure rfl)
def jjw (f:AR p a b) (g:AR p c d):SR ok A P yk p (sameAddr a c) (sameAddr b d):=by
 unfold sameAddr;rw[<-f.blk_iff g,<-f.eq_iff g];split
 .exact qs rfl
 try dsimp only
 refine jgl f λx y h=>?_;refine jgl g λn o m=>?_;split
 .exact .dead (.halt trivial)
 next e=>
 rw[if_neg (by simp only[Bool.and_eq_true]at e ⊢;exact λ⟨j,k⟩=>e ⟨h j,m k⟩)];refine SR.bind (jgr f) λq _ _ i _=>?_;refine SR.bind (jgr (g.mono i)) λj _ _ l _=>?_;refine SR.bind (jjv ((f.mono i).mono l) ((g.mono i).mono l)) λk x y t h=>?_;exact jp0 h
def jfo (e:AR p a b):SR ok A P yk p (byteOf a) (byteOf b):=by
 unfold byteOf;rw[e.spot];try dsimp only
 split
 .exact qs rfl
 refine j5 ?_;refine SR.bind (jgr e) λq _ _ f _=>?_;refine jf4 (e.mono f).blk λn=>?_;split
 .rw[e.off];split
  .exact qs rfl
  split
  .exact qs rfl
  exact qk
 exact qk
def jq2 (f:AR p a b) (c y:Nat):SR ok A P AR p (partAt a c y) (partAt b c y):=by
 refine SR.bind (jfo f) λq x z i h=>?_;cases h
 try dsimp only
 have e:AR q {block:=a.block,off:=a.off+c} {block:=b.block,off:=b.off+c}:=⟨(f.mono i).blk,by simp[f.off],rfl⟩;refine SR.bind (jfo e) λj x z g h=>qs ?_;cases h;split
 .exact e.mono g
 exact⟨(e.mono g).blk,e.off,rfl⟩
def jgi (e:AR p a b) (f:Field):SR ok A P AR p (fieldPlace a f) (fieldPlace b f):=by
 refine SR.bind (yc _) λq x y g h=>?_;cases h;split
 .exact jq2 (e.mono g) _ _
 exact qs ((e.mono g).add _)
def jvt (r:Nat) (_:Ren G) (x y:Bool):Prop:=(odd r=false/\x=y)\/(x=false/\odd r=true)
def jg8 (e:AR p a b) (u:Tp) (n:Nat):SR ok A P (jvt a.block) p (variablesAt a u n) (variablesAt b u n):=by
 refine j5 ?_;refine .shape e.blk (λf x=>?_) λg t n=>.pure (.inr ⟨rfl,g⟩);rw[e.off];cases x with
 |some x=>exact qs (.inl ⟨f,rfl⟩)
 |none=>exact qs (.inl ⟨f,rfl⟩)
def jij {a b:Addr}:∀(n:Nat) {p:Ren G} {a b:Addr} (acc:By),AR p a b->SR ok A P yk p (loadBytes a acc n) (loadBytes b acc n)
 |0,p,a,b,acc,ha=>qs rfl
 |n+1,p,a,b,acc,ha=>SR.bind (jip ha) λq v w e f=>by
  cases f with
  |int k z=>
   cases k<;>first|exact qk|exact jij (a:=a) (b:=b) n _ ((ha.mono e).add 1)
  |_=>exact qk
end
section
variable {B:Code->Bool}
def At (w:Wl) (t:Nat->Question->Nat) (d:Nat):Wl:={w with tape:=t,drawn:=d}
abbrev Ans:=List (Question×Nat)
def Agr (t:Nat->Question->Nat) (d:Nat) (ans:Ans):Prop:=∀i x,ans[i]?=some x->t (d+i) x.1=x.2
def Agr.nil (t:Nat->Question->Nat) (d:Nat):Agr t d []:=λi n h=>by simp at h
variable {t:Nat->Question->Nat} {d:Nat} {a b:Ans}
def Agr.app (h:Agr t d (a++b)):Agr t d a/\Agr t (d+a.length) b:=by
 refine⟨λi n e=>h i n ?_,λi n e=>?_⟩
 .rw[List.getElem?_append_left ((List.getElem?_eq_some_iff.1 e).1)];exact e
 have:=h (a.length+i) n (by rw[List.getElem?_append_right oe];simpa using e);rwa [<-nz]at this
def Agr.join (h:Agr t d a) (g:Agr t (d+a.length) b):Agr t d (a++b):=λi n e=>by
 rw[List.getElem?_append]at e;split at e
 .exact h i n e
 next hi=>
 have:=g _ n e;rw[show d+a.length+(i-a.length)=d+i by omega]at this;exact this
structure jfk (w A:Wl) (ans:Ans):Prop where
 agr:Agr w.tape w.drawn ans
 drawn:A.drawn=w.drawn+ans.length
variable {n:Nat}
def Agr.one {q:Question} (h:Agr t d [(q,n)]):t d q=n:=h 0 (q,n) rfl
structure WR (ok:Fi->Bool) (B:Code->Bool) (p:Ren G) (w w':Wl):Prop where
 dom:∀r s,p.f r=some s->∃o o',w.heap[r]?=some o/\w'.heap[s]?=some o'/\OD ok B p r o o'
 os:w'.os=w.os
 low:G<=w.heap.size/\G<=w'.heap.size
 big:OD2<w.heap.size
variable {p:Ren G}
def WR.not_odd (h:WR ok B p w w') (e:p.f r=some s) {t:Tp} (g:w.heap[r]?=some (.cells c t f)):odd r=false:=by
 obtain⟨o,i,a,b,x⟩:=h.dom r s e;rw[g]at a;cases a;cases x;assumption
structure PWm where
 at_:Nat->Prop
 lo:Nat->Option (Nat×Nat)
 kp:Nat->Option Obj
def jgx (f g:Nat×Nat):Prop:=g=f\/(g.1<g.2/\(f.1=f.2\/(g.1<=f.1/\f.2<=g.2)))
def jgx.trans {g h:Nat×Nat} (a:jgx f g) (b:jgx g h):jgx f h:=by
 obtain rfl|⟨e,i⟩:=b
 .exact a
 obtain rfl|⟨j,k⟩:=a
 .exact .inr ⟨e,i⟩
 exact .inr ⟨e,oe⟩
def jgx.freeze (f:Nat×Nat) {o:Nat} (g:n≠0):jgx f (if (f.1==f.2)=true then (o,o+n)else (min f.1 o,max f.2 (o+n))):=by
 right;split
 .next e=>simp at e;exact⟨oL,.inl e⟩
 exact⟨oL,.inr ⟨oL,oL⟩⟩
def jfp (o o':Option Obj):Prop:=∀c t f,o=some (.cells c t f)->∃c' t' g,o'=some (.cells c' t' g)/\jgx f g
def jfp.refl (o:Option Obj):jfp o o:=λc t f h=>⟨c,t,f,h,.inl rfl⟩
def jfp.same {o:Option Obj} {g:Av} {t i:Tp} (h:o=some (.cells c t f)):jfp o (some (.cells g i f)):=λa b d e=>by
 rw[h]at e;cases e;exact⟨_,_,_,rfl,.inl rfl⟩
def jfp.other (h:∀c t f,o≠.cells c t f) (i:Option Obj):jfp (some o) i:=λc t f e=>by cases e;exact absurd rfl (h _ _ _)
structure WK (Prot:PWm) (p:Ren G) (w:Wl):Prop where
 wh:∀r,Prot.at_ r->∃c t f,w.heap[r]?=some (.cells c t f)/\∀i,i<c.size->f.1<=i/\i<f.2
 up:∀r f,Prot.lo r=some f->∃c t g,w.heap[r]?=some (.cells c t g)/\jgx f g
 kp:∀r o,Prot.kp r=some o->w.heap[r]?=some o/\p.f r=none
inductive jgk:Option Obj->Option Obj->Prop
 |refl (o:Option Obj):jgk o o
 |cells (c:Av) (t:Tp) {f g:Nat×Nat}:jgx f g->jgk (some (.cells c t f)) (some (.cells c t g))
def jgk.trans {a b c:Option Obj} (h:jgk a b) (g:jgk b c):jgk a c:=by
 cases h with
 |refl=>exact g
 |cells c t h1=>cases g with
  |refl=>exact .cells _ _ h1
  |cells _ _ h2=>exact .cells _ _ (h1.trans h2)
structure Gua (Prot:PWm) (p q:Ren G) (w w':Wl):Prop where
 size:w.heap.size<=w'.heap.size
 out:∀s,s<w.heap.size->(∀r,p.f r=some s->Prot.at_ r)->jgk w.heap[s]? w'.heap[s]?
 off:∀s,s<w.heap.size->(∀r,p.f r≠some s)->w'.heap[s]?=w.heap[s]?
 odd:∀r s,Go.Proofs.YtbfkeoagmajcpaaGreatDoor.odd r=true->p.f r=some s->w'.heap[s]?=w.heap[s]?
 fresh:∀r s,q.f r=some s->p.f r=some s\/w.heap.size<=s
 le:p.Le q
 os:w'.os=w.os
 tape:w'.tape=w.tape
 output:w'.output=w.output
def Gua.refl {e:PWm} (p:Ren G) (w:Wl):Gua e p p w w:=⟨mC _,λ_ _ _=>.refl _,λ_ _ _=>rfl,λ_ _ _ _=>rfl,λ_ _ h=>.inl h,Ren.Le.refl _,rfl,rfl,rfl⟩
variable {q:Ren G} {A:Wl}
def Gua.trans {m:PWm} {r:Ren G} {y:Wl} (h:Gua m p q w A) (g:Gua m q r A y):Gua m p r w y:=by
 refine⟨Nat.le_trans h.size g.size,λs i j=>(h.out s i j).trans (g.out s (mN i h.size) λx k=>?_),λs i j=>(g.off s (mN i h.size) λx k=>?_).trans (h.off s i j),λx s o e=>(g.odd x s o (h.le _ _ e)).trans (h.odd x s o e),λx s e=>?_,h.le.trans g.le,g.os.trans h.os,g.tape.trans h.tape,g.output.trans h.output⟩
 .obtain e|e:=h.fresh x s k
  .exact j x e
  omega
 .obtain e|e:=h.fresh x s k
  .exact j x e
  omega
 obtain e|e:=g.fresh x s e
 .exact h.fresh x s e
 exact .inr (Nat.le_trans h.size e)
def jlo (Prot:PWm) (q:Ren G) (e:Event):Prop:=
 match e.loc with
 |.cell a=>∃r,q.f r=some a.block/\(e.write=true->¬Prot.at_ r/\odd r=false)
 |.obj s=>e.sync=false/\∃r,q.f r=some s/\¬Prot.at_ r/\odd r=false
 |.output=>True
 |.goroutines=>False
 |.mark m=>jhu m
def jlo.mono {j:PWm} (h:p.Le q) {e:Event} (r:jlo j p e):jlo j q e:=by
 unfold jlo at*;split<;>simp_all
 .obtain⟨x,g,i⟩:=r;exact⟨x,h _ _ g,i⟩
 obtain⟨_,x,g,i⟩:=r;exact⟨x,h _ _ g,i⟩
structure Upd (w A:Wl) (r:Nat) (o:Obj):Prop where
 at_:A.heap[r]?=some o
 off:∀k,k≠r->A.heap[k]?=w.heap[k]?
 size:A.heap.size=w.heap.size
 os:A.os=w.os
 tape:A.tape=w.tape
 output:A.output=w.output
 drawn:A.drawn=w.drawn
def WR.upd {k:Wl} {D:Obj} (h:WR ok B p w w') (e:p.f r=some s) (u:Upd w A r o) (g:Upd w' k s D) (l:OD ok B p r o D):WR ok B p A k:=by
 refine⟨λx y i=>?_,by rw[g.os,u.os,h.os],by rw[u.size,g.size];exact h.low,by rw[u.size];exact h.big⟩;by_cases j:x=r
 .subst j;obtain rfl:=mR (i.symm.trans e);exact⟨o,D,u.at_,g.at_,l⟩
 have m:y≠s:=λq=>j (p.inj _ _ _ i (q▸e));obtain⟨a,b,v,z,C⟩:=h.dom x y i;exact⟨a,b,(u.off x j).trans v,(g.off y m).trans z,C⟩
def jif (w:Wl) (r:Nat) (f:Obj->Obj) (h:w.heap[r]?=some o):Upd w {w with heap:=w.heap.modify r f} r (f o):=by
 refine⟨?_,λk e=>?_,oi,rfl,rfl,rfl,rfl⟩
 .simp[Array.getElem?_modify,h]
 simp[Array.getElem?_modify,Ne.symm e]
def jhq (w:Wl) (r:Nat) (i:Obj) (h:w.heap[r]?=some o):Upd w {w with heap:=w.heap.setIfInBounds r i} r i:=by
 have:=(mw.1 h).1;refine⟨by simp[this],λk e=>?_,oi,rfl,rfl,rfl,rfl⟩;rw[Array.getElem?_setIfInBounds,if_neg (Ne.symm e)]
def Gua.upd {m:PWm} (e:p.f r=some s) (u:Upd w A s o) (h:¬m.at_ r\/jgk w.heap[s]? (some o)) (j:Go.Proofs.YtbfkeoagmajcpaaGreatDoor.odd r=false):Gua m p p w A:=by
 refine⟨nk u.size.symm,λx k g=>?_,λx k g=>u.off x λq=>g r (q▸e),λx y o q=>u.off y λz=>by(obtain rfl:=p.inj _ _ _ q (z▸e);rw[j]at o;cases o),λ_ _ h=>.inl h,Ren.Le.refl _,u.os,u.tape,u.output⟩;by_cases i:x=s
 .subst i;obtain h|h:=h
  .exact absurd (g r e) h
  rw[u.at_];exact h
 rw[u.off x i];exact .refl _
def WK.upd {E:PWm} (h:WK E p w) (e:p.f r=some s) (u:Upd w A r o) (v:E.at_ r->∃c t f,o=.cells c t f/\∀i,i<c.size->f.1<=i/\i<f.2) (y:jfp w.heap[r]? (some o)):WK E p A:=by
 refine⟨λx k=>?_,λx f k=>?_,λx o k=>?_⟩
 .by_cases m:x=r
  .subst m;obtain⟨c,t,f,rfl,j⟩:=v k;exact⟨c,t,f,u.at_,j⟩
  obtain⟨c,t,f,l,j⟩:=h.wh x k;exact⟨c,t,f,(u.off x m).trans l,j⟩
 .obtain⟨c,t,g,l,j⟩:=h.up x f k;by_cases m:x=r
  .subst m;obtain⟨C,D,F,e,z⟩:=y _ _ _ l;cases e;exact⟨_,_,_,u.at_,j.trans z⟩
  exact⟨c,t,g,(u.off x m).trans l,j⟩
 obtain⟨l,j⟩:=h.kp x o k
 have:x≠r:=λq=>by rw[q,e]at j;cases j
 exact⟨(u.off x this).trans l,j⟩
def jra {a b:Nat×Nat} (h:jjx a b) (o n:Nat):
 jjx (if (a.1==a.2)=true then (o,o+n)else (min a.1 o,max a.2 (o+n))) (if (b.1==b.2)=true then (o,o+n)else (min b.1 o,max b.2 (o+n))):=by
 obtain⟨i,j⟩:=h;by_cases e:a.1=a.2<;>by_cases g:b.1=b.2<;>simp[jjx,e,g]<;>omega
def jtx (w:Wl):w.sys .env=(.strings w.os.env,w):=rfl
def At.cell? (w:Wl) (t:Nat->Question->Nat) (d:Nat) (a:Addr):(At w t d).cell? a=w.cell? a:=rfl
end
section
variable {C:Code->Bool}
variable {p:Ren G} {E:Vl} {D:List UInt8}
def jn4 (h:VR ok p v E) (e:v.bytes?=some D):E=v:=by
 cases h<;>first|rfl|(simp[Value.bytes?]at e)
variable {A:Av}
def jlq (h:VA ok p c A) (e:Tp):∀(q x g:Nat) (l:List (Nat×Nat×List UInt8)),seenCells P c e q x g=.ok l->seenCells P A e q x g=.ok l:=by
 intro q;induction q with
 |zero=>intro x g l d;simp[seenCells]at d
 |succ n ih=>
  intro x g l d;unfold seenCells at d ⊢;split at d
  .next e1=>rw[if_pos e1];exact d
  next e1=>
  rw[if_neg e1];simp only at d ⊢;split at d
  .cases d
  next e2=>
  rw[if_neg e2];split at d
  .cases d
  next i s e3=>
  try simp only at d ⊢
  obtain⟨j,m⟩|⟨u,v,j,m,o⟩:=h.get i
  .rw[j]at d;cases d
  rw[j]at d;rw[m];simp only at d ⊢;cases hb:u.bytes? with
  |none=>rw[hb]at d;cases d
  |some D=>
   rw[jn4 o hb,hb];rw[hb]at d;cases D with
   |nil=>cases d
   |cons b D=>
    simp only at d ⊢;cases hs:seenCells P c e n (s+(b::D).length) g with
    |error=>rw[hs]at d;cases d
    |ok l'=>rw[ih _ _ _ hs];rw[hs]at d;exact d
variable {a' k B:Addr} {e:Tp}
def jn9 (h:WR ok C p w w') (d:AR p a a') (m:B.off=k.off/\B.spot=k.spot) (u:Tp) (at_:Bool)
 {first:Nat} {j:Vl} {cells:List (Nat×Nat×List UInt8)} (b:w.seen P a u k at_=.ok (c,e,f,first,j,cells)):
 ∃A g,w'.seen P a' u B at_=.ok (A,e,g,first,j,cells)/\VA ok p c A/\jjx f g/\w.heap[a.block]?=some (.cells c e f)/\w'.heap[a'.block]?=some (.cells A e g):=by
 obtain⟨o,I,n,q,r⟩:=h.dom _ _ d.blk;obtain⟨s,x⟩:=m;unfold World.seen at b ⊢;simp only[d.off,d.spot,s,x,n,q,bind,Except.bind,pure,Except.pure,throwThe,MonadExceptOf.throw,MonadExcept.throw]at b ⊢;cases r with
 |odd=>repeat' (first|(cases b;done)|split at b)
 |nor hno ho=>cases ho with
 |cells t hc hf=>
  rename_i c0 y i z;repeat' (first|(cases b;done)|split at b)
  all_goals try exact(‹∀(c:Av) (e:Tp) (F:Nat×Nat),some (Obj.cells c0 t i)=some (Obj.cells c e F)->False› _ _ _ rfl).elim
  all_goals
   obtain⟨rfl,rfl,rfl⟩:c0=_/\t=_/\i=_:=by simpa using ‹some (Obj.cells c0 t i)=some (Obj.cells _ _ _)›
   have H:=jlq (P:=P) hc t _ _ _ _ ‹seenCells P _ _ _ _ _=Except.ok _›;simp only[Except.ok.injEq,Prod.mk.injEq]at b;obtain⟨rfl,rfl,rfl,rfl,rfl,rfl⟩:=b;exact⟨y,z,by simp_all,hc,hf,rfl,rfl⟩
 |_=>repeat' (first|(cases b;done)|split at b)
def jrc (P:Pq):Prop:=∀t k,P.underlying t≠some (.float k)/\P.underlying t≠some (.complex k)
def jil {α β:Type} {f:α->Option β}:∀{l:List α} {b:β},l.findSome? f=some b->∃a,f a=some b
 |[],_,h=>by simp at h
 |a::l,b,h=>by
  rw[List.findSome?_cons]at h;split at h
  .next e=>exact⟨a,e.trans h⟩
  exact jil h
def jf5 (g:jrc P):∀(d:Nat) (t:Tp) (off:Nat) {v:Vl},plainCell P d t off=some v->(∃b,v=.bool b)\/∃k n,v=.int k n
 |0,t,off,v,h=>by simp[plainCell]at h
 |d+1,t,off,v,h=>by
  unfold plainCell at h;split at h
  .rw[<-Array.findSome?_toList]at h;obtain⟨f,i⟩:=jil h;split at i
   .exact jf5 g d _ _ i
   cases i
  .dsimp only at h;split at h
   .cases h
   exact jf5 g d _ _ h
  .split at h
   .cases h;exact .inl ⟨_,rfl⟩
   cases h
  .split at h
   .cases h;exact .inr ⟨_,_,rfl⟩
   cases h
  .next e=>exact absurd e (g _ _).1
  .next e=>exact absurd e (g _ _).2
  cases h
def jqj {u:Tp} {at_:Bool} {first:Nat} {d:Vl} {g:List (Nat×Nat×List UInt8)} (b:w.seen P a u k at_=.ok (c,e,f,first,d,g)):plainCell P P.depth u k.off=some d:=by
 unfold World.seen at b;simp only[bind,Except.bind,pure,Except.pure,throwThe,MonadExceptOf.throw,MonadExcept.throw]at b;repeat' (first|(cases b;done)|split at b)
 all_goals (cases b;assumption)
def jg5 {d:Vl} (g:(∃b,d=.bool b)\/∃k n,d=.int k n) (h:d.ofBytes D=some v):VR ok p v v:=by
 obtain⟨b,rfl⟩|⟨k,n,rfl⟩:=g
 .unfold Value.ofBytes at h;dsimp only at h;split at h<;>first|(cases h;exact .bool _)|cases h
 unfold Value.ofBytes at h;dsimp only at h;split at h<;>first|(cases h;exact .int _ _)|cases h
variable {l:List Addr}
def jmf (g:jrc P) (h:WR ok C p w w') (i:AR p a a') (j:B.off=k.off/\B.spot=k.spot) (u:Tp) (at_:Bool)
 (b:w.viewLoad P a u k at_=.ok (v,l)):∃d,w'.viewLoad P a' u B at_=.ok (v,d)/\VR ok p v v/\∀x∈d,x.block=a'.block:=by
 unfold World.viewLoad at b ⊢;simp only[bind,Except.bind,pure,Except.pure,throwThe,MonadExceptOf.throw,MonadExcept.throw]at b ⊢;cases he:w.seen P a u k at_ with
 |error=>rw[he]at b;cases b
 |ok x=>
  obtain⟨c,e,f,first,n,o⟩:=x;obtain⟨A,q,m,_⟩:=jn9 h i j u at_ he;rw[he]at b;rw[m];simp only at b ⊢;split at b
  .next v0 e2=>
   cases b;exact⟨_,rfl,jg5 (jf5 g _ _ _ (jqj he)) e2,by simp only[List.mem_map];rintro x ⟨_,_,rfl⟩;rfl⟩
  cases b
def jon (h:VR ok p v E) {x:Vl} (e:v.ofBytes D=some x):E.ofBytes D=some x/\VR ok p x x:=by
 cases h with
 |bool b=>exact⟨e,jg5 (.inl ⟨_,rfl⟩) e⟩
 |int k n=>exact⟨e,jg5 (.inr ⟨_,_,rfl⟩) e⟩
 |_=>simp[Value.ofBytes]at e
variable {X:Type}
def jsz {g o:Av->X->Except String (Av)}
 (i:∀c A x d,VA ok p c A->g c x=.ok d->∃b,o A x=.ok b/\VA ok p d b):
 ∀(l:List X) (c A:Av) (d:Av),VA ok p c A->l.foldlM g c=.ok d->∃b,l.foldlM o A=.ok b/\VA ok p d b:=by
 intro l;induction l with
 |nil=>intro c A d h e;cases e;exact⟨A,rfl,h⟩
 |cons x l ih=>
  intro c A d h e;simp only[List.foldlM_cons,bind,Except.bind]at e ⊢;cases hx:g c x with
  |error=>rw[hx]at e;cases e
  |ok d1=>
   obtain⟨b,j,m⟩:=i c A x d1 h hx;rw[hx]at e;rw[j];exact ih d1 b d m e
def jqh {g o:Av->X->Except String (Av)} {l:List X} {d:Av} {r:Except String (Av)} (h:VA ok p c A) (i:l.foldlM g c=.ok d) (j:l.foldlM o A=r)
 (m:∀c A x d,VA ok p c A->g c x=.ok d->∃b,o A x=.ok b/\VA ok p d b):∃b,r=.ok b/\VA ok p d b:=by
 subst j;exact jsz m l c A d h i
def jg0 (w:Wl) (t:Nat->Question->Nat) (n:Nat) (a k:Addr) (u:Tp) (v:Vl) (b:Bool):
 (At w t n).viewStore P a u k v b=(w.viewStore P a u k v b).map λx=>(At x.1 t n,x.2):=by
 have d:(At w t n).seen P a u k b=w.seen P a u k b:=rfl;unfold World.viewStore;simp only[d,bind,Except.bind,pure,Except.pure,throwThe,MonadExceptOf.throw,MonadExcept.throw];repeat' (first|rfl|split)
 all_goals simp_all [Except.map,At]
def jln {Prot:PWm} {L:Wl} (h:WR ok C p w w') (M:WK Prot p w) (H:AR p a a') (Y:B.off=k.off/\B.spot=k.spot) (u:Tp) (at_:Bool) (Z:VR ok p v E)
 (b:w.viewStore P a u k v at_=.ok (L,l)):∃N O,w'.viewStore P a' u B E at_=.ok (N,O)/\(∀x∈O,x.block=a'.block/\¬Prot.at_ a.block)/\
  ∃o o',Upd w L a.block o/\Upd w' N a'.block o'/\jfp w.heap[a.block]? (some o)/\OD ok C p a.block o o'/\odd a.block=false/\(¬Prot.at_ a.block\/(jgk w'.heap[a'.block]? (some o')/\∃c t f,o=.cells c t f/\∀i,i<c.size->f.1<=i/\i<f.2)):=by
 unfold World.viewStore at b;simp only[bind,Except.bind,pure,Except.pure,throwThe,MonadExceptOf.throw,MonadExcept.throw]at b;split at b
 .cases b
 next t1=>
 cases he:w.seen P a u k at_ with
 |error=>rw[he]at b;cases b
 |ok x=>
  obtain⟨c,e,f,first,like,Q⟩:=x;obtain⟨A,f',e1,hc,R,g,S⟩:=jn9 h H Y u at_ he;rw[he]at b;simp only at b;cases hb:v.bytes? with
  |none=>rw[hb]at b;cases b
  |some bytes=>
   rw[hb]at b;simp only at b;split at b
   .cases b
   next t2=>
   split at b
   .cases b
   next d hd=>
   cases b
   have j:¬Prot.at_ a.block\/Q=[]:=by
        cases Q with
        |nil=>exact .inr rfl
        |cons x l=>
         refine .inl λr=>?_;obtain⟨c2,e2,T,n,I⟩:=M.wh _ r;rw[g]at n;cases n;simp only[List.foldlM_cons,bind,Except.bind]at hd;split at hd
         .cases hd
         next q=>
         repeat' (first|(cases q;done)|split at q)
         rename_i J _ _ hci _ _ _;have:=I x.1 (mw.1 hci).1;simp at J;omega
   cases hco:w'.viewStore P a' u B E at_ with
   |error m=>_
   |ok m=>_
   all_goals
        unfold World.viewStore at hco;simp only[bind,Except.bind,pure,Except.pure,throwThe,MonadExceptOf.throw,MonadExcept.throw]at hco;rw[if_neg t1,e1]at hco;simp only at hco;rw[jn4 Z hb,hb]at hco;simp only at hco;rw[if_neg t2]at hco;split at hco;all_goals
         rename_i F U;obtain⟨d',V,hd'⟩:=jqh hc hd U (by
          intro c A x d h e;repeat' (first|(cases e;done)|split at e)
          rename_i n1 J _ old s _ new hn;cases e;obtain⟨K,W⟩|⟨y,z,K,W,hr⟩:=h.get x.1
          .rw[K]at s;cases s
          rw[K]at s;cases s;obtain⟨k1,k2⟩:=jon hr hn;refine⟨A.setIfInBounds x.1 new,?_,h.set _ k2⟩;rw[if_neg n1,if_neg (by simp only[Bool.and_eq_true,decide_eq_true_eq]at J ⊢;obtain⟨f1,T⟩:=R;omega),W];simp only;rw[k1])
         first
         |(cases V;done)
         |(cases hco;done)
         |cases V
          cases hco;refine⟨_,_,rfl,?_,_,_,jhq w _ _ g,jhq w' _ _ S,.same g,.nor (h.not_odd H.blk g) (.cells e hd' R),h.not_odd H.blk g,?_⟩
          .intro x q;simp only[List.mem_map]at q;obtain⟨y,hy,rfl⟩:=q;refine⟨rfl,?_⟩;obtain j|rfl:=j
           .exact j
           cases hy
          obtain j|rfl:=j
          .exact .inl j
          by_cases r:Prot.at_ a.block
          .obtain⟨c2,e2,T,n,I⟩:=M.wh _ r;rw[g]at n;cases n;cases hd;cases U;exact .inr ⟨by rw[S];exact .refl _,_,_,_,rfl,I⟩
          exact .inl r
end
section
variable {Prot:PWm}
inductive yd (B:Type) where
 |val (a:B)
 |panic (v:Vl)
 |goexit
def yd.res {B:Type}:yd B->Wl->Result B
 |.val a,w=>.ok a w
 |.panic v,w=>.halt (.panic v) w
 |.goexit,w=>.halt .goexit w
inductive jo8 (ok:Fi->Bool) {B C:Type} (R:Ren G->B->C->Prop) (q:Ren G):yd B->yd C->Prop
 |val {a:B} {b:C}:R q a b->jo8 ok R q (.val a) (.val b)
 |panic {v w:Vl}:VR ok q v w->jo8 ok R q (.panic v) (.panic w)
 |goexit:jo8 ok R q .goexit .goexit
def yn (ok:Fi->Bool) (A:Code->Bool) (P:Pq) (Prot:PWm) {B C:Type} (R:Ren G->B->C->Prop) (p:Ren G) (m:Sem B) (V:Sem C) (w w':Wl):Prop:=
 ∃ans:Ans,(∀t d,Agr t d ans->∃h w2,q12 h/\m.run P (At w t d)=.halt h w2)\/
  ∃ansC q w1 w1' es x y,jfk w' w1' ansC/\WR ok A q w1 w1'/\WK Prot q w1/\Gua Prot p q w' w1'/\(∀e∈es,jlo Prot q e)/\jo8 ok R q x y/\
   (∀t d,Agr t d ans->m.run P (At w t d)=x.res (At w1 t (d+ans.length)))/\∀t d,Agr t d ansC->∀es0,V.runT P (At w' t d) es0=(y.res (At w1' t (d+ansC.length)),es0++es)
variable {p:Ren G} {V:Sem C}
def yn.pre {B:Type} {R:Ren G->B->C->Prop} {q:Ren G} {m m2:Sem B} {n:Sem C} {w w2 w2':Wl} {ans0 ansC0:Ans} {es0:Array Event}
 (o:∀t d,Agr t d ans0->m.run P (At w t d)=m2.run P (At w2 t (d+ans0.length))) (D:∀t d,Agr t d ansC0->∀X,V.runT P (At w' t d) X=n.runT P (At w2' t (d+ansC0.length)) (X++es0)) (j:jfk w' w2' ansC0)
 (g:Gua Prot p q w' w2') (E:∀e∈es0,jlo Prot q e) (s:yn ok A P Prot R q m2 n w2 w2'):yn ok A P Prot R p m V w w':=by
 obtain⟨ans,h⟩:=s;refine⟨ans0++ans,?_⟩;obtain h|⟨F,r,H,I,X,x,y,u,J,K,z,L,M,N,O⟩:=h
 .refine .inl λt d c=>?_;obtain⟨f,i⟩:=c.app;obtain⟨e,Q,b,h⟩:=h t _ i;exact⟨e,Q,b,(o t d f).trans h⟩
 refine .inr ⟨ansC0++F,r,H,I,es0++X,x,y,⟨j.agr.join ?_,?_⟩,J,K,g.trans z,λe S=>?_,M,λt d c=>?_,λt d c T=>?_⟩
 .have:=u.agr;rw[g.tape,j.drawn]at this;exact this
 .rw[u.drawn,j.drawn,nj,nz]
 .obtain l|l:=Array.mem_append.1 S
  .exact(E e l).mono z.le
  exact L e l
 .obtain⟨f,i⟩:=c.app;rw[o t d f,N t _ i,nj,nz]
 obtain⟨f,i⟩:=c.app;rw[D t d f,O t _ i,Array.append_assoc,nj,nz]
def jfk.nil (w:Wl):jfk w w []:=⟨Agr.nil _ _,rfl⟩
def yn.bad {B:Type} {R:Ren G->B->C->Prop} {m:Sem B} {w:Wl} (h:∀t d,∃h i,q12 h/\m.run P (At w t d)=.halt h i):yn ok A P Prot R p m V w w':=
 ⟨[],.inl λt d _=>h t d⟩
def jki {w:Wl} {a:Addr} (d:∀c t,w.heap[a.block]?=some (.pending c t)->odd a.block=true) (s:String):q12 (w.noCell a s):=by
 unfold World.noCell;split
 .next h=>exact d _ _ h
 .trivial
 trivial
variable {e:Halt}
def jnp {w:Wl} {a:Addr} (f:∀c t,w.heap[a.block]?=some (.pending c t)->odd a.block=true) {b:Bool} (d:w.farLoad P a b=.error e):q12 e:=by
 unfold World.farLoad at d;repeat' split at d
 all_goals first|(cases d;done)|(cases d;trivial)|(cases d;exact jki f _)
def jmy {w:Wl} {a:Addr} (f:∀c t,w.heap[a.block]?=some (.pending c t)->odd a.block=true) {v:Vl} {b:Bool} (d:w.farStore P a v b=.error e):q12 e:=by
 unfold World.farStore at d;repeat' split at d
 all_goals first|(cases d;done)|(cases d;trivial)|(cases d;exact jki f _)
def jjo {w:Wl} (h:WR ok A p w w') {a:Addr} (f:AR p a b):∀c t,w.heap[a.block]?=some (.pending c t)->odd a.block=true:=λc t e=>by
 obtain⟨o,i,g,_,d⟩:=h.dom _ _ f.blk;rw[g]at e;cases e;cases d with
 |nor _ d=>cases d
 |odd e=>exact e
section
variable {k:Sem B}
def jht (h:jg6 v):(Sem.store m a v k).run P w=match w.cell? a with
 |some _=>if w.frozen? a then .halt (.unsupported (.unsafePointer "a write to bytes that a string shares")) w else k.run P (w.setCell a v)
 |none=>match w.farStore P a v (m==.atomic)with
  |.ok (w,_)=>k.run P w
  |.error h=>.halt h w:=by
 cases v<;>first|rfl|cases h
def jkr (h:jg6 v) (d:Array Event):(Sem.store m a v k).runT P w d=match w.cell? a with
 |some _=>if w.frozen? a then (.halt (.unsupported (.unsafePointer "a write to bytes that a string shares")) w,d)else k.runT P (w.setCell a v) (d.push ⟨.cell a,true,m==.atomic⟩)
 |none=>match w.farStore P a v (m==.atomic)with
  |.ok (w,touched)=>k.runT P w (d++touched.toArray.map (⟨.cell ·,true,m==.atomic⟩))
  |.error h=>(.halt h w,d):=by
 cases v<;>first|rfl|cases h
def jik (h:¬jg6 v):∃d,(Sem.store m a v k).run P w=.halt (.stuck "store: not the value of one cell") d:=by
 cases v<;>first|exact⟨_,rfl⟩|exact absurd trivial h
end
def yw.run {B:Type} {m:Sem B} (h:yw m) (w:Wl):∃h d,q12 h/\m.run P w=.halt h d:=by
 induction h generalizing w with
 |halt h=>exact⟨_,_,h,rfl⟩
 |shape _ ih=>exact ih _ _
 |frozen _ ih=>exact ih _ _
 |choose _ ih=>
  unfold Sem.run;split
  .exact ih _ _
  exact ih _ _
 |program _ ih=>exact ih _ _
 |mark _ ih=>exact ih _
def jo2 {v w:Vl} (h:VR ok p v w) (c:jg6 v):jg6 w:=by
 cases h<;>first|trivial|cases c
def jmb {w:Wl} (h:WR ok A p w w') {a:Addr} (d:AR p a b) (e:w'.frozen? b=true):w.frozen? a=true:=by
 obtain⟨o,q,f,g,c⟩:=h.dom _ _ d.blk;unfold World.frozen? at e ⊢;rw[g]at e;rw[f];cases c with
 |odd=>simp at e
 |nor _ c=>cases c with
 |cells t hc hf=>
  simp only[Bool.and_eq_true,decide_eq_true_eq]at e ⊢;obtain⟨i,j⟩:=hf;rw[d.off]at e;omega
 |_=>cases e
def jpe {w:Wl} (h:WR ok A p w w') {a:Addr} (j:AR p a b) {v:Vl} (e:w.cell? a=some v):
 ∃n c d t f g,w'.cell? b=some n/\VR ok p v n/\w.heap[a.block]?=some (.cells c t f)/\w'.heap[b.block]?=some (.cells d t g)/\VA ok p c d/\jjx f g/\a.spot=none/\a.off<c.size:=by
 obtain⟨o,z,q,s,l⟩:=h.dom _ _ j.blk;unfold World.cell? at e ⊢;rw[q]at e;rw[s];cases l with
 |odd=>cases e
 |nor _ l=>cases l with
 |@cells c d t f g hc hf=>
  simp only[j.spot,j.off]at e ⊢;cases hsp:a.spot with
  |some x=>simp[hsp]at e
  |none=>
   simp only[hsp,Option.isSome_none,Bool.false_eq_true,if_false]at e ⊢;obtain⟨i,r⟩|⟨x,y,i,r,u⟩:=hc.get a.off
   .rw[i]at e;cases e
   rw[i]at e;cases e;exact⟨y,c,d,t,f,g,r,u,q,rfl,hc,hf,trivial,(mw.1 i).1⟩
 |_=>cases e
def jnj {w:Wl} (h:WR ok A p w w') {a:Addr} (i:AR p a b) (r:odd a.block=false) (e:w.cell? a=none):w'.cell? b=none:=by
 obtain⟨o,D,s,u,j⟩:=h.dom _ _ i.blk;unfold World.cell? at e ⊢;rw[s]at e;rw[u];cases j with
 |odd q=>rw[r]at q;cases q
 |nor _ j=>cases j with
 |@cells c d t f g hc hf=>
  simp only[i.spot,i.off]at e ⊢;split at e
  .next q=>rw[if_pos q]
  next q=>
  rw[if_neg q];obtain⟨l,n⟩|⟨x,y,l,n,z⟩:=hc.get a.off
  .exact n
  rw[l]at e;cases e
 |_=>rfl
def jky {w:Wl} (h:WR ok A p w w') {r s:Nat} (i:p.f r=some s):(odd r=false/\w'.shape? s=w.shape? r)\/(odd r=true/\∃t n c u,w.heap[r]?=some (.pending c u)/\c.size=n+1/\w.shape? r=none/\w'.shape? s=some (t,n+1)):=by
 obtain⟨o,x,j,l,g⟩:=h.dom _ _ i;unfold World.shape?;rw[j,l];cases g with
 |@odd c d t u e q z=>exact .inr ⟨e,u,d.size-1,c,t,rfl,oe,rfl,by rw[show d.size-1+1=d.size by omega]⟩
 |nor e g=>cases g with
 |cells t hc hf=>exact .inl ⟨e,by simp[hc.size]⟩
 |_=>exact .inl ⟨e,rfl⟩
def joj {w:Wl} (h:WR ok A p w w') {a:Addr} (c:p.f a.block=some b.block) (d:odd a.block=true):w'.frozen? b=false:=by
 obtain⟨o,r,j,g,i⟩:=h.dom _ _ c;unfold World.frozen?;rw[g];cases i with
 |odd=>simp
 |nor q=>rw[d]at q;cases q
end
variable {Prot:PWm}
section
variable {k:Vl->Sem B}
def jkw:(Sem.load m a k).run P w=match w.cell? a with
 |some v=>(k v).run P w
 |none=>match w.farLoad P a (m==.atomic)with
  |.ok (v,_)=>(k v).run P w
  |.error h=>.halt h w:=by rw[Sem.run];cases w.cell? a<;>rfl
def jl0 (b:Array Event):(Sem.load m a k).runT P w b=match w.cell? a with
 |some v=>(k v).runT P w (b.push ⟨.cell a,false,m==.atomic⟩)
 |none=>match w.farLoad P a (m==.atomic)with
  |.ok (v,touched)=>(k v).runT P w (b++touched.toArray.map (⟨.cell ·,false,m==.atomic⟩))
  |.error h=>(.halt h w,b):=by rw[Sem.runT];cases w.cell? a<;>rfl
end
variable {p:Ren G}
def jhz {w:Wl} {w':Wl} (h:WR ok A p w w') {s:Nat} (e:p.f r=some s):r<w.heap.size/\s<w'.heap.size:=by
 obtain⟨o,i,b,d,_⟩:=h.dom _ _ e;exact⟨(mw.1 b).1,(mw.1 d).1⟩
variable {t:Tp}
def jjl {w:Wl} {a:Addr} (h:w.heap[a.block]?=some (.cells c t f)) (b:a.spot=none) (v:Vl):Upd w (w.setCell a v) a.block (.cells (c.setIfInBounds a.off v) t f):=by
 have:=jif w a.block (λ|.cells c elem frozen=>.cells (if a.spot.isSome then c else c.setIfInBounds a.off v) elem frozen|o=>o) h;simp only[b,Option.isSome_none,Bool.false_eq_true,if_false]at this;unfold World.setCell;simp only[b,Option.isSome_none,Bool.false_eq_true,if_false];exact this
def jh3 {w:Wl} {a:Addr} (h:w.heap[a.block]?=some (.cells c t f)) {n:Nat} (b:n≠0):Upd w (w.freeze a n) a.block (.cells c t (if (f.1==f.2)=true then (a.off,a.off+n)else (min f.1 a.off,max f.2 (a.off+n)))):=by
 unfold World.freeze;rw[if_neg b];exact jif w a.block (λ|.cells c elem (lo,hi)=>.cells c elem (if lo==hi then (a.off,a.off+n)else (min lo a.off,max hi (a.off+n)))|o=>o) h
def jju {w:Wl} {a:Addr} (h:w.heap[a.block]?=some o) (b:∀c t f,o≠.cells c t f) (n:Nat):Upd w (w.freeze a n) a.block o:=by
 unfold World.freeze;split
 .exact⟨h,λ_ _=>rfl,rfl,rfl,rfl,rfl,rfl⟩
 have:=jif w a.block (λ|.cells c elem (lo,hi)=>.cells c elem (if lo==hi then (a.off,a.off+n)else (min lo a.off,max hi (a.off+n)))|o=>o) h;cases o<;>first|exact absurd rfl (b _ _ _)|exact this
def jgo {w:Wl} (b:WK Prot p w) (h:w.heap[r]?=some o) (d:∀c t f,o≠.cells c t f):¬Prot.at_ r:=λg=>by
 obtain⟨c,t,f,e,_⟩:=b.wh r g;rw[h]at e;cases e;exact d _ _ _ rfl
def jpq {b:Obj} (h:OR ok A p o b):b.isChan=false:=by cases h<;>rfl
def SR.run (NF:jrc P) {B β:Type} {R:Ren G->B->β->Prop} {m:Sem B} {m':Sem β} (h:SR ok A P R p m m'):
 ∀{w w':Wl},WR ok A p w w'->WK Prot p w->yn ok A P Prot R p m m' w w':=by
 induction h with
 |pure r=>
  intro w w' j C;exact⟨[],.inr ⟨[],_,w,w',#[],.val _,.val _,jfk.nil _,j,C,Gua.refl _ _,oi,.val r,λt d _=>rfl,λt d _ es0=>by simp[Sem.runT,yd.res]⟩⟩
 |@load p m a b k l ha _ ih=>
  intro w w' j C;cases H:w.cell? a with
  |some v=>
   obtain⟨v',c,d,t,f,g,O,N,Q,e4,e5,e6,e7,e8⟩:=jpe j ha H;refine yn.pre (ans0:=[]) (es0:=#[⟨.cell b,false,m==.atomic⟩]) (ansC0:=[]) (λt d _=>?_) (λt d _ es=>?_) (jfk.nil _) (Gua.refl _ _) ?_ (ih v v' N j C)
   .rw[jkw,At.cell?,H];rfl
   .rw[jl0,At.cell?,O];rfl
   intro e E;simp at E;subst E;exact⟨_,ha.blk,oi⟩
  |none=>
   obtain⟨o,o',D,I,T⟩:=j.dom _ _ ha.blk
   have Z:(∀t d,∃e,(At w t d).farLoad P a (m==.atomic)=.error e)->yn ok A P Prot R p (.load m a k) (.load m b l) w w':=λhb=>.bad λt d=>by
        obtain⟨e,E⟩:=hb t d;refine⟨e,At w t d,jnp (jjo j ha) E,?_⟩;rw[jkw,At.cell?,H];simp only[E]
   have U:∀t d,(At w t d).heap[a.block]?=some o:=λ_ _=>D;cases T with
   |odd=>exact Z λt d=>⟨_,by unfold World.farLoad;rw[U]⟩
   |nor F J=>
   have V:=jnj j ha F H;cases J with
   |@view x y u M=>
    have hv:∀t d,(At w t d).viewLoad P x u a (m==.atomic)=w.viewLoad P x u a (m==.atomic):=λ_ _=>rfl;cases hl:w.viewLoad P x u a (m==.atomic)with
    |error e=>exact Z λt d=>⟨.unsupported (.unsafePointer e),by unfold World.farLoad;rw[U];simp only[hv,hl]⟩
    |ok r=>
     obtain⟨v,li⟩:=r;obtain⟨li',O,N,Q⟩:=jmf NF j M ⟨ha.off,ha.spot⟩ u (m==.atomic) hl;refine yn.pre (ans0:=[]) (es0:=li'.toArray.map (⟨.cell ·,false,m==.atomic⟩)) (ansC0:=[]) (λt d _=>?_) (λt d _ es=>?_) (jfk.nil _) (Gua.refl _ _) ?_ (ih v v N j C)
     .rw[jkw,At.cell?,H];unfold World.farLoad;rw[U];simp only[hv,hl];rfl
     .rw[jl0,At.cell?,V];have hA2:(At w' t d).heap[b.block]?=_:=I;have hv2:(At w' t d).viewLoad P y u b (m==.atomic)=w'.viewLoad P y u b (m==.atomic):=rfl;unfold World.farLoad;rw[hA2];simp only[hv2,O];rfl
     intro e E;simp at E;obtain⟨z,hz,rfl⟩:=E;exact⟨x.block,by show p.f x.block=some z.block;rw[Q z hz];exact M.blk,oi⟩
   |_=>exact Z λt d=>⟨_,by unfold World.farLoad;rw[U]⟩
 |@store p m a b v v' k l ha hv _ ih=>
  intro w w' j C;by_cases W:jg6 v;rotate_left
  .exact .bad λt d=>by
        obtain⟨w2,e⟩:=jik (P:=P) (m:=m) (a:=a) (k:=k) (w:=At w t d) W;exact⟨.stuck _,_,trivial,e⟩
  have h1c':=jo2 hv W;cases H:w.cell? a with
  |some u=>
   obtain⟨u',c,d,t,f,g,O,N,Q,e4,e5,e6,e7,e8⟩:=jpe j ha H;by_cases hf:w.frozen? a=true
   .exact .bad λt d=>by
     refine⟨.unsupported (.unsafePointer "a write to bytes that a string shares"),At w t d,trivial,?_⟩;rw[jht W,At.cell?,H];have:(At w t d).frozen? a=w.frozen? a:=rfl;simp only[this,hf,if_true]
   have hf':¬w'.frozen? b=true:=λq=>hf (jmb j ha q)
   have K:¬Prot.at_ a.block:=λq=>by
        obtain⟨c2,t2,f2,X,q2⟩:=C.wh _ q;rw[Q]at X;cases X;apply hf;unfold World.frozen?;rw[Q];simpa using q2 _ e8
   have F:=j.not_odd ha.blk Q;have Y:=jjl Q e7 v;have S:=jjl e4 (ha.spot.trans e7) v';refine yn.pre (ans0:=[]) (es0:=#[⟨.cell b,true,m==.atomic⟩]) (ansC0:=[]) (w2:=w.setCell a v) (w2':=w'.setCell b v') (λt d _=>?_) (λt d _ es=>?_) ⟨Agr.nil _ _,rfl⟩ (Gua.upd ha.blk S (.inl K) F) ?_ (ih (j.upd ha.blk Y S (.nor F (.cells t (by rw[ha.off];exact e5.set _ hv) e6))) (C.upd ha.blk Y (λq=>absurd q K) (.same Q)))
   .rw[jht W,At.cell?,H];have:(At w t d).frozen? a=w.frozen? a:=rfl;simp only[this,hf];rfl
   .rw[jkr h1c',At.cell?,O];have:(At w' t d).frozen? b=w'.frozen? b:=rfl;simp only[this,hf'];rfl
   intro e E;simp at E;subst E;exact⟨_,ha.blk,λ_=>⟨K,F⟩⟩
  |none=>
   obtain⟨o,o',D,I,T⟩:=j.dom _ _ ha.blk;have U:∀t d,(At w t d).heap[a.block]?=some o:=λ_ _=>D
   have Z:(∀t d,∃e,(At w t d).farStore P a v (m==.atomic)=.error e)->yn ok A P Prot R p (.store m a v k) (.store m b v' l) w w':=λhb=>.bad λt d=>by
        obtain⟨e,E⟩:=hb t d;refine⟨e,At w t d,jmy (w:=At w t d) (jjo j ha) E,?_⟩;rw[jht W,At.cell?,H];simp only[E]
   cases T with
   |odd=>exact Z λt d=>⟨_,by unfold World.farStore;rw[U]⟩
   |nor F J=>
   have V:=jnj j ha F H;cases J with
   |@view x y u M=>
    cases hl:w.viewStore P x u a v (m==.atomic)with
    |error e=>exact Z λt d=>⟨.unsupported (.unsafePointer e),by unfold World.farStore;rw[U];simp only[jg0,hl,Except.map]⟩
    |ok r=>
     obtain⟨w1,li⟩:=r;obtain⟨w1',li',O,N,o1,o1',Y,S,hup,ho1,hno1,K⟩:=jln j C M ⟨ha.off,ha.spot⟩ u (m==.atomic) hv hl;refine yn.pre (ans0:=[]) (es0:=li'.toArray.map (⟨.cell ·,true,m==.atomic⟩)) (ansC0:=[]) (w2:=w1) (w2':=w1') (λt d _=>?_) (λt d _ es=>?_) ⟨Agr.nil _ _,S.drawn⟩ (Gua.upd M.blk S (K.imp id And.left) hno1) ?_
      (ih (j.upd M.blk Y S ho1) (C.upd M.blk Y (λq=>(K.resolve_left λz=>z q).2) hup))
     .rw[jht W,At.cell?,H];unfold World.farStore;rw[U];simp only[jg0,hl,Except.map];rfl
     .rw[jkr h1c',At.cell?,V];have hA2:(At w' t d).heap[b.block]?=_:=I;unfold World.farStore;rw[hA2];simp only[jg0,O,Except.map];rfl
     intro e E;simp at E;obtain⟨z,hz,rfl⟩:=E;obtain⟨z1,z2⟩:=N z hz;exact⟨x.block,by show p.f x.block=some z.block;rw[z1];exact M.blk,λ_=>⟨z2,hno1⟩⟩
   |_=>exact Z λt d=>⟨_,by unfold World.farStore;rw[U]⟩
 |@storeBad p m a v k l W=>
  intro w w' j C;exact .bad λt d=>by
   obtain⟨w2,e⟩:=jik (P:=P) (m:=m) (a:=a) (k:=k) (w:=At w t d) W;exact⟨.stuck _,_,trivial,e⟩
 |@new p o o' k l J _ ih=>
  intro w w' j C;have hs:∀x,p.f x≠some w'.heap.size:=λx e=>absurd (jhz j e).2 (mM _)
  have L:p.f w.heap.size=none:=by
   cases e:p.f w.heap.size with
   |none=>rfl
   |some s=>exact absurd (jhz j e).1 (mM _)
  have hle:=p.add_le hs j.low L;have F:odd w.heap.size=false:=not_odd j.big;refine yn.pre (ans0:=[]) (es0:=#[]) (q:=p.add w.heap.size w'.heap.size hs j.low) (w2:={w with heap:=w.heap.push o}) (ansC0:=[]) (w2':={w' with heap:=w'.heap.push o'}) (λt d _=>rfl) (λt d _ es=>by rw[mV];rfl) ⟨Agr.nil _ _,rfl⟩ ⟨oi,λs h _=>?_,λs h _=>by simp only[Array.getElem?_push,Nat.ne_of_lt h,if_false],λr s _ e=>by(have:=(jhz j e).2;simp only[Array.getElem?_push,Nat.ne_of_lt this,if_false]),λr s e=>?_,hle,rfl,rfl,rfl⟩ oi (ih _ _ _ hle (p.add_at hs j.low) F ⟨λr s e=>?_,j.os,by simp;have:=j.low;omega,by simp;have:=j.big;omega⟩ ⟨λr K=>?_,λr f K=>?_,λr o K=>?_⟩)
  .simp only[Array.getElem?_push,Nat.ne_of_lt h,if_false];exact .refl _
  .by_cases M:r=w.heap.size
   .simp only[Ren.add,M,if_true,Option.some.injEq]at e;exact .inr (nk e)
   simp only[Ren.add,M,if_false]at e;exact .inl e
  .by_cases M:r=w.heap.size
   .simp only[Ren.add,M,if_true,Option.some.injEq]at e;subst e;subst M;exact⟨o,o',oi,oi,.nor F (J.mono hle)⟩
   simp only[Ren.add,M,if_false]at e;obtain⟨u,u',D,I,h3⟩:=j.dom r s e;obtain⟨l1,l2⟩:=jhz j e;exact⟨u,u',by simp only[Array.getElem?_push,Nat.ne_of_lt l1,if_false];exact D,by simp only[Array.getElem?_push,Nat.ne_of_lt l2,if_false];exact I,h3.mono hle⟩
  .obtain⟨c,t,f,D,I⟩:=C.wh r K;have:=(mw.1 D).1;exact⟨c,t,f,by simp only[Array.getElem?_push,Nat.ne_of_lt this,if_false];exact D,I⟩
  .obtain⟨c,t,g,D,I⟩:=C.up r f K;have:=(mw.1 D).1;exact⟨c,t,g,by simp only[Array.getElem?_push,Nat.ne_of_lt this,if_false];exact D,I⟩
  obtain⟨D,I⟩:=C.kp r o K;have:=(mw.1 D).1;exact⟨by simp only[Array.getElem?_push,Nat.ne_of_lt this,if_false];exact D,by simp only[Ren.add,Nat.ne_of_lt this,if_false];exact I⟩
 |@shape p r s k l L _ _ ih ih2=>
  intro w w' j C;obtain⟨J,e⟩|⟨J,t1,n,c,u,e0,O,N,Q⟩:=jky j L
  .refine yn.pre (ans0:=[]) (es0:=#[]) (ansC0:=[]) (λt d _=>rfl) (λt d _ es=>?_) (jfk.nil _) (Gua.refl _ _) oi (ih J (w.shape? r) j C);have:(At w' t d).shape? s=w.shape? r:=e;simp only[Sem.runT,this,Array.append_empty];rfl
  refine yn.pre (ans0:=[]) (es0:=#[]) (ansC0:=[]) (m2:=k none) (λt d _=>?_) (λt d _ es=>?_) (jfk.nil _) (Gua.refl _ _) oi (ih2 J t1 n j C)
  .have:(At w t d).shape? r=none:=N;simp only[Sem.run,this];rfl
  have:(At w' t d).shape? s=some (t1,n+1):=Q;simp only[Sem.runT,this,Array.append_empty];rfl
 |@look p r s k l k2 L _ hk2 _ ih ih2=>
  intro w w' j C;obtain⟨J,e⟩|⟨J,t1,n,c,u,e0,O,N,Q⟩:=jky j L
  .refine yn.pre (ans0:=[]) (es0:=#[]) (ansC0:=[]) (λt d _=>rfl) (λt d _ es=>?_) (jfk.nil _) (Gua.refl _ _) oi (ih J (w.shape? r) j C);have:(At w' t d).shape? s=w.shape? r:=e;simp only[Sem.runT,this,Array.append_empty];rfl
  refine yn.pre (ans0:=[]) (es0:=#[]) (ansC0:=[]) (m2:=k2 (.pending c u)) (λt d _=>?_) (λt d _ es=>?_) (jfk.nil _) (Gua.refl _ _) oi (ih2 J t1 n c u O j C)
  .have q:(At w t d).shape? r=none:=N;have q2:(At w t d).heap[r]?=some (.pending c u):=e0;simp only[Sem.run,q,hk2,q2];rfl
  have:(At w' t d).shape? s=some (t1,n+1):=Q;simp only[Sem.runT,this,Array.append_empty];rfl
 |@shapeOdd p r s k m' L J _ ih=>
  intro w w' j C;obtain⟨ho',_⟩|⟨_,t1,n,c,u,e0,O,N,Q⟩:=jky j L
  .rw[J]at ho';cases ho'
  refine yn.pre (ans0:=[]) (es0:=#[]) (ansC0:=[]) (m2:=k none) (λt d _=>?_) (λt d _ es=>by rw[mV];rfl) (jfk.nil _) (Gua.refl _ _) oi (ih j C);have:(At w t d).shape? r=none:=N;simp only[Sem.run,this];rfl
 |@shapeR p s m l _ ih=>
  intro w w' j C;exact yn.pre (ans0:=[]) (es0:=#[]) (ansC0:=[]) (λt d _=>rfl) (λt d _ es=>by rw[mV];rfl) (jfk.nil _) (Gua.refl _ _) oi (ih (w'.shape? s) j C)
 |@frozenR p b m l _ ih=>
  intro w w' j C;exact yn.pre (ans0:=[]) (es0:=#[]) (ansC0:=[]) (λt d _=>rfl) (λt d _ es=>by rw[mV];rfl) (jfk.nil _) (Gua.refl _ _) oi (ih (w'.frozen? b) j C)
 |@frozenOdd p a b m l ha F _ ih=>
  intro w w' j C;refine yn.pre (ans0:=[]) (es0:=#[]) (ansC0:=[]) (λt d _=>rfl) (λt d _ es=>?_) (jfk.nil _) (Gua.refl _ _) oi (ih j C)
  have:(At w' t d).frozen? b=false:=by have q:=joj j ha F;exact q
  simp only[Sem.runT,this,Array.append_empty];rfl
 |@freeze p a b n k l ha F _ ih=>
  intro w w' j C;obtain⟨o,o',D,I,T⟩:=j.dom _ _ ha.blk;cases T with
  |odd q=>rw[F]at q;cases q
  |nor _ J=>
  have fin:∀{o1 o1':Obj},Upd w (w.freeze a n) a.block o1->Upd w' (w'.freeze b n) b.block o1'->OR ok A p o1 o1'->(¬Prot.at_ a.block\/jgk w'.heap[b.block]? (some o1'))->(Prot.at_ a.block->∃c t f,o1=.cells c t f/\∀i,i<c.size->f.1<=i/\i<f.2)->jfp w.heap[a.block]? (some o1)->
        yn ok A P Prot R p (.freeze a n k) (.freeze b n l) w w':=λY S h3 h4 h5 h6=>
   yn.pre (ans0:=[]) (ansC0:=[]) (es0:=#[]) (w2:=w.freeze a n) (w2':=w'.freeze b n) (λt d _=>by
        have e:(At w t d).freeze a n=At (w.freeze a n) t d:=by unfold World.freeze;split<;>rfl
        show k.run P ((At w t d).freeze a n)=_;rw[e];rfl) (λt d _ es=>by
        have e:(At w' t d).freeze b n=At (w'.freeze b n) t d:=by unfold World.freeze;split<;>rfl
        simp only[Sem.runT,e,Array.append_empty];rfl) ⟨Agr.nil _ _,S.drawn⟩ (Gua.upd ha.blk S h4 F) oi (ih (j.upd ha.blk Y S (.nor F h3)) (C.upd ha.blk Y h5 h6))
  by_cases V:n=0
  .subst V;have O:w.freeze a 0=w:=rfl;have N:w'.freeze b 0=w':=rfl;refine fin (o1:=o) (o1':=o') (by rw[O];exact⟨D,λ_ _=>rfl,rfl,rfl,rfl,rfl,rfl⟩) (by rw[N];exact⟨I,λ_ _=>rfl,rfl,rfl,rfl,rfl,rfl⟩) J (.inr (by rw[I];exact .refl _)) (λK=>?_) (by rw[D];exact .refl _);obtain⟨c,t,f,X,q2⟩:=C.wh _ K;rw[D]at X;cases X;exact⟨c,t,f,rfl,q2⟩
  cases J with
  |@cells c d t f g H hf=>
   refine fin (jh3 D V) (jh3 I V) (.cells t H (by rw[ha.off];exact jra hf _ _)) (.inr (by rw[I];exact .cells _ _ (jgx.freeze _ V))) (λK=>⟨_,_,_,rfl,λi hi=>?_⟩) (λc1 t1 f1 e=>by rw[D]at e;cases e;exact⟨_,_,_,rfl,jgx.freeze _ V⟩);obtain⟨c2,t2,f2,X,q2⟩:=C.wh _ K;rw[D]at X;cases X;have:=q2 i hi;split
   .next q=>simp at q;omega
   simp only;omega
  |_=>exact fin (jju D oi n) (jju I oi n) (by first|assumption|(constructor<;>assumption)) (.inl (jgo C D oi)) (λq=>absurd q (jgo C D oi)) (by rw[D];exact .other oi _)
 |@frozen p a b k l ha _ ih=>
  intro w w' j C;exact yn.pre (ans0:=[]) (es0:=#[]) (ansC0:=[]) (λt d _=>rfl) (λt d _ es=>by rw[mV];rfl) (jfk.nil _) (Gua.refl _ _) oi (ih (w.frozen? a) (w'.frozen? b) (jmb j ha) j C)
 |@getObj p r s k l L _ hd ih=>
  intro w w' j C;obtain⟨o,o',D,I,T⟩:=j.dom _ _ L;cases T with
  |odd q=>
   exact .bad λt d=>by
        obtain⟨h,w2,b,e⟩:=(hd q _ _).run (P:=P) (At w t d);refine⟨h,w2,b,?_⟩;have:(At w t d).heap[r]?=_:=D;rw[Sem.run,this];exact e
  |nor F J=>
  have fin:(∀c t f,o≠.cells c t f)->(∀c t f,o'≠.cells c t f)->yn ok A P Prot R p (.getObj r k) (.getObj s l) w w':=λH hc'=>
   yn.pre (ans0:=[]) (ansC0:=[]) (es0:=#[⟨.obj s,false,o'.isChan⟩]) (λt d _=>by
        have:(At w t d).heap[r]?=some o:=D;rw[Sem.run,this];cases o<;>first|exact absurd rfl (H _ _ _)|rfl) (λt d _ es=>by
        have:(At w' t d).heap[s]?=some o':=I;rw[Sem.runT,this];cases o'<;>first|exact absurd rfl (hc' _ _ _)|rfl) ⟨Agr.nil _ _,rfl⟩ (Gua.refl _ _) (λe E=>by simp at E;subst E;exact⟨jpq mj,r,L,jgo C D H,F⟩) (ih F o o' J j C)
  cases J with
  |cells=>exact .bad λt d=>⟨.stuck _,_,trivial,by have:(At w t d).heap[r]?=_:=D;rw[Sem.run,this]⟩
  |_=>exact fin oi oi
 |@setObj p r s o1 o1' k l L F ho1 _ ih=>
  intro w w' j C;obtain⟨o,o',D,I,T⟩:=j.dom _ _ L;cases T with
  |odd q=>rw[F]at q;cases q
  |nor _ J=>
  have fin:(∀c t f,o≠.cells c t f)->(∀c t f,o'≠.cells c t f)->yn ok A P Prot R p (.setObj r o1 k) (.setObj s o1' l) w w':=λH hc'=>
   yn.pre (ans0:=[]) (ansC0:=[]) (es0:=#[⟨.obj s,true,o1'.isChan⟩]) (w2:={w with heap:=w.heap.setIfInBounds r o1}) (w2':={w' with heap:=w'.heap.setIfInBounds s o1'}) (λt d _=>by
        have:(At w t d).heap[r]?=some o:=D;rw[Sem.run,this];cases o<;>first|exact absurd rfl (H _ _ _)|rfl) (λt d _ es=>by
        have:(At w' t d).heap[s]?=some o':=I;rw[Sem.runT,this];cases o'<;>first|exact absurd rfl (hc' _ _ _)|rfl) ⟨Agr.nil _ _,rfl⟩ (Gua.upd L (jhq w' s o1' I) (.inl (jgo C D H)) F) (λe E=>by simp at E;subst E;exact⟨jpq mj,r,L,jgo C D H,F⟩)
        (ih (j.upd L (jhq w r o1 D) (jhq w' s o1' I) (.nor F ho1)) (C.upd L (jhq w r o1 D) (λq=>absurd q (jgo C D H)) (by rw[D];exact .other H _)))
  cases J with
  |cells=>exact .bad λt d=>⟨.stuck _,_,trivial,by have:(At w t d).heap[r]?=_:=D;rw[Sem.run,this]⟩
  |_=>exact fin oi oi
 |@choose p q k l _ ih=>
  intro w w' j C;by_cases hq:q.forced=true
  .exact yn.pre (ans0:=[]) (es0:=#[]) (ansC0:=[]) (λt d _=>by simp only[Sem.run,hq,if_true];rfl) (λt d _ es=>by simp only[Sem.runT,hq,if_true,Array.append_empty];rfl) (jfk.nil _) (Gua.refl _ _) oi (ih 0 j C)
  refine yn.pre (ans0:=[(q,w'.tape w'.drawn q)]) (es0:=#[]) (ansC0:=[(q,w'.tape w'.drawn q)]) (w2:=w) (w2':={w' with drawn:=w'.drawn+1}) (λt d ag=>?_) (λt d ag es=>by
   have:=ag.one;simp only[Sem.runT,hq,Array.append_empty];show (l (q.cut (t d q))).runT P {At w' t d with drawn:=d+1} es=_;rw[this];rfl) ⟨λi x e=>(by
   cases i with
   |zero=>cases e;rfl
   |succ i=>simp at e),rfl⟩ ⟨mC _,λ_ _ _=>.refl _,λ_ _ _=>rfl,λ_ _ _ _=>rfl,λ_ _ h=>.inl h,Ren.Le.refl _,rfl,rfl,rfl⟩ oi (ih _ ⟨j.dom,j.os,j.low,j.big⟩ C)
  simp only[Sem.run,hq];have:=ag.one;show (k (q.cut (t d q))).run P {At w t d with drawn:=d+1}=_;rw[this];rfl
 |@pick p q k l n hq _ ih=>
  intro w w' j C;refine yn.pre (ans0:=[(q,n)]) (es0:=#[]) (ansC0:=[]) (w2:=w) (w2':=w') (λt d ag=>?_) (λt d _ es=>oi) (jfk.nil _) (Gua.refl _ _) oi (ih j C);simp only[Sem.run,hq];have:=ag.one;show (k (q.cut (t d q))).run P {At w t d with drawn:=d+1}=_;rw[this];rfl
 |@sys p k l _ ih=>
  intro w w' j C;refine yn.pre (ans0:=[]) (es0:=#[⟨.output,true,false⟩]) (ansC0:=[]) (λt d _=>rfl) (λt d _ es=>?_) (jfk.nil _) (Gua.refl _ _) (λe E=>by simp at E;subst E;trivial) (ih (.strings w.os.env) j C);have:(At w' t d).os=w.os:=j.os;rw[Sem.runT,jtx,this];rfl
 |program _ ih=>
  intro w w' j C;exact yn.pre (ans0:=[]) (es0:=#[]) (ansC0:=[]) (λt d _=>rfl) (λt d _ es=>by rw[mV];rfl) (jfk.nil _) (Gua.refl _ _) oi (ih j C)
 |@mark p m k l hm _ ih=>
  intro w w' j C;exact yn.pre (ans0:=[]) (es0:=#[⟨.mark m,false,true⟩]) (ansC0:=[]) (λt d _=>rfl) (λt d _ es=>rfl) (jfk.nil _) (Gua.refl _ _) (λe E=>by simp at E;subst E;exact hm) (ih j C)
 |panic r=>
  intro w w' j C;exact⟨[],.inr ⟨[],_,w,w',#[],.panic _,.panic _,jfk.nil _,j,C,Gua.refl _ _,oi,.panic r,λt d _=>rfl,λt d _ es0=>by simp[Sem.runT,yd.res]⟩⟩
 |goexit=>
  intro w w' j C;exact⟨[],.inr ⟨[],_,w,w',#[],.goexit,.goexit,jfk.nil _,j,C,Gua.refl _ _,oi,.goexit,λt d _=>rfl,λt d _ es0=>by simp[Sem.runT,yd.res]⟩⟩
 |dead h=>
  intro w w' j C;exact .bad λt d=>h.run _
end Go.Proofs.YtbfkeoagmajcpaaGreatDoor
