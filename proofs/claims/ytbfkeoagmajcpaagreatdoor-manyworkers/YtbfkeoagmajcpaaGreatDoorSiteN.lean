import Derived.Test.YtbfkeoagmajcpaaGreatDoorSiteE
import Derived.Laws.Sem
set_option linter.defProp false
set_option linter.unusedSectionVars false
set_option linter.unusedSimpArgs false
set_option linter.unusedVariables false
namespace Go.Proofs.YtbfkeoagmajcpaaGreatDoor
variable {A:Code->Bool} {G:Nat} {P:Pq} {ok:Fi->Bool}
section
variable {p:Ren G} {B:String->Bool} {Z:Nat->Bool}
variable {C E γ H:Type} {R:Ren G->γ->H->Prop} {f:C->Sem γ} {g:E->Sem H}
def jff (F:Fit G P ok B Z) (k:Fx Z p) (e:RuntimeError):SR ok A P R p ((runtimePanic e:Sem C)>>=f) ((runtimePanic e:Sem E)>>=g):=
 SR.bind (j7 (R:=λ_ _ _=>False) F k e) λ_ _ _ _ h=>h.elim
variable {v w:Vl}
def jfq (h:VR ok p v w):SR ok A P AR p (Instr.sureAddr v) (Instr.sureAddr w):=by
 cases h<;>first|exact qs mj|exact qk
def jq4 (t:Tp) (h:VR ok p v w):SR ok A P (VR ok) p (Instr.loadAt t v) (Instr.loadAt t w):=
 SR.bind (jfq h) λq a b k e=>je6 t e
def jom (t:Tp) {a b:Vl} (e:VR ok p a b) (h:VR ok p v w):SR ok A P yk p (Instr.storeAt t a v) (Instr.storeAt t b w):=
 SR.bind (jfq e) λq a b k e=>jga t e (h.mono k) λ_ _=>rfl
def jpa (s:Tp) (h:VR ok p v w) (f:Nat):SR ok A P (VR ok) p (Instr.fieldAt s v f) (Instr.fieldAt s w f):=by
 refine SR.bind (q8 s) λq x y l e=>?_;cases e;split
 .split
  .refine SR.bind (jfq (h.mono l)) λm a b n k=>?_;exact SR.bind (jgi k _) λo a b r k=>qs (.ptr k)
  exact qk
 exact qk
variable {i j:Vl}
def jod (F:Fit G P ok B Z) (J:Fx Z p) (t:Tp) (h:VR ok p v w) (K:VR ok p i j):SR ok A P (VR ok) p (Instr.indexAt t v i) (Instr.indexAt t w j):=by
 refine SR.bind (jgy K) λq x y r e=>?_;obtain⟨rfl,_⟩:=e;refine SR.bind (q8 t) λN d y u e=>?_;cases e;have z:=(h.mono r).mono u;have m:=(J.mono r).mono u
 try dsimp only
 split
 .refine SR.bind (jfq z) λO a b L n=>?_;simp only[pure_bind];refine SR.bind (q8 t) λI d y k e=>?_;cases e
  try dsimp only
  split
  .refine SR.bind (yc _) λM s y o e=>?_;cases e;exact qs (.ptr (((AR.mono k n).mono o).add _))
  repeat' split
  all_goals first|exact j4|exact zd F ((m.mono L).mono k) _ _ _ _
 .cases z with
  |snil=>
   simp only[pure_bind];refine SR.bind (q8 t) λI d y k e=>?_;cases e;exact zd F (m.mono k) _ _ _ _
  |slice l c n=>
   simp only[pure_bind];refine SR.bind (q8 t) λI d y k e=>?_;cases e
   try dsimp only
   split
   .refine SR.bind (yc _) λM s y o e=>?_;cases e;exact qs (.ptr (((AR.mono k n).mono o).add _))
   repeat' split
   all_goals first|exact j4|exact zd F (m.mono k) _ _ _ _
 exact .dead (yw.bind (.halt (h:=.stuck _) trivial) _)
def jrt (F:Fit G P ok B Z) (t:Tp) (x y:Vl):SR ok A P (VR ok) p (Instr.alloc t true x) (Instr.alloc t true y):=by
 refine SR.bind (ys F t) λq a b l e=>?_;obtain⟨h,rfl⟩:=e;exact SR.bind (jfz t h) λm a b n k=>qs (.ptr k)
def ju6 (t:Tp) (h:VR ok p v w):SR ok A P (VR ok) p (Instr.box t v) (Instr.box t w):=
 SR.bind (jfz t h) λk a b l e=>qs (.ptr e)
def PrR (ok:Fi->Bool) (p:Ren G) (a b:Nat×Vl):Prop:=b.1=a.1/\VR ok p a.2 b.2
def jl8:∀{l m:Lv} {Y D:Av} (off n:Nat),LR (VR ok p) l m->VA ok p Y D->VA ok p ((l.zipIdx n).foldl (λY (x,j)=>Y.setIfInBounds (off+j) x) Y) ((m.zipIdx n).foldl (λY (x,j)=>Y.setIfInBounds (off+j) x) D)
 |_,_,_,_,_,_,.nil,h=>h
 |_,_,_,_,off,n,.cons h1 h2,h=>by
  simp only[List.zipIdx_cons,List.foldl_cons];exact jl8 off (n+1) h2 (h.set _ h1)
variable {Y D c d:Av}
def jp3 (h:VA ok p Y D) (e:VA ok p c d) (off:Nat):VA ok p (c.zipIdx.foldl (λY (x,j)=>Y.setIfInBounds (off+j) x) Y) (d.zipIdx.foldl (λY (x,j)=>Y.setIfInBounds (off+j) x) D):=by
 rw[<-Array.foldl_toList,<-Array.foldl_toList,Array.toList_zipIdx,Array.toList_zipIdx];exact jl8 off 0 e.list h
def jiq (k:Nat->Option (Nat×Nat)):∀{l m:List (Nat×Vl)} {Y D:Av},LR (PrR ok p) l m->VA ok p Y D->vg (VA ok p) (Instr.fill k Y l) (Instr.fill k D m)
 |_,_,_,_,.nil,h=>h
 |_,_,Y,D,.cons (a:=(i,v)) (b:=(j,w)) ⟨e,hv⟩ h2,h=>by
  cases e;unfold Instr.fill;split
  .trivial
  have n:=hv.cells;rw[<-n.size,<-h.size];split
  .trivial
  exact jiq k h2 (jp3 h n _)
def jol:VR ok p default default:=.bool _
def jv0 {z:Av} (e:VA ok p z z) (i:Nat):VR ok p z[i]! z[i]!:=by
 rw[getElem!_def];cases h:z[i]?with
 |none=>exact jol
 |some v=>exact e.at_ i v v h h
def jiu {f:Nat->Vl} (h:∀i,VR ok p (f i) (f i)) (n:Nat):VA ok p ((Array.range n).map f) ((Array.range n).map f):=
 ⟨rfl,λi x y e l=>by
   rw[e]at l;cases l;rw[Array.getElem?_map]at e;obtain⟨k,_,rfl⟩:=mL.1 e;exact h k⟩
def jpv {C E γ H:Type} {R:Ren G->γ->H->Prop} {f:C->Sem γ} {g:E->Sem H} {S:Ren G->C->E->Prop} (k:∀(q r:Ren G) a b,q.Le r->S q a b->S r a b) (n:∀(q r:Ren G) a b,q.Le r->R q a b->R r a b) (h:∀q a b,p.Le q->S q a b->SR ok A P R q (f a) (g b)):
 ∀{l:List C} {m:List E} {q:Ren G},p.Le q->LR (S q) l m->SR ok A P (λq=>LR (R q)) q (l.mapM f) (m.mapM g)
 |_,_,_,_,.nil=>by rw[List.mapM_nil,List.mapM_nil];exact qs .nil
 |_,_,q,hq,.cons h1 h2=>by
  rw[List.mapM_cons,List.mapM_cons];refine SR.bind (h q _ _ hq h1) λu a b o e=>?_;refine SR.bind (jpv k n h (hq.trans o) (h2.mono λ_ _=>k _ _ _ _ o)) λx l m s t=>qs (.cons (n _ _ _ _ s e) t)
variable {S:Ren G->C->E->Prop} {a:Array C}
def jpb (k:∀(q r:Ren G) a b,q.Le r->S q a b->S r a b) (n:∀(q r:Ren G) a b,q.Le r->R q a b->R r a b) (h:∀q a b,p.Le q->S q a b->SR ok A P R q (f a) (g b))
 {b:Array E} (o:Arr (S p) a b):SR ok A P (λq=>Arr (R q)) p (a.mapM f) (b.mapM g):=by
 rw[Array.mapM_eq_mapM_toList,Array.mapM_eq_mapM_toList,map_eq_pure_bind,map_eq_pure_bind];exact SR.bind (jpv k n h (Ren.Le.refl _) o.list) λq l m s e=>qs e.arr
def jsf {b:Array C} (h:Arr (λx y=>x=y) a b):a=b:=by
 refine Array.ext_getElem? λi=>?_;obtain⟨e,k⟩|⟨x,y,e,k,rfl⟩:=h.get i
 .rw[e,k]
 rw[e,k]
def jns (k:Array Field):SR ok A P yk p (k.mapM λf=>do pure (f.offset,<-sizeOf f.type)) (k.mapM λf=>do pure (f.offset,<-sizeOf f.type)):=
 (jpb (S:=λ_ x y=>x=y) (R:=λ_ x y=>x=y) (λ_ _ _ _ _ h=>h) (λ_ _ _ _ _ h=>h) (λq a b l e=>by cases e;exact SR.bind (yc _) λq x y l e=>by cases e;exact qs rfl) (Arr.refl (λ_=>rfl) k)).mono λq a b _ h=>jsf h
variable {b:Array (Nat×Vl)}
def jsi (F:Fit G P ok B Z) (t:Tp) {a:Array (Nat×Vl)} (h:Arr (PrR ok p) a b):SR ok A P (VR ok) p (Instr.build t a) (Instr.build t b):=by
 refine SR.bind (ys F t) λq z y I e=>?_;obtain⟨J,rfl⟩:=e;refine SR.bind (q8 t) λm d y o e=>?_;cases e;have s:=(h.mono λ(x y:Nat×Vl) (r:PrR ok p x y)=>(⟨r.1,(r.2.mono I).mono o⟩:PrR ok m x y)).list;have u:=VA.mono o J.cells
 try dsimp only
 split
 .refine SR.bind (jns _) λn x y l e=>?_;cases e;have k:=jiq (x[·]?) (s.mono λ(x y:Nat×Vl) (r:PrR ok m x y)=>(⟨r.1,r.2.mono l⟩:PrR ok n x y)) (VA.mono l u);split
  .next c hc=>
   rw[hc]at k;split
   .next d hd=>rw[hd]at k;exact qs (VR.aggA k)
   next hd=>exfalso;revert k;cases hx:Instr.fill (x[·]?) z.cells b.toList with
   |none=>exact id
   |some d=>exact absurd hx (hd d)
  exact qk
 .refine SR.bind (yc _) λn x y l e=>?_;cases e;have k:=jiq (λi=>some (i*x,x)) (s.mono λ(x y:Nat×Vl) (r:PrR ok m x y)=>(⟨r.1,r.2.mono l⟩:PrR ok n x y)) (VA.mono l u);split
  .next c hc=>
   rw[hc]at k;split
   .next d hd=>rw[hd]at k;exact qs (VR.aggA k)
   next hd=>exfalso;revert k;cases hx:Instr.fill (λi=>some (i*x,x)) z.cells b.toList with
   |none=>exact id
   |some d=>exact absurd hx (hd d)
  exact qk
 exact qk
def jn2 {f:Fi} (e:ok f=true) {a b:Av} (h:VA ok p a b) (k:VA ok p c d):SR ok A P (VR ok) p (Instr.makeFunc (.func f) a c) (Instr.makeFunc (.func f) b d):=qs (VR.funcA (.func e) h k)
def jiz (t:Tp) (h:VR ok p v w):SR ok A P (VR ok) p (Instr.makeInterface t v) (Instr.makeInterface t w):=by
 refine SR.bind (q8 t) λq x y k e=>?_;cases e;split
 .exact qk
 exact qs (.iface t (h.mono k))
def jks (t:Tp) {r s:Option Vl} (h:vg (VR ok p) r s):SR ok A P (VR ok) p (Instr.makeMap t r) (Instr.makeMap t s):=by
 unfold Instr.makeMap;have k:∀{q:Ren G},SR ok A P (VR ok) q (do pure (.map (some (<-newObj (.map #[] 0)))):Sem Vl) (do pure (.map (some (<-newObj (.map #[] 0))))):=λ{q}=>
  SR.bind (je9 (R:=λq r s=>q.f r=some s) (.map 0 Arr.nil) λq r s _ e=>e) λq r s l e=>qs (.map e)
 try dsimp only
 cases r with
 |none=>
  cases s with
  |some=>cases h
  |none=>exact k
 |some v=>
  cases s with
  |none=>cases h
  |some w=>
   refine SR.bind (q8 t) λq x y l e=>?_;cases e;split
   .exact SR.bind (jf2 (VR.mono l h)) λm x y n e=>k
   exact .dead (yw.bind (.halt (h:=.stuck _) trivial) _)
def jmz (F:Fit G P ok B Z) (I:Fx Z p) (t:Tp) {l m c d:Vl} (J:VR ok p l m) (K:VR ok p c d):SR ok A P (VR ok) p (Instr.makeSlice t l c) (Instr.makeSlice t m d):=by
 refine SR.bind (q8 t) λq x y h e=>?_;cases e;split
 .refine SR.bind (jf2 (J.mono h)) λO x y r e=>?_;cases e;refine SR.bind (jf2 ((K.mono h).mono r)) λQ x y L e=>?_;cases e;refine SR.bind (j6 _) λT x y M e=>?_;obtain⟨rfl,_⟩:=e;have k:=((I.mono h).mono r|>.mono L).mono M
  try dsimp only
  split
  .split
   .exact jff F k _
   split
   .exact jff F k _
   exact y8 λn=>jff F k _
  refine SR.bind jf6 λU _ _ V _=>?_;refine SR.bind (yc _) λW x y X e=>?_;cases e
  try dsimp only
  split
  .simp only[pure_bind];exact SR.bind (jfa _ (jiu (λi=>jv0 Arr.nil _) _)) λs a b u o=>qs (.slice _ _ o)
  simp only[bind_assoc,pure_bind];refine SR.bind (ys F _) λs z y u e=>?_;obtain⟨N,rfl⟩:=e;exact SR.bind (jfa _ (jiu (λi=>jv0 N.cells _) _)) λs a b u o=>qs (.slice _ _ o)
 exact qk
def jlj (F:Fit G P ok B Z) (t:Tp) (n:Nat) {a:Array (Nat×Vl)} (h:Arr (PrR ok p) a b):SR ok A P (VR ok) p (Instr.buildSlice t n a) (Instr.buildSlice t n b):=by
 refine SR.bind (q8 t) λq x y u e=>?_;cases e;split
 rotate_left
 .exact qk
 refine SR.bind (yc _) λI s y J e=>?_;cases e
 try dsimp only
 split
 .exact .dead (yw.bind (.halt (h:=.unsupported _) mq) _)
 have o:∀{k:Ren G} {z:Av} {g:Nat->Vl},I.Le k->(∀i,VR ok k (g i) (g i))->∀(e:Tp),SR ok A P (VR ok) k
  (match Instr.fill (λi=>some (i*s,s)) ((Array.range (n*s)).map g) a.toList with|some cells=>do pure (.slice (some (<-newRow e cells)) n n)|_=>stuck "buildSlice: a part of the wrong size")
  (match Instr.fill (λi=>some (i*s,s)) ((Array.range (n*s)).map g) b.toList with|some cells=>do pure (.slice (some (<-newRow e cells)) n n)|_=>stuck "buildSlice: a part of the wrong size"):=by
  intro k z g m K e;have L:=(h.mono λ(x y:Nat×Vl) (r:PrR ok p x y)=>(⟨r.1,((r.2.mono u).mono J).mono m⟩:PrR ok k x y)).list;have l:=jiq (λi=>some (i*s,s)) L (jiu K (n*s));cases h1:Instr.fill (λi=>some (i*s,s)) ((Array.range (n*s)).map g) a.toList with
  |none=>exact qk
  |some c=>
   rw[h1]at l;cases h2:Instr.fill (λi=>some (i*s,s)) ((Array.range (n*s)).map g) b.toList with
   |none=>rw[h2]at l;cases l
   |some d=>
    rw[h2]at l;exact SR.bind (jfa _ l) λO a b Q M=>qs (.slice _ _ M)
 split
 .simp only[pure_bind];exact o (z:=#[]) (Ren.Le.refl _) (λi=>jv0 Arr.nil _) _
 simp only[bind_assoc,pure_bind];refine SR.bind (ys F _) λk z y m e=>?_;obtain⟨N,rfl⟩:=e;exact o (z:=#[]) m (λi=>jv0 N.cells _) _
def joz (h:VR ok p v w) (i:Nat):SR ok A P (VR ok) p (Instr.extract v i) (Instr.extract w i):=by
 cases h with
 |@tuple a b s e=>
  have r:VA ok p a b:=⟨s,e⟩;unfold Instr.extract;obtain⟨k,l⟩|⟨x,y,k,l,m⟩:=r.get i
  .simp only[k];exact qk
  simp only[k,l];exact qs m
 |_=>exact qk
def jsy (F:Fit G P ok B Z) (o:Fx Z p) (t:Tp) (h:VR ok p v w) (u:VR ok p i j):SR ok A P (VR ok) p (Instr.index t v i) (Instr.index t w j):=by
 refine SR.bind (jgy u) λq x y k e=>?_;obtain⟨rfl,_⟩:=e;refine SR.bind (q8 t) λz d y l e=>?_;cases e;have m:=(o.mono k).mono l;have n:=(h.mono k).mono l
 try dsimp only
 split
 .cases n with
  |agg s e=>
   have r:VA ok z _ _:=⟨s,e⟩;try dsimp only
   split
   .refine SR.bind (yc _) λJ x y I e=>?_;cases e;exact jfe _ (VA.mono I r) _
   exact zd F m _ _ _ _
 .cases n with
  |string s=>
   try dsimp only
   split
   .exact qs (.int _ _)
   exact zd F m _ _ _ _
 exact qk
def z7 (F:Fit G P ok B Z) (k:Fx Z p) (h:VR ok p v w) (y:Nat) (c:BoundsCode):SR ok A P yk p (Instr.sliceBound v y c) (Instr.sliceBound w y c):=by
 refine SR.bind (jgy h) λq x y l e=>?_;obtain⟨rfl,_⟩:=e
 try dsimp only
 split
 .exact qs rfl
 exact zd F (k.mono l) _ _ _ _
end
variable {p:Ren G} {D:String->Bool} {V:Nat->Bool}
variable {l B h C m m':Option Vl}
def jhg (F:Fit G P ok D V) (c:Fx V p) (b:Bool) (i j:Nat) (d:vg (VR ok p) l B) (g:vg (VR ok p) h C) (k:vg (VR ok p) m m'):
 SR ok A P yk p (Instr.sliceBounds b i j l h m) (Instr.sliceBounds b i j B C m'):=by
 unfold Instr.sliceBounds;cases l<;>cases B<;>first|(cases d;done)|skip
 all_goals cases m<;>cases m'<;>first|(cases k;done)|skip
 all_goals cases h<;>cases C<;>first|(cases g;done)|skip
 all_goals simp only[pure_bind]
 all_goals first
  |exact qs rfl
  |exact SR.bind (z7 F c d _ _) λf x y _ e=>by cases e;exact qs rfl
  |(refine SR.bind (z7 F c g _ _) λf x y a e=>?_
    cases e;first|exact qs rfl|exact SR.bind (z7 F (c.mono a) (VR.mono a d) _ _) λf x y _ e=>by cases e;exact qs rfl)
  |(refine SR.bind (z7 F c k _ _) λf o y a e=>?_
    cases e;first
    |exact .dead (yw.bind (.halt (h:=.stuck _) trivial) _)
    |(refine SR.bind (z7 F (c.mono a) (VR.mono a g) _ _) λq x y n e=>?_
      cases e;first|exact qs rfl|exact SR.bind (z7 F (c.mono (a.trans n)) (VR.mono (a.trans n) d) _ _) λf x y _ e=>by cases e;exact qs rfl))
def vg.mono {α β:Type} {R S:α->β->Prop} (h:∀a b,R a b->S a b) {a:Option α} {b:Option β} (r:vg R a b):vg S a b:=by
 cases a<;>cases b<;>first|trivial|cases r;done|exact h _ _ r
def jo7 (F:Fit G P ok D V) (I:Fx V p) (t:Tp) {v w:Vl} (L:VR ok p v w) (M:vg (VR ok p) l B) (N:vg (VR ok p) h C) (O:vg (VR ok p) m m'):
 SR ok A P (VR ok) p (Instr.sliceAt t v l h m) (Instr.sliceAt t w B C m'):=by
 refine SR.bind (q8 t) λq d y c e=>?_;cases e;have z:∀{i j:Ren G},i.Le j->∀{x y:Option Vl},vg (VR ok i) x y->vg (VR ok j) x y:=λc _ _ r=>r.mono λ_ _=>VR.mono c;have H:∀{i:Ren G},p.Le i->∀b o u,SR ok A P yk i (Instr.sliceBounds b o u l h m) (Instr.sliceBounds b o u B C m'):=λc b o u=>jhg F (I.mono c) b o u (z c M) (z c N) (z c O);split
 .refine SR.bind (jfq (L.mono c)) λi a b f E=>?_;refine SR.bind (H (c.trans f) _ _ _) λj x y k e=>?_;cases e;refine SR.bind (yc _) λJ s y n e=>?_;cases e;have g:=(E.mono k).mono n;refine qs (.slice _ _ ?_);split
  .exact g
  exact g.add _
 unfold Instr.slice;refine SR.bind (q8 t) λi d y f e=>?_;cases e;have K:=(L.mono c).mono f;split
 .cases K with
  |string s=>
   have Q:m.isSome=m'.isSome:=by cases m<;>cases m'<;>first|rfl|cases O
   rw[Q];split
   .exact .dead (yw.bind (.halt (h:=.stuck _) trivial) _)
   refine SR.bind (jhg F (I.mono (c.trans f)) _ _ _ (z (c.trans f) M) (z (c.trans f) N) (m:=none) (m':=none) trivial) λj x y k e=>?_;cases e;exact qs (.string _)
 .cases K with
  |snil o u=>
   refine SR.bind (H (c.trans f) _ _ _) λj x y k e=>?_;cases e;refine SR.bind (yc _) λJ s y n e=>?_;cases e;refine qs ?_
   split<;>exact .snil _ _
  |slice o u E=>
   refine SR.bind (H (c.trans f) _ _ _) λj x y k e=>?_;cases e;refine SR.bind (yc _) λJ s y n e=>?_;cases e;have g:=(AR.mono k E).mono n;refine qs ?_;split
   .exact .slice _ _ g
   exact .slice _ _ (g.add _)
 .refine SR.bind (jgt F (I.mono (c.trans f)) K) λj a b k E=>?_;refine SR.bind (q8 _) λJ d y n e=>?_;cases e;split
  .refine SR.bind (H (((c.trans f).trans k).trans n) _ _ _) λT x y R e=>?_;cases e;refine SR.bind (yc _) λU s y S e=>?_;cases e;have g:=((E.mono n).mono R).mono S;refine qs (.slice _ _ ?_);split
   .exact g
   exact g.add _
  exact qk
 exact qk
end Go.Proofs.YtbfkeoagmajcpaaGreatDoor
