import Derived.Test.YtbfkeoagmajcpaaGreatDoorSiteA
import Derived.Test.YtbfkeoagmajcpaaGreatDoorSiteN
set_option maxHeartbeats 4000000
set_option linter.defProp false
set_option linter.unusedSectionVars false
set_option linter.unusedSimpArgs false
set_option linter.unusedVariables false
namespace Go.Proofs.YtbfkeoagmajcpaaGreatDoor
variable {A:Code->Bool} {B D:Type} {C:String->Bool} {E gl:Nat->Bool} {P:Pq} {Q v w x x' y:Vl} {a b:Av} {ok:Fi->Bool}
section
variable {G:Nat} {p:Ren G} {H:String->Bool}
inductive StR {B C:Type} (S:B->C->Prop):ForInStep B->ForInStep C->Prop
 |done {a:B} {b:C}:S a b->StR S (.done a) (.done b)
 |yield {a:B} {b:C}:S a b->StR S (.yield a) (.yield b)
def jim {D β B C:Type} {T:Ren G->D->β->Prop} {S:Ren G->B->C->Prop} (c:∀(q r:Ren G) a b,q.Le r->T q a b->T r a b) {f:D->B->Sem (ForInStep B)} {g:β->C->Sem (ForInStep C)}:
 ∀{l:List D} {m:List β} {q:Ren G} {s:B} {t:C},p.Le q->(∀q a b s t,p.Le q->T q a b->S q s t->SR ok A P (λr=>StR (S r)) q (f a s) (g b t))->LR (T q) l m->S q s t->SR ok A P S q (forIn l s f) (forIn m t g)
 |_,_,_,_,_,hq,h,.nil,hs=>by rw[List.forIn_nil,List.forIn_nil];exact qs hs
 |_,_,q,_,_,hq,h,.cons h1 h2,hs=>by
  rw[List.forIn_cons,List.forIn_cons];refine SR.bind (h q _ _ _ _ hq h1 hs) λi a b d e=>?_;cases e with
  |done e=>exact qs e
  |yield e=>exact jim c (hq.trans d) h (h2.mono λ_ _=>c _ _ _ _ d) e
variable {C:Type} {S:Ren G->B->C->Prop} {f:D->B->Sem (ForInStep B)} {s:B} {t:C}
def jmk {g:D->C->Sem (ForInStep C)} (l:Array D)
 (h:∀q a s t,p.Le q->S q s t->SR ok A P (λr=>StR (S r)) q (f a s) (g a t)) (c:S p s t):SR ok A P S p (forIn l s f) (forIn l t g):=by
 rw[<-Array.forIn_toList,<-Array.forIn_toList];exact jim (T:=λ_ x y=>x=y) (λ_ _ _ _ _ h=>h) (Ren.Le.refl _) (λq a b s t d e c=>by cases e;exact h q a s t d c) (Arr.list (Arr.refl (λ_=>rfl) l)) c
def jpm {D:Type} {R:D->D->Prop} (h:∀x,R x x):∀l:List D,LR R l l
 |[]=>.nil
 |x::l=>.cons (h x) (jpm h l)
def jmp {f:Nat->B->Sem (ForInStep B)} {g:Nat->C->Sem (ForInStep C)} (r:Std.Legacy.Range)
 (h:∀q a s t,p.Le q->S q s t->SR ok A P (λr=>StR (S r)) q (f a s) (g a t)) (c:S p s t):SR ok A P S p (forIn r s f) (forIn r t g):=by
 rw[Std.Legacy.Range.forIn_eq_forIn_range',Std.Legacy.Range.forIn_eq_forIn_range'];exact jim (T:=λ_ x y=>x=y) (λ_ _ _ _ _ h=>h) (Ren.Le.refl _) (λq a b s t d e c=>by cases e;exact h q a s t d c) (jpm (λ_=>rfl) _) c
def jg1 (F:Fit G P ok H gl):∀(d:Nat) {p:Ren G} (hp:Fx gl p) (t:Tp) {x x' y E:Vl},VR ok p x x'->VR ok p y E->SR ok A P yk p (Op.equalIn d t x y) (Op.equalIn d t x' E)
 |0,p,hp,t,x,x',y,E,w,z=>j4
 |d+1,p,hp,t,x,x',y,E,w,z=>by
  unfold Op.equalIn;refine SR.bind (q8 t) λq u y M e=>?_;cases e;have j:=w.mono M;have g:=z.mono M;have K:=hp.mono M;cases u with
  |int k=>
   cases j with
   |int kx nx=>
    cases g with
    |int=>dsimp only;split<;>first|exact qs rfl|exact qk
    |ptr hb=>
     obtain n|n:=nx
     .cases n<;>first|exact qs rfl|exact j4
     exact j4
    |pnil=>exact j4
    |_=>exact qk
   |pnil=>cases g<;>first|exact qk|exact j4
   |ptr ha=>
    cases g with
    |int ky ny=>
     obtain n|n:=ny
     .cases n<;>first|exact qs rfl|exact j4
     exact j4
    |ptr hb=>
     dsimp only;refine SR.bind (y0 ha) λI W X i o=>?_;refine SR.bind (y0 (hb.mono i)) λL x2 y2 l r=>?_;refine j5 ?_;have v:=o.1.mono l;have J:=r.1;rw[<-v.blk_iff J,<-v.eq_iff J];have Y:=L.low _ _ v.blk;rw[F.size,show decide (X.1.block<G)=decide (W.1.block<G)from decide_eq_decide.2 Y.symm];split
     .refine SR.bind (jfo v) λN x y m e=>?_;cases e;refine SR.bind (jfo (J.mono m)) λU x y V e=>?_;cases e;exact qs rfl
     refine SR.bind (j6 t) λN x y m e=>?_;obtain⟨rfl,_⟩:=e;split
     .split
      .exact qs rfl
      exact j4
     exact j4
    |_=>exact j4
   |_=>cases g<;>first|exact qk|exact j4
  |float k=>cases j<;>first|exact qk|(cases g<;>first|exact qk|(dsimp only;split<;>first|exact qs rfl|exact qk))
  |complex k=>cases j<;>first|exact qk|(cases g<;>first|exact qk|(dsimp only;split<;>first|exact qs rfl|exact qk))
  |pointer el=>
   cases j with
   |pnil=>cases g<;>first|exact qk|exact qs rfl
   |ptr ha=>
    cases g with
    |pnil=>exact qs rfl
    |ptr hb=>
     dsimp only;refine SR.bind (yc _) λI s y i e=>?_;cases e;have v:=ha.mono i;have J:=hb.mono i;rw[<-v.eq_iff J];split
     .exact jjw v J
     split
     .exact qs rfl
     exact y8 λn=>qs rfl
    |_=>exact qk
   |_=>exact qk
  |unsafePointer=>
   cases j with
   |pnil=>
    cases g with
    |pnil=>exact qs rfl
    |ptr hb=>exact qs rfl
    |_=>exact qk
   |ptr ha=>
    cases g with
    |pnil=>exact qs rfl
    |ptr hb=>exact jjw ha hb
    |_=>exact qk
   |_=>exact qk
  |chan d e=>
   cases j with
   |cnil=>cases g<;>first|exact qk|exact qs rfl
   |chan o=>
    cases g with
    |cnil=>exact qs rfl
    |chan r=>
     have Z:=AR.blk_iff (p:=q) (a:=AD _ 0) (b:=AD _ 0) (c:=AD _ 0) (d:=AD _ 0) ⟨o,rfl,rfl⟩ ⟨r,rfl,rfl⟩;exact qs Z
    |_=>exact qk
   |_=>exact qk
  |interface ms=>
   cases j with
   |nilIface=>cases g<;>first|exact qk|exact qs rfl
   |iface tx vx=>
    cases g with
    |nilIface=>exact qs rfl
    |iface ty vy=>
     dsimp only;split
     .exact qs rfl
     refine SR.bind (j6 _) λI x y i e=>?_;obtain⟨rfl,_⟩:=e;split
     .refine j5 (j5 ?_);try dsimp only
      split
      .exact .dead (yw.bind (.halt (h:=.unsupported _) mq) _)
      refine SR.bind (jh2 _) λL x y l e=>?_;cases e;exact j7 F ((K.mono i).mono l) _
     exact jg1 F d (K.mono i) _ (vx.mono i) (vy.mono i)
    |_=>exact qk
   |_=>exact qk
  |struct fs=>
   cases j with
   |agg s1 o=>
    cases g with
    |agg s2 r=>
     have O:VA ok q _ _:=⟨s1,o⟩;have Q:VA ok q _ _:=⟨s2,r⟩;dsimp only;refine j5 ?_;split
     .exact .dead (yw.bind (.halt (h:=.unsupported _) mq) _)
     refine SR.bind (R:=yk) (jmk fs (λI f s t i e=>?_) rfl) λI x y i e=>?_
     .cases e;split
      .refine SR.bind (jfe _ (VA.mono i O) _) λL x y l w=>?_;refine SR.bind (jfe _ (VA.mono (i.trans l) Q) _) λN x3 y3 m z=>?_;refine SR.bind (jg1 F d (((K.mono i).mono l).mono m) _ (w.mono m) z) λU x y V e=>?_;cases e;split
       .exact qs (.done rfl)
       exact qs (.yield rfl)
      exact qs (.yield rfl)
     cases e;split<;>exact qs rfl
    |_=>exact qk
   |_=>exact qk
  |array n el=>
   cases j with
   |agg s1 o=>
    cases g with
    |agg s2 r=>
     have O:VA ok q _ _:=⟨s1,o⟩;have Q:VA ok q _ _:=⟨s2,r⟩;dsimp only;refine SR.bind (yc _) λq0 n y T e=>?_;cases e;refine SR.bind (R:=yk) (jmp _ (λI f s t i e=>?_) rfl) λI x y i e=>?_
     .cases e;refine SR.bind (jfe _ (VA.mono (T.trans i) O) _) λL x y l w=>?_;refine SR.bind (jfe _ (VA.mono ((T.trans i).trans l) Q) _) λN x3 y3 m z=>?_;refine SR.bind (jg1 F d (((K.mono (T.trans i)).mono l).mono m) _ (w.mono m) z) λU x y V e=>?_;cases e;split
      .exact qs (.done rfl)
      exact qs (.yield rfl)
     cases e;split<;>exact qs rfl
    |_=>exact qk
   |_=>exact qk
  |slice el=>cases j<;>first|exact qk|(cases g<;>first|exact qs rfl|exact qk)
  |map k el=>cases j<;>first|exact qk|(cases g<;>first|exact qs rfl|exact qk)
  |func a b c=>cases j<;>first|exact qk|(cases g<;>first|exact qs rfl|exact qk)
  |bool=>cases j<;>first|exact qk|(cases g<;>first|exact qs rfl|exact qk)
  |string=>cases j<;>first|exact qk|(cases g<;>first|exact qs rfl|exact qk)
  |_=>exact qk
variable {E:Vl}
def jkv (F:Fit G P ok H gl) (a:Fx gl p) (t:Tp) (h:VR ok p x x') (b:VR ok p y E):SR ok A P yk p (Op.equal t x y) (Op.equal t x' E):=jg1 F _ a t h b
end
section
variable {G:Nat} {B:Code->Bool} {p:Ren G}
def zi (F:Fit G P ok C gl) (e:Bool):∀(d:Nat) {p:Ren G} (H:Fx gl p) (t:Tp) {x x':Vl},VR ok p x x'->SR ok B P yk p (Instr.checkKey e d t x) (Instr.checkKey e d t x')
 |0,p,H,t,x,x',g=>j4
 |d+1,p,H,t,x,x',g=>by
  unfold Instr.checkKey;refine SR.bind (q8 t) λq u y r e=>?_;cases e;have l:=g.mono r;have h:=H.mono r;cases u with
  |interface ms=>
   cases l with
   |nilIface=>exact qs rfl
   |iface tx vx=>
    dsimp only;refine SR.bind (j6 _) λi x y c e=>?_;obtain⟨rfl,_⟩:=e
    try dsimp only
    split
    .split
     .exact jff F (h.mono c) _
     refine SR.bind (jh2 _) λv x y j e=>?_;cases e;exact jff F ((h.mono c).mono j) _
    exact zi F _ d (h.mono c) _ (vx.mono c)
   |_=>exact qk
  |array n el=>
   cases l with
   |agg s1 e1=>
    have m:VA ok q _ _:=⟨s1,e1⟩;dsimp only;refine SR.bind (R:=yk) (jmp _ (λi f s t c e=>?_) rfl) λi x y c e=>?_
    .cases e;refine SR.bind (yc _) λv x y j e=>?_;cases e;refine SR.bind (jfe _ (VA.mono (c.trans j) m) _) λw x y o g=>?_;exact SR.bind (zi F _ d (h.mono ((c.trans j).trans o)) _ g) λz _ _ _ _=>qs (.yield rfl)
    exact qs rfl
   |_=>exact qk
  |struct fs=>
   cases l with
   |agg s1 e1=>
    have m:VA ok q _ _:=⟨s1,e1⟩;dsimp only;refine SR.bind (R:=yk) (jmk fs (λi f s t c e=>?_) rfl) λi x y c e=>?_
    .cases e;split
     .refine SR.bind (jfe _ (VA.mono c m) _) λw x y o g=>?_;exact SR.bind (zi F _ d (h.mono (c.trans o)) _ g) λz _ _ _ _=>qs (.yield rfl)
     exact qs (.yield rfl)
    exact qs rfl
   |_=>exact qk
  |_=>exact qs rfl
def FdR (ok:Fi->Bool) (p:Ren G) (a b:Nat×Vl):Prop:=b.1=a.1/\VR ok p a.2 b.2
def jh0 (F:Fit G P ok C gl) (t:Tp) {k A:Vl}:∀{l m:List MapEntry} {p:Ren G} (d:Fx gl p),VR ok p k A->LR (MER ok p) l m->∀i,SR ok B P (λq=>vg (FdR ok q)) p (Instr.findAsking t k l i) (Instr.findAsking t A m i)
 |_,_,p,d,hk,.nil,i=>qs trivial
 |_,_,p,d,hk,.cons h1 h2,i=>by
  refine SR.bind (jkv F d t hk h1.key) λq x y c e=>?_;cases e;split
  .exact qs ⟨rfl,h1.val.mono c⟩
  exact jh0 F t (d.mono c) (hk.mono c) (h2.mono λ_ _=>MER.mono c) (i+1)
variable {k A:Vl}
def jnz (d:TypeDesc) (c:VR ok p k A) (e:VR ok p x x'):Instr.sameNow d A x'=Instr.sameNow d k x:=by
 cases d<;>cases c<;>first|rfl|(cases e<;>rfl)
def jjq (d:TypeDesc) {k A:Vl} (c:VR ok p k A):∀{l m:List MapEntry} (i:Nat),LR (MER ok p) l m->vg (vg (FdR ok p)) (Instr.findNow d k l i) (Instr.findNow d A m i)
 |_,_,i,.nil=>trivial
 |_,_,i,.cons h1 h2=>by
  unfold Instr.findNow;rw[jnz d c h1.key];split
  .exact⟨rfl,h1.val⟩
  .exact jjq d c (i+1) h2
  trivial
def jg4 (F:Fit G P ok C gl) (i:Fx gl p) (t:Tp) (g:VR ok p k A) {l m:List MapEntry} (h:LR (MER ok p) l m):SR ok B P (λq=>vg (FdR ok q)) p (Instr.findKey t k l) (Instr.findKey t A m):=by
 refine SR.bind (q8 t) λq d y f e=>?_;cases e;have c:=jjq d (g.mono f) 0 (h.mono λ_ _=>MER.mono f);cases h1:Instr.findNow d k l 0 with
 |none=>
  rw[h1]at c;cases h2:Instr.findNow d A m 0 with
  |none=>exact jh0 F t (i.mono f) (g.mono f) (h.mono λ_ _=>MER.mono f) 0
  |some=>rw[h2]at c;cases c
 |some x=>
  rw[h1]at c;cases h2:Instr.findNow d A m 0 with
  |none=>rw[h2]at c;cases c
  |some y=>rw[h2]at c;exact qs c
variable {E:Type} {R:D->E->Prop} {a:Array D} {b:Array E}
def jgb (h:Arr R a b):b.isEmpty=a.isEmpty:=by
 rw[Array.isEmpty,Array.isEmpty,h.size]
def jp1 (F:Fit G P ok C gl) (r:Fx gl p) (t:Tp) (J:VR ok p x x') (s:VR ok p k A) (c:Bool):SR ok B P (VR ok) p (Instr.lookup t x k c) (Instr.lookup t x' A c):=by
 refine SR.bind (q8 t) λq d y g e=>?_;cases e
 have u:∀{i:Ren G},q.Le i->∀{v w:Vl} {b:Bool},VR ok i v w->VR ok i (if c=true then .tuple #[v,.bool b]else v) (if c=true then .tuple #[w,.bool b]else w):=λf v w b h=>by
  split
  .exact VR.tupA (jhc h (.bool _))
  exact h
 split;rotate_left
 .exact qk
 cases J.mono g with
 |mnil=>
  simp only[pure_bind];refine SR.bind (zi F _ _ (r.mono g) _ (s.mono g)) λi _ _ f _=>?_;refine SR.bind (jg4 F (r.mono (g.trans f)) _ (s.mono (g.trans f)) (l:=[]) (m:=[]) .nil) λK x y j e=>?_
  cases x<;>cases y<;>first|(cases e;done)|skip
  .refine SR.bind (ys F _) λL z y H e=>?_;obtain⟨I,rfl⟩:=e;exact qs (u ((f.trans j).trans H) I)
  exact qs (u (f.trans j) e.2)
 |map e=>
  refine y4 e λo O N M=>?_;cases M with
  |@map l m n hl=>
   dsimp only;simp only[pure_bind,bind_assoc];rw[jgb hl];refine SR.bind (zi F _ _ (r.mono g) _ (s.mono g)) λi _ _ f _=>?_;refine SR.bind (jg4 F (r.mono (g.trans f)) _ (s.mono (g.trans f)) (hl.list.mono λ_ _=>MER.mono f)) λK x y j e=>?_
   cases x<;>cases y<;>first|(cases e;done)|skip
   .refine SR.bind (ys F _) λL z y H e=>?_;obtain⟨I,rfl⟩:=e;exact qs (u ((f.trans j).trans H) I)
   exact qs (u (f.trans j) e.2)
  |_=>exact .dead (yw.bind (.halt (h:=.stuck _) trivial) _)
 |_=>exact .dead (yw.bind (.halt (h:=.stuck _) trivial) _)
def jir (d:Nat) (h:∀{x x' y c:Vl},VR ok p x x'->VR ok p y c->Instr.sameBits d x y=true->Instr.sameBits d x' c=true):∀{a i b j:Lv},LR (VR ok p) a i->LR (VR ok p) b j->
 ((a.zip b).all λ(x,y)=>Instr.sameBits d x y)=true->((i.zip j).all λ(x,y)=>Instr.sameBits d x y)=true
 |_,_,_,_,.nil,_,_=>rfl
 |_,_,_,_,.cons _ _,.nil,_=>rfl
 |_,_,_,_,.cons h1 h2,.cons h3 h4,e=>by
  simp only[List.zip_cons_cons,List.all_cons,Bool.and_eq_true]at e ⊢;exact⟨h h1 h3 e.1,jir d h h2 h4 e.2⟩
def jpz {r s u v:Nat} (h:p.f r=some s) (e:p.f u=some v):(r==u)=(s==v):=
 AR.blk_iff (p:=p) (a:=AD r 0) (b:=AD s 0) (c:=AD u 0) (d:=AD v 0) ⟨h,rfl,rfl⟩ ⟨e,rfl,rfl⟩
def jmu:∀(d:Nat) {x x' y g:Vl},VR ok p x x'->VR ok p y g->Instr.sameBits d x y=true->Instr.sameBits d x' g=true:=by
 intro d;induction d with
 |zero=>
  intro x x' y g h i e;cases h<;>cases i<;>first|exact e|(simp[Instr.sameBits]at e;done)|skip
  .rename_i c _ _ f;simp only[Instr.sameBits]at e ⊢;have:=c.eq_iff f;simp_all
  rename_i c _ _ f;simp only[Instr.sameBits]at e ⊢;have:=jpz c f;simp_all
 |succ d ih=>
  intro x x' y g h i e;cases h<;>cases i<;>first|exact e|(simp[Instr.sameBits]at e;done)|skip
  .rename_i c _ _ f;simp only[Instr.sameBits]at e ⊢;have:=c.eq_iff f;simp_all
  .rename_i c _ _ f;simp only[Instr.sameBits]at e ⊢;have:=jpz c f;simp_all
  .rename_i c _ _ _ f;simp only[Instr.sameBits,Bool.and_eq_true]at e ⊢;exact⟨e.1,ih c f e.2⟩
  rename_i j c _ _ l f;simp only[Instr.sameBits,Bool.and_eq_true]at e ⊢;exact⟨by rw[<-j,<-l];exact e.1,jir d ih (Arr.list ⟨j,c⟩) (Arr.list ⟨l,f⟩) e.2⟩
def jm0 {n h:Vl} (d:VR ok p k A) (c:VR ok p n h):SR ok B P (VR ok) p (Instr.keyThatStays k n) (Instr.keyThatStays A h):=by
 unfold Instr.keyThatStays;split
 .next e=>rw[if_pos (jmu _ d c e)];exact qs c
 split
 .exact .pick 0 rfl (.pure c)
 refine y8 λm=>qs ?_;split
 .exact c
 exact d
def jio (F:Fit G P ok C gl) (j:Fx gl p) (t:Tp) {v J:Vl} (S:VR ok p x x') (K:VR ok p k A) (T:VR ok p v J):SR ok B P yk p (Instr.mapUpdate t x k v) (Instr.mapUpdate t x' A J):=by
 refine SR.bind (q8 t) λq d y f e=>?_;cases e;split
 rotate_left
 .exact qk
 cases S.mono f with
 |mnil=>exact j7 F (j.mono f) _
 |map e=>
  refine y4 e λo o' L s=>?_;cases s with
  |@map l m n hl=>
   dsimp only;refine SR.bind (zi F _ _ (j.mono f) _ (K.mono f)) λU _ _ g _=>?_;have M:=hl.mono λ(x y:MapEntry) (r:MER ok q x y)=>r.mono g;have h:=K.mono (f.trans g);have N:=T.mono (f.trans g);refine SR.bind (jg4 F (j.mono (f.trans g)) _ h M.list) λO x y c Q=>?_;have w:=M.mono λ(x y:MapEntry) (r:MER ok U x y)=>r.mono c
   cases x<;>cases y<;>first|(cases Q;done)|skip
   .exact jh5 (c _ _ (g _ _ e)) L (.map _ (w.push ⟨h.mono c,N.mono c,rfl⟩)) rfl
   rename_i x y;obtain⟨i,u⟩:=x;obtain⟨Y,Z⟩:=y;obtain⟨V,_⟩:=Q;cases V;dsimp only
   have s:VR ok O (((l[i]?).map (·.key)).getD k) (((m[i]?).map (·.key)).getD A):=by
      obtain⟨z,H⟩|⟨a,b,z,H,W⟩:=w.get i
      .rw[z,H];exact h.mono c
      rw[z,H];exact W.key
   refine SR.bind (jm0 s (h.mono c)) λq3 a b I X=>?_;exact jh5 (I _ _ (c _ _ (g _ _ e))) L (.map _ ((w.mono λ(x y:MapEntry) (r:MER ok O x y)=>r.mono I).modify _ λx y r=>⟨X,(N.mono c).mono I,r.born⟩)) rfl
  |_=>exact qk
 |_=>exact qk
def Arr.erase (h:Arr R a b) (i:Nat):Arr R (a.eraseIdxIfInBounds i) (b.eraseIdxIfInBounds i):=by
 rw[Array.eraseIdxIfInBounds_eq,Array.eraseIdxIfInBounds_eq];refine⟨?_,λj x y d c=>?_⟩
 .split
  .next e=>rw[dif_pos (by rw[<-h.size];exact e)];simp[h.size]
  next e=>rw[dif_neg (by rw[<-h.size];exact e)];exact h.size
 split at d
 .next e=>
  rw[dif_pos (by rw[<-h.size];exact e)]at c;rw[Array.getElem?_eraseIdx]at d c;split at d
  .next e2=>rw[if_pos e2]at c;exact h.at_ _ _ _ d c
  next e2=>rw[if_neg e2]at c;exact h.at_ _ _ _ d c
 next e=>rw[dif_neg (by rw[<-h.size];exact e)]at c;exact h.at_ _ _ _ d c
def jqo (F:Fit G P ok C gl) (v:Fx gl p) (g:Array Tp) (t:Tp) {a b:Av} (h:VA ok p a b):SR ok B P (VR ok) p (Builtin.delete_ g t a) (Builtin.delete_ g t b):=by
 unfold Builtin.delete_;obtain⟨j,s⟩|⟨x,x',j,s,O⟩:=h.get 0
 .rw[j,s];cases g[0]?<;>exact qk
 obtain⟨w,z⟩|⟨k,A,w,z,H⟩:=h.get 1
 .rw[j,s,w,z];cases g[0]?<;>exact qk
 rw[j,s,w,z];cases g[0]?with
 |none=>exact qk
 |some mt=>
  dsimp only;refine SR.bind (q8 mt) λq d y c e=>?_;cases e;split
  rotate_left
  .exact qk
  cases O.mono c with
  |mnil=>exact SR.bind (zi F _ _ (v.mono c) _ (H.mono c)) λJ _ _ f _=>qs (VR.tupA Arr.nil)
  |map e=>
   refine y4 e λo X K Q=>?_;cases Q with
   |@map l m n hl=>
    dsimp only;rw[jgb hl];refine SR.bind (zi F _ _ (v.mono c) _ (H.mono c)) λJ _ _ f _=>?_;have L:=hl.mono λ(x y:MapEntry) (r:MER ok q x y)=>r.mono f;refine SR.bind (jg4 F (v.mono (c.trans f)) _ (H.mono (c.trans f)) L.list) λT x y I M=>?_;have N:=L.mono λ(x y:MapEntry) (r:MER ok J x y)=>r.mono I
    cases x<;>cases y<;>first|(cases M;done)|skip
    .exact je8 (I _ _ (f _ _ e)) K (.map _ N) (qs (VR.tupA Arr.nil))
    rename_i x y;obtain⟨i,u⟩:=x;obtain⟨U,V⟩:=y;obtain⟨S,_⟩:=M;cases S;exact je8 (I _ _ (f _ _ e)) K (.map _ (N.erase _)) (qs (VR.tupA Arr.nil))
   |_=>exact .dead (yw.bind (.halt (h:=.stuck _) trivial) _)
  |_=>exact .dead (yw.bind (.halt (h:=.stuck _) trivial) _)
end
section
variable {G:Nat} {p:Ren G} {D:String->Bool} {S:Nat->Bool}
def jrz (t:Tp) (l:VR ok p x Q):SR ok A P (VR ok) p (Instr.range t x) (Instr.range t Q):=by
 refine SR.bind (q8 t) λq d y c e=>?_;cases e
 have i:∀{z:Ren G} {o w:Obj},OR ok A z o w->SR ok A P (VR ok) z (do pure (PP (<-newObj o)):Sem Vl) (do pure (PP (<-newObj w))):=λj=>
  SR.bind (je9 (R:=λq r s=>q.f r=some s) j λq r s _ e=>e) λq r s c e=>qs (.ptr ⟨e,rfl,rfl⟩)
 cases d with
 |string=>
  cases l.mono c<;>first|exact i (.stringIter _ _)|exact .dead (yw.bind (.halt (h:=.stuck _) trivial) _)
 |map k v=>
  cases l.mono c with
  |mnil=>exact i (.mapIterN _ _ _)
  |map e=>
   refine y4 e λo w m j=>?_;cases j with
   |map n hl=>exact i (.mapIter _ _ _ e)
   |_=>exact .dead (yw.bind (.halt (h:=.stuck _) trivial) _)
  |_=>exact .dead (yw.bind (.halt (h:=.stuck _) trivial) _)
 |_=>exact .dead (yw.bind (.halt (h:=.stuck _) trivial) _)
variable {C:Type} {R:B->C->Prop} {f:B->Bool} {g:C->Bool}
def LR.filter (h:∀a b,R a b->g b=f a):∀{l:List B} {m:List C},LR R l m->LR R (l.filter f) (m.filter g)
 |_,_,.nil=>.nil
 |_,_,.cons h1 h2=>by
  rw[List.filter_cons,List.filter_cons,h _ _ h1];split
  .exact .cons h1 (h2.filter h)
  exact h2.filter h
variable {a:Array B} {b:Array C}
def Arr.filter (h:∀a b,R a b->g b=f a) (r:Arr R a b):Arr R (a.filter f) (b.filter g):=by
 have:=(r.list.filter h).arr;rwa [<-Array.toList_filter,<-Array.toList_filter,Array.toArray_toList,Array.toArray_toList]at this
def Arr.all (h:∀a b,R a b->g b=f a) (r:Arr R a b):b.all g=a.all f:=by
 rw[<-Array.all_toList,<-Array.all_toList];have:=r.list;generalize a.toList=l,b.toList=m at this;induction this with
 |nil=>rfl
 |cons h1 _ ih=>simp[List.all_cons,h _ _ h1,ih]
def jtd (x Q:Vl) (I:VR ok p x Q) (b:Bool) (t:Tp):SR ok A P (VR ok) p (Instr.next x b t) (Instr.next Q b t):=by
 unfold Instr.next;cases I with
 |@ptr a a' ha=>
  obtain⟨r,off,M⟩:=a;obtain⟨r',J,N⟩:=a';obtain⟨j,d,K⟩:=ha;simp only at j d K;subst d;cases J with
  |succ n=>exact qk
  |zero=>
   dsimp only;refine y4 j λo T w d=>?_;cases d with
   |stringIter s n=>
    cases b with
    |false=>exact qk
    |true=>
     dsimp only;split
     .exact je8 j w (.stringIter _ _) (qs (VR.tupA (((Arr.one (.bool _)).push (.int _ _)).push (.int _ _))))
     exact qs (VR.tupA (Arr.one (.bool _)))
   |mapIterN n s k=>cases b<;>first|exact qk|exact qs (VR.tupA (Arr.one (.bool _)))
   |mapIter n s k e=>
    cases b with
    |true=>exact qk
    |false=>
     dsimp only;refine y4 e λo T O d=>?_;cases d with
     |@map l m c hl=>
      dsimp only;rw[jgb hl,Arr.all (g:=λx=>decide (x.born≥k)) (λa b r=>by rw[r.born]) hl];split
      .exact .dead (yw.bind (.halt (h:=.unsupported _) mq) _)
      have y:=hl.filter (f:=λe=>!s.contains e.born) (g:=λe=>!s.contains e.born) λa b r=>by rw[r.born]
      have E:=y.filter (f:=λe=>decide (e.born<n)) (g:=λe=>decide (e.born<n)) λa b r=>by rw[r.born]
      have L:=y.filter (f:=λe=>decide (e.born≥n)) (g:=λe=>decide (e.born≥n)) λa b r=>by rw[r.born]
      have F:Arr (vg (MER ok p)) ((if (Array.filter (λe=>decide (e.born<n)) (Array.filter (λe=>!s.contains e.born) l)).isEmpty=true then #[none]else #[])++(Array.filter (λe=>decide (e.born<n)) (Array.filter (λe=>!s.contains e.born) l)++Array.filter (λe=>decide (e.born≥n)) (Array.filter (λe=>!s.contains e.born) l)).map some)
          ((if (Array.filter (λe=>decide (e.born<n)) (Array.filter (λe=>!s.contains e.born) m)).isEmpty=true then #[none]else #[])++(Array.filter (λe=>decide (e.born<n)) (Array.filter (λe=>!s.contains e.born) m)++Array.filter (λe=>decide (e.born≥n)) (Array.filter (λe=>!s.contains e.born) m)).map some):=by
            refine Arr.append ?_ ((E.append L).map λ_ _ r=>r);rw[jgb E];split
            .exact Arr.one trivial
            exact Arr.nil
      rw[<-F.size];refine y8 λz=>?_;obtain⟨q,H⟩|⟨u,v,q,H,i⟩:=F.get z
      .rw[q];exact qk
      rw[q,H];cases u<;>cases v<;>first|(cases i;done)|skip
      .exact qs (VR.tupA (Arr.one (.bool _)))
      rename_i u v;dsimp only;have i:MER ok p u v:=i;rw[i.born];exact je8 j w (.mapIter _ _ _ e) (qs (VR.tupA (((Arr.one (.bool _)).push i.key).push i.val)))
     |_=>exact qk
   |_=>cases b<;>exact qk
 |_=>exact qk
def Arr.find (h:∀a b,R a b->g b=f a) (r:Arr R a b):vg R (a.find? f) (b.find? g):=by
 rw[<-Array.find?_toList,<-Array.find?_toList];have:=r.list;generalize a.toList=l,b.toList=m at this;induction this with
 |nil=>trivial
 |cons h1 _ ih=>
  rw[List.find?_cons,List.find?_cons,h _ _ h1];split
  .exact h1
  exact ih
def jrp (t:VR ok p x Q):SR ok A P (VR ok) p (Instr.entry x) (Instr.entry Q):=by
 unfold Instr.entry;cases t with
 |@ptr a a' ha=>
  obtain⟨r,off,y⟩:=a;obtain⟨r',u,z⟩:=a';obtain⟨q,d,v⟩:=ha;simp only at q d v;subst d;cases u with
  |succ n=>exact qk
  |zero=>
   dsimp only;refine y4 q λo E w d=>?_;cases d with
   |mapIter n s k e=>
    dsimp only;split
    .refine y4 e λo E w d=>?_;cases d with
     |@map l m c hl=>
      dsimp only;split
      .exact .dead (yw.bind (.halt (h:=.unsupported _) mq) _)
      rename_i j _ _;have i:=hl.find (f:=λx=>x.born==j) (g:=λx=>x.born==j) λa b r=>by rw[r.born]
      revert i;cases l.find? (λx=>x.born==j)<;>cases m.find? (λx=>x.born==j)<;>intro i<;>first|(cases i;done)|skip
      .exact j4
      exact qs (VR.tupA (jhc i.key i.val))
     |_=>exact qk
    exact qk
   |_=>exact qk
 |_=>exact qk
def jli (F:Fit G P ok D S) (r:Fx S p) (u:VR ok p x Q) (n j:Tp) (c:Bool):SR ok A P (VR ok) p (Instr.typeAssert x n j c) (Instr.typeAssert Q n j c):=by
 have o:∀{q:Ren G} {v w:Vl},VR ok q v w->SR ok A P (VR ok) q (pure (if c=true then Value.tuple #[v,.bool true]else v)) (pure (if c=true then Value.tuple #[w,.bool true]else w)):=λh=>by
  split
  .exact qs (VR.tupA (jhc h (.bool _)))
  exact qs h
 have l:∀{q:Ren G},p.Le q->∀(a b:Option Tp) (s:String),SR ok A P (VR ok) q (if c=true then do pure (Value.tuple #[<-zeroValue j,.bool false])else runtimePanic (.typeAssertion a b j s)) (if c=true then do pure (Value.tuple #[<-zeroValue j,.bool false])else runtimePanic (.typeAssertion a b j s)):=λk a b s=>by
  split
  .refine SR.bind (ys F _) λE z y m e=>?_;obtain⟨H,rfl⟩:=e;exact qs (VR.tupA (jhc H (.bool _)))
  exact j7 F (r.mono k) _
 refine SR.bind (q8 j) λq d y k e=>?_;cases e
 dsimp only;cases u.mono k with
 |nilIface=>cases d<;>exact l k _ _ _
 |iface t h=>
  cases d with
  |interface want=>
   refine SR.bind (j6 _) λE i y m e=>?_;obtain⟨rfl,_⟩:=e;split
   .exact o (.iface _ (h.mono m))
   exact l (k.trans m) _ _ _
  |_=>
   dsimp only;split
   .exact o h
   exact l k _ _ _
 |_=>cases d<;>exact qk
end
section
variable {G:Nat} {p:Ren G}
def ju3 (g:Array Tp) (t:Tp) (h:VA ok p a b):SR ok A P (VR ok) p (Builtin.len_ g t a) (Builtin.len_ g t b):=by
 unfold Builtin.len_;obtain⟨i,j⟩|⟨x,H,i,j,r⟩:=h.get 0
 .rw[i,j];cases g[0]?<;>exact qk
 rw[i,j];cases g[0]?with
 |none=>exact qk
 |some mt=>
  dsimp only;refine SR.bind (q8 mt) λq d y s e=>?_;cases e;have c:=r.mono s;cases d with
  |array n e=>cases c<;>exact qs (.int _ _)
  |pointer e=>
   cases c<;>(refine SR.bind (q8 e) λz d y E e=>?_;cases e;split<;>first|exact qs (.int _ _)|exact qk)
  |string=>cases c<;>first|exact qk|exact qs (.int _ _)
  |slice e=>cases c<;>first|exact qk|exact qs (.int _ _)
  |map k e=>
   cases c with
   |mnil=>exact qs (.int _ _)
   |map e=>
    refine y4 e λo F u l=>?_;cases l with
    |map n hl=>dsimp only;rw[<-hl.size];exact qs (.int _ _)
    |_=>exact qk
   |_=>exact qk
  |chan k e=>
   cases c with
   |cnil=>exact qs (.int _ _)
   |chan e=>
    refine y4 e λo F u l=>?_
    cases l<;>exact qk
   |_=>exact qk
  |_=>cases c<;>exact qk
def jus (g:Array Tp) (t:Tp) (h:VA ok p a b):SR ok A P (VR ok) p (Builtin.cap_ g t a) (Builtin.cap_ g t b):=by
 unfold Builtin.cap_;obtain⟨i,j⟩|⟨x,F,i,j,l⟩:=h.get 0
 .rw[i,j];cases g[0]?<;>exact qk
 rw[i,j];cases g[0]?with
 |none=>exact qk
 |some mt=>
  dsimp only;refine SR.bind (q8 mt) λq d y r e=>?_;cases e;have c:=l.mono r;cases d with
  |array n e=>cases c<;>exact qs (.int _ _)
  |pointer e=>
   cases c<;>(refine SR.bind (q8 e) λu d y z e=>?_;cases e;split<;>first|exact qs (.int _ _)|exact qk)
  |slice e=>cases c<;>first|exact qk|exact qs (.int _ _)
  |chan k e=>
   cases c with
   |cnil=>exact qs (.int _ _)
   |chan e=>
    refine y4 e λo H E s=>?_
    cases s<;>exact qk
   |_=>exact qk
  |_=>cases c<;>exact qk
def jfh {z:Av} (c:VA ok p z z) (n:Nat):VA ok p (Builtin.zeroCells z n) (Builtin.zeroCells z n):=jiu (λi=>jv0 c _) _
def jst (F:Fit G P ok C gl) (g:Array Tp) (t:Tp) (h:VA ok p a b):SR ok A P (VR ok) p (Builtin.clear_ g t a) (Builtin.clear_ g t b):=by
 unfold Builtin.clear_;obtain⟨i,j⟩|⟨x,L,i,j,l⟩:=h.get 0
 .rw[i,j];cases g[0]?<;>exact qk
 rw[i,j];cases g[0]?with
 |none=>exact qk
 |some mt=>
  dsimp only;refine SR.bind (q8 mt) λq d y r e=>?_;cases e;have done:∀{q:Ren G},SR ok A P (VR ok) q (pure (.tuple #[])) (pure (.tuple #[])):=qs (VR.tupA Arr.nil);have k:∀{q:Ren G} {s:String} {f:Unit->Sem Vl} {m:Sem Vl},SR ok A P (VR ok) q ((stuck s:Sem Unit)>>=f) m:=.dead (yw.bind (.halt (h:=.stuck _) trivial) _);cases l.mono r with
  |mnil=>cases d<;>exact done
  |snil=>cases d<;>exact done
  |map e=>
   cases d<;>first|(refine y4 e λo M u E=>?_;cases E<;>first|exact je8 e u (.map _ Arr.nil) done|exact k|exact qk)
  |slice n c ha=>
   cases n with
   |zero=>cases d<;>exact done
   |succ n=>
    cases d with
    |slice el=>
     refine SR.bind (ys F _) λJ z y H e=>?_;obtain⟨I,rfl⟩:=e;exact SR.bind (vq (R:=yk) 0 (AR.mono H ha) (jfh I.cells _).list λ_ _=>rfl) λK _ _ _ _=>done
    |_=>exact k
  |_=>cases d<;>exact k
def jiv (h:VR ok p v w):SR ok A P yk p (Builtin.lenOf v) (Builtin.lenOf w):=by
 cases h<;>first|exact qs rfl|exact qk
def jnc (s:Array UInt8):VA ok p (s.map λb=>Value.int .u8 b.toNat) (s.map λb=>Value.int .u8 b.toNat):=Arr.map (Arr.refl (R:=λx y=>x=y) (λ_=>rfl) s) λx y e=>by cases e;exact .int _ _
def z9 (d n:Nat) (h:VR ok p v w):SR ok A P (VA ok) p (Builtin.firstCells d n v) (Builtin.firstCells d n w):=by
 cases h with
 |slice l c ha=>exact jfv ha _
 |snil=>exact qs Arr.nil
 |string s=>exact qs (jnc _)
 |_=>exact qk
def jt3 (g:Array Tp) (t:Tp) (h:VA ok p a b):SR ok A P (VR ok) p (Builtin.copy_ g t a) (Builtin.copy_ g t b):=by
 unfold Builtin.copy_;obtain⟨j,n⟩|⟨x,N,j,n,E⟩:=h.get 0
 .rw[j,n];cases g[0]?<;>exact qk
 obtain⟨u,z⟩|⟨k,L,u,z,o⟩:=h.get 1
 .rw[j,n,u,z];cases g[0]?<;>exact qk
 rw[j,n,u,z];cases g[0]?with
 |none=>exact qk
 |some mt=>
  dsimp only;refine SR.bind (q8 mt) λq d y i e=>?_;cases e;split
  rotate_left
  .exact qk
  cases E.mono i with
  |snil l c=>
   dsimp only;refine SR.bind (jiv (o.mono i)) λF x y r e=>?_;cases e;refine SR.bind (yc _) λH x y s e=>?_;cases e;exact SR.bind (z9 _ _ (o.mono ((i.trans r).trans s))) λI _ _ _ _=>qs (.int _ _)
  |slice l c ha=>
   dsimp only;refine SR.bind (jiv (o.mono i)) λF x y r e=>?_;cases e;refine SR.bind (yc _) λH x y s e=>?_;cases e;refine SR.bind (z9 _ _ (o.mono ((i.trans r).trans s))) λI x y J K=>?_;exact SR.bind (vq (R:=yk) 0 (((AR.mono r ha).mono s).mono J) K.list λ_ _=>rfl) λM _ _ _ _=>qs (.int _ _)
  |_=>exact qk
def jf1 (t:Tp):SR ok A P (λ_ a b=>a=b/\P.underlying t=some a) p (underlying t) (underlying t):=by
 refine j5 ?_;cases h:P.underlying t with
 |none=>exact qk
 |some d=>exact qs ⟨rfl,rfl⟩
inductive jgf {B:Type}:Sem B->Prop
 |pure (a:B):jgf (.pure a)
 |shape {r:Nat} {k:Option (Tp×Nat)->Sem B}:(∀n,jgf (k n))->jgf (.shape r k)
 |frozen {a:Addr} {k:Bool->Sem B}:(∀n,jgf (k n))->jgf (.frozen a k)
variable {m:Sem B} {f:B->Sem D}
def jgf.bind (h:jgf m) (c:∀a,jgf (f a)):jgf (m>>=f):=by
 show jgf (m.bind f);induction h with
 |pure a=>exact c a
 |shape _ ih=>exact .shape ih
 |frozen _ ih=>exact .frozen ih
def jgf.dead (h:jgf m) (c:∀a,yw (f a)):yw (m>>=f):=by
 show yw (m.bind f);induction h with
 |pure a=>exact c a
 |shape _ ih=>exact .shape ih
 |frozen _ ih=>exact .frozen ih
def jk6 (a:Addr) (n:Nat):jgf (Builtin.holdsCells a n):=by
 refine jgf.shape λs=>?_
 cases s<;>exact .pure _
def jkc (a b c:Nat) (o:Oa) (x:Vl):jgf (Builtin.mayShare a b c o x):=by
 have d:jgf (match x with|.slice (some b) _ _=>do pure (!(<-Builtin.holdsCells b (c*a))||o.any (·.block==b.block))|_=>pure false:Sem Bool):=by
  split
  .exact jgf.bind (jk6 _ _) λ_=>.pure _
  exact .pure _
 unfold Builtin.mayShare;cases o with
 |none=>exact d
 |some v=>
  refine jgf.bind (jk6 _ _) λh=>?_;refine jgf.bind (.frozen λb=>.pure b) λb=>?_;simp only[pure_bind];split
  .exact .pure _
  exact d
def jqv (F:Fit G P ok C gl) (O:Fx gl p) (Q:Array Tp) (t:Tp) (h:VA ok p a b):SR ok A P (VR ok) p (Builtin.append_ Q t a) (Builtin.append_ Q t b):=by
 unfold Builtin.append_;obtain⟨Y,Z⟩|⟨s,s',Y,Z,hs⟩:=h.get 0
 .rw[Y,Z];cases Q[0]?<;>exact qk
 obtain⟨h3,h4⟩|⟨x,x',h3,h4,hx⟩:=h.get 1
 .rw[Y,Z,h3,h4];cases Q[0]?<;>exact qk
 rw[Y,Z,h3,h4];cases Q[0]?with
 |none=>exact qk
 |some st=>
  dsimp only;refine SR.bind (q8 st) λq d y k e=>?_;cases e;split
  rotate_left
  .exact qk
  rename_i el;obtain⟨base,K,sl,S,rfl,rfl,H,hsv⟩|hno:(∃base K sl S,s=.slice base sl S/\s'=.slice K sl S/\vg (AR q) base K/\VR ok q (.slice base sl S) (.slice K sl S))\/∀f:Oa->Nat->Nat->Sem Vl,(match s with|.slice a l c=>f a l c|_=>stuck "append: slice expected")=stuck "append: slice expected":=by
   have h:=hs.mono k;cases hs with
   |snil l c=>exact .inl ⟨none,none,l,c,rfl,rfl,trivial,.snil _ _⟩
   |slice l c J=>exact .inl ⟨some _,some _,l,c,rfl,rfl,J.mono k,.slice _ _ (J.mono k)⟩
   |_=>exact .inr λ_=>rfl
  rotate_left
  .cases hs<;>first|exact qk|(have:=hno λ_ _ _=>pure undef;cases this)
  dsimp only;refine SR.bind (yc _) λq1 size y g e=>?_;cases e;have newF:∀{r:Ren G} (n:Nat),p.Le r->SR ok A P (VA ok) r (Builtin.firstCells size n x) (Builtin.firstCells size n x'):=λn hr=>z9 _ _ (hx.mono hr);cases ht:Q[1]?with
  |none=>
   simp only[pure_bind,Bool.false_eq_true,if_false,Bool.not_false,if_true,false_or];refine SR.bind (jiv (hx.mono (k.trans g))) λq2 n y i e=>?_;cases e;split
   .refine SR.bind (newF n ((k.trans (g.trans i)))) λT c d j E=>?_
    cases base<;>cases K<;>first|(cases H;done)|skip
    .exact qs (.snil _ _)
    exact SR.bind (vq (R:=yk) 0 ((AR.mono ((g.trans i).trans j) H).add _) E.list λ_ _=>rfl) λU _ _ o _=>qs (.slice _ _ (AR.mono (((g.trans i).trans j).trans o) H))
   refine SR.bind (j6 _) λT x y j e=>?_;obtain⟨rfl,_⟩:=e;split
   .exact jff F (O.mono ((k.trans (g.trans i)).trans j)) _
   refine SR.bind (j6 _) λU x y o e=>?_;obtain⟨rfl,_⟩:=e;split
   .exact .dead (yw.bind (jgf.dead (jkc _ _ _ _ _) λb=>by cases b<;>first|exact .mark (.halt (h:=.unsupported _) mq)|exact .halt (h:=.unsupported _) trivial) _)
   refine y8 λcap=>?_;refine SR.bind (j6 _) λqc x y L e=>?_;obtain⟨rfl,_⟩:=e;refine SR.bind jf6 λqd _ _ M _=>?_;have V:=((((g.trans i).trans j).trans o).trans L).trans M;refine SR.bind (z9 _ _ (VR.mono V hsv)) λqe c d hqe E=>?_;refine SR.bind (newF n (((((((k.trans g).trans i).trans j).trans o).trans L).trans M).trans hqe)) λqf c' d' W X=>?_;refine SR.bind (ys F _) λqg z y I e=>?_;obtain⟨N,rfl⟩:=e;exact SR.bind (jfa _ (((VA.mono (W.trans I) E).append (VA.mono I X)).append (jfh N.cells _))) λqh a b hqh J=>qs (.slice _ _ J)
  |some xt=>
   dsimp only;refine SR.bind (jf1 xt) λq2 d y i e=>?_;obtain⟨rfl,hd⟩:=e;simp only[pure_bind];split
   .simp only[if_true,Bool.not_true,Bool.false_eq_true,if_false,true_or];refine SR.bind (jf2 (hx.mono ((k.trans g).trans i))) λq30 l y hq30 e=>?_;cases e;by_cases hl:IntKind.i64.wrap l<0
    .rw[if_pos hl,if_pos hl];exact jff F (O.mono (((k.trans g).trans i).trans hq30)) _
    rw[if_neg hl,if_neg hl];refine SR.bind (j6 _) λq3 i0 y hq31 e=>?_;obtain⟨rfl,_⟩:=e;have u:=hq30.trans hq31;by_cases hm:IntKind.i64.wrap l*(i0.bytes:Int)>2^48
    .rw[if_pos hm,if_pos hm];refine y8 λm=>?_;exact jff F (O.mono (((k.trans g).trans i).trans u)) _
    rw[if_neg hm,if_neg hm];generalize (IntKind.i64.wrap l).toNat=n;have newZ:∀{r:Ren G},SR ok A P (VA ok) r (if n*size=0 then pure #[]else do pure (Builtin.zeroCells (<-zeroValue el).cells n)) (if n*size=0 then pure #[]else do pure (Builtin.zeroCells (<-zeroValue el).cells n)):=λ{r}=>by
     split
     .exact qs Arr.nil
     refine SR.bind (ys F _) λqg z y I e=>?_;obtain⟨N,rfl⟩:=e;exact qs (jfh N.cells _)
    split
    .refine SR.bind newZ λT c d j E=>?_
     cases base<;>cases K<;>first|(cases H;done)|skip
     .exact qs (.snil _ _)
     exact SR.bind (vq (R:=yk) 0 ((AR.mono (((g.trans i).trans u).trans j) H).add _) E.list λ_ _=>rfl) λU _ _ o _=>qs (.slice _ _ (AR.mono ((((g.trans i).trans u).trans j).trans o) H))
    refine SR.bind (j6 _) λT x y j e=>?_;obtain⟨rfl,_⟩:=e;split
    .exact jff F (O.mono ((k.trans ((g.trans i).trans u)).trans j)) _
    refine SR.bind (j6 _) λU x y o e=>?_;obtain⟨rfl,_⟩:=e;split
    .exact jff F (O.mono (((k.trans ((g.trans i).trans u)).trans j).trans o)) _
    refine y8 λcap=>?_;refine SR.bind (j6 _) λqc x y L e=>?_;obtain⟨rfl,_⟩:=e;refine SR.bind jf6 λqd _ _ M _=>?_;have V:=(((((g.trans i).trans u).trans j).trans o).trans L).trans M;refine SR.bind (z9 _ _ (VR.mono V hsv)) λqe c d hqe E=>?_;refine SR.bind newZ λqf c' d' W X=>?_;refine SR.bind (ys F _) λqg z y I e=>?_;obtain⟨N,rfl⟩:=e;exact SR.bind (jfa _ (((VA.mono (W.trans I) E).append (VA.mono I X)).append (jfh N.cells _))) λqh a b hqh J=>qs (.slice _ _ J)
   skip;simp only[Bool.false_eq_true,if_false,Bool.not_false,if_true,false_or];refine SR.bind (jiv (hx.mono ((k.trans g).trans i))) λq3 n y u e=>?_;cases e;split
   .refine SR.bind (newF n (k.trans ((g.trans i).trans u))) λT c d j E=>?_
    cases base<;>cases K<;>first|(cases H;done)|skip
    .exact qs (.snil _ _)
    exact SR.bind (vq (R:=yk) 0 ((AR.mono (((g.trans i).trans u).trans j) H).add _) E.list λ_ _=>rfl) λU _ _ o _=>qs (.slice _ _ (AR.mono ((((g.trans i).trans u).trans j).trans o) H))
   refine SR.bind (j6 _) λT x y j e=>?_;obtain⟨rfl,_⟩:=e;split
   .exact jff F (O.mono ((k.trans ((g.trans i).trans u)).trans j)) _
   refine SR.bind (j6 _) λU x y o e=>?_;obtain⟨rfl,_⟩:=e;split
   .exact .dead (yw.bind (jgf.dead (jkc _ _ _ _ _) λb=>by cases b<;>first|exact .mark (.halt (h:=.unsupported _) mq)|exact .halt (h:=.unsupported _) trivial) _)
   refine y8 λcap=>?_;refine SR.bind (j6 _) λqc x y L e=>?_;obtain⟨rfl,_⟩:=e;refine SR.bind jf6 λqd _ _ M _=>?_;have V:=(((((g.trans i).trans u).trans j).trans o).trans L).trans M;refine SR.bind (z9 _ _ (VR.mono V hsv)) λqe c d hqe E=>?_;refine SR.bind (newF n ((((((((k.trans g).trans i).trans u).trans j).trans o).trans L).trans M).trans hqe)) λqf c' d' W X=>?_;refine SR.bind (ys F _) λqg z y I e=>?_;obtain⟨N,rfl⟩:=e;exact SR.bind (jfa _ (((VA.mono (W.trans I) E).append (VA.mono I X)).append (jfh N.cells _))) λqh a b hqh J=>qs (.slice _ _ J)
end
section
variable {G:Nat} {p:Ren G} {D:String->Bool} {Q:Nat->Bool}
inductive jn3 {B:Type}:Sem B->Prop
 |pure (a:B):jn3 (.pure a)
 |choose {q:Question} {k:Nat->Sem B}:(∀n,jn3 (k n))->jn3 (.choose q k)
 |halt {h:Halt}:q12 h->jn3 (.halt h)
def jkj (s:String):jn3 (stuck s:Sem B):=.halt trivial
def jng (a:B):jn3 (Pure.pure a:Sem B):=.pure a
def flat:Vl->Prop
 |.bool _|.int _ _|.string _=>True
 |_=>False
def jtm {v:Vl} (h:flat v):VR ok p v v:=by
 cases v<;>first|(cases h;done)|constructor
inductive jfb:Sem Vl->Prop
 |pure {a:Vl}:flat a->jfb (.pure a)
 |choose {q:Question} {k:Nat->Sem Vl}:(∀n,jfb (k n))->jfb (.choose q k)
 |halt {h:Halt}:q12 h->jfb (.halt h)
def jfb.bind {m:Sem B} {f:B->Sem Vl} (h:jn3 m) (c:∀a,jfb (f a)):jfb (m>>=f):=by
 show jfb (m.bind f);induction h with
 |pure a=>exact c a
 |choose _ ih=>exact .choose ih
 |halt h=>exact .halt h
variable {m:Sem Vl}
def jfb.sr (h:jfb m):SR ok A P (VR ok) p m m:=by
 induction h with
 |pure a=>exact .pure (jtm a)
 |choose _ ih=>exact .choose ih
 |halt h=>exact .dead (.halt h)
def jfb.bare (h:jfb m):jn3 m:=by
 induction h with
 |pure a=>exact .pure _
 |choose _ ih=>exact .choose ih
 |halt h=>exact .halt h
def jn1 (s:String):jfb (stuck s:Sem Vl):=.halt trivial
def jqt (s:Unsupported) (h:q12 (.unsupported s):=by trivial):jfb (unsupported s:Sem Vl):=.halt h
def jhm {a:Vl} (h:flat a):jfb (Pure.pure a:Sem Vl):=.pure h
def jhd (c:BinOp) (x y:By):jfb (Op.stringOp c x y):=by
 unfold Op.stringOp;cases c<;>first|exact jhm trivial|exact jn1 _|(dsimp only;split<;>first|exact jqt _|exact jhm trivial)
variable {O C:Vl}
def jt5 (d:VR ok p x O) (c:VR ok p y C):SR ok A P (VR ok) p (Builtin.min2 x y) (Builtin.min2 O C):=by
 have e:∀a b,jfb (Builtin.min2 (.string a) (.string b)):=λa b=>by
  refine jfb.bind (jhd _ _ _).bare λv=>?_;refine jfb.bind ?_ λv=>jhm trivial
  cases v<;>first|exact jng _|exact jkj _
 cases d with
 |int=>cases c<;>first|exact qk|exact j4|exact qs (.int _ _)
 |string=>cases c<;>first|exact qk|exact j4|exact(e _ _).sr
 |ptr=>exact j4
 |_=>cases c<;>first|exact qk|exact j4
def jtt (d:VR ok p x O) (c:VR ok p y C):SR ok A P (VR ok) p (Builtin.max2 x y) (Builtin.max2 O C):=by
 have e:∀a b,jfb (Builtin.max2 (.string a) (.string b)):=λa b=>by
  refine jfb.bind (jhd _ _ _).bare λv=>?_;refine jfb.bind ?_ λv=>jhm trivial
  cases v<;>first|exact jng _|exact jkj _
 cases d with
 |int=>cases c<;>first|exact qk|exact j4|exact qs (.int _ _)
 |string=>cases c<;>first|exact qk|exact j4|exact(e _ _).sr
 |ptr=>exact j4
 |_=>cases c<;>first|exact qk|exact j4
def jk5 {f:Vl->Vl->Sem Vl} (c:∀{q:Ren G} {x O y C:Vl},VR ok q x O->VR ok q y C->SR ok A P (VR ok) q (f x y) (f O C)):∀{l m:Lv} {p:Ren G} {x y:Vl},LR (VR ok p) l m->VR ok p x y->SR ok A P (VR ok) p (l.foldlM f x) (m.foldlM f y)
 |_,_,p,x,y,.nil,h=>qs h
 |_,_,p,x,y,.cons h1 h2,h=>by
  rw[List.foldlM_cons,List.foldlM_cons];exact SR.bind (c h h1) λq a b d e=>jk5 c (h2.mono λ_ _=>VR.mono d) e
def juv (c:Array Tp) (t:Tp) (h:VA ok p a b):SR ok A P (VR ok) p (Builtin.min_ c t a) (Builtin.min_ c t b):=by
 unfold Builtin.min_;have:=h.list;generalize a.toList=l,b.toList=m at this;cases this with
 |nil=>exact qk
 |cons h1 h2=>exact jk5 jt5 h2 h1
def juy (c:Array Tp) (t:Tp) (h:VA ok p a b):SR ok A P (VR ok) p (Builtin.max_ c t a) (Builtin.max_ c t b):=by
 unfold Builtin.max_;have:=h.list;generalize a.toList=l,b.toList=m at this;cases this with
 |nil=>exact qk
 |cons h1 h2=>exact jk5 jtt h2 h1
def jj0 (F:Fit G P ok D Q) (i:Fx Q p) (c:Array Tp) (t:Tp) (h:VA ok p a b):SR ok A P (VR ok) p (Builtin.unsafeString_ c t a) (Builtin.unsafeString_ c t b):=by
 obtain⟨l⟩:=a;obtain⟨m⟩:=b;have j:=h.list;simp only at j;unfold Builtin.unsafeString_;match j with
 |.nil=>exact qk
 |.cons _ .nil=>exact qk
 |.cons (a:=x) (b:=y) h1 (.cons h2 (.cons h3 h4))=>cases h1<;>exact qk
 |.cons h1 (.cons (a:=u) (b:=u') h2 .nil)=>
  have k:∀{o o':Oa},vg (AR p) o o'->SR ok A P (VR ok) p (Builtin.unsafeString_ c t #[.pointer o,u]) (Builtin.unsafeString_ c t #[.pointer o',u']):=by
   intro o o' f;unfold Builtin.unsafeString_;dsimp only;refine SR.bind (jf2 h2) λq n y d e=>?_;cases e;cases c[0]?with
   |none=>exact qk
   |some pt=>
    dsimp only;split
    .exact jff F (i.mono d) _
    split
    .exact .dead (yw.bind (.halt (h:=.unsupported _) mq) _)
    cases o<;>cases o'<;>first|(cases f;done)|skip
    .dsimp only;split
     .exact qs (.string _)
     exact j7 F (i.mono d) _
    dsimp only;split
    .exact qs (.string _)
    refine SR.bind (jgs _) λw x y g e=>?_;cases e;refine SR.bind (jg8 (AR.mono (d.trans g) f) _ _) λz x y r e=>?_;obtain⟨s,rfl⟩|⟨rfl,E⟩:=e
    rotate_left
    .exact j4
    split
    .refine SR.bind (jij (a:=default) (b:=default) _ _ (AR.mono ((d.trans g).trans r) f)) λH x y v e=>?_;cases e;exact .freeze (AR.mono (((d.trans g).trans r).trans v) f) s (.pure (.string _))
    exact j4
  cases h1 with
  |pnil=>exact k (o:=none) (o':=none) trivial
  |ptr ha=>exact k (o:=some _) (o':=some _) ha
  |_=>exact qk
def jid (d:Array Tp) (t:Tp) (h:VA ok p a b):SR ok A P (VR ok) p (Builtin.unsafeSliceData_ d t a) (Builtin.unsafeSliceData_ d t b):=by
 obtain⟨l⟩:=a;obtain⟨m⟩:=b;have g:=h.list;simp only at g;match g with
 |.nil=>exact qk
 |.cons h1 (.cons h2 h3)=>cases h1<;>exact qk
 |.cons h1 .nil=>
  cases h1 with
  |snil=>exact qs .pnil
  |@slice a b l c ha=>
   show SR ok A P (VR ok) p (Builtin.unsafeSliceData_ d t #[.slice (some a) l c]) (Builtin.unsafeSliceData_ d t #[.slice (some b) l c]);show SR ok A P (VR ok) p (if c≠0 then _ else _) (if c≠0 then _ else _);split
   .exact qs (.ptr ha)
   refine SR.bind (jhp ha.blk) λq x y i e=>?_;rw[e.isSome];split
   .exact qs (.ptr (ha.mono i))
   refine SR.bind (jgs _) λk x y j e=>?_;cases e;exact SR.bind (je9 (R:=λq r s=>q.f r=some s) (.view _ ((ha.mono i).mono j)) λq r s _ e=>e) λn r s o e=>qs (.ptr ⟨e,rfl,rfl⟩)
  |_=>exact qk
def jlz {a b:Addr} (d:AR p a b):SR ok A P AR p (Conv.seenAt a) (Conv.seenAt b):=by
 refine SR.bind (jhp d.blk) λq x y g e=>?_;cases x with
 |none=>
  cases y with
  |some=>cases e
  |none=>exact qs (d.mono g)
 |some x=>
  cases y with
  |none=>cases e
  |some y=>
   obtain⟨s,u⟩:=x;obtain⟨i,j⟩:=y;obtain⟨c,f⟩:=e;simp only at c f;subst f;dsimp only;rw[d.off,d.spot,c.spot,c.off];split
   .exact qs c
   split
   .exact .dead (yw.bind (.halt (h:=.unsupported _) mq) _)
   refine j5 ?_;split
   .refine jf4 c.blk λn=>?_;split
    .split
     .exact .dead (yw.bind (.halt (h:=.unsupported _) mq) _)
     split
     .exact qs ⟨c.blk,rfl,rfl⟩
     exact j4
    exact j4
   exact j4
def y6 (s d:Tp) (h:VR ok p x O):SR ok A P (VR ok) p (Conv.unsafePointer s d x) (Conv.unsafePointer s d O):=by
 refine SR.bind (q8 s) λq F y H e=>?_;cases e;refine SR.bind (q8 d) λM j y I e=>?_;cases e;have c:=h.mono (H.trans I);cases F with
 |pointer t=>
  cases j with
  |unsafePointer=>
   cases c with
   |pnil=>exact qs .pnil
   |ptr ha=>
    dsimp only;refine SR.bind (jlz ha) λo a b w i=>?_;refine SR.bind (joc i.blk) λJ x y l e=>?_;cases e;refine SR.bind (yc _) λK n y z e=>?_;cases e;have g:=i.mono (l.trans z);rw[i.off,i.spot]
    repeat' split
    all_goals first|exact qs (VR.ptr g)|exact SR.bind (je9 (R:=λq r s=>q.f r=some s) (.view _ g) λq r s _ e=>e) λo r s w e=>qs (VR.ptr ⟨e,rfl,rfl⟩)
   |_=>exact qk
  |_=>first|exact qk|(cases c<;>exact qk)
 |unsafePointer=>
  cases j with
  |pointer u=>
   cases c with
   |pnil=>exact qs .pnil
   |ptr ha=>
    dsimp only;refine SR.bind (jlz ha) λo a b w i=>?_;refine SR.bind (yc _) λJ n y l e=>?_;cases e;refine SR.bind (jg8 (i.mono l) _ _) λK v y z e=>?_;have g:=i.mono (l.trans z);obtain⟨N,rfl⟩|⟨rfl,L⟩:=e
    rotate_left
    .by_cases E:n=0
     .simp only[E,decide_true,Bool.true_or,if_true];exact qs (.ptr g)
     simp only[E,decide_false,Bool.false_or,Bool.false_eq_true,if_false];exact .shapeOdd g.blk L (.dead (.halt (h:=.unsupported _) trivial))
    split
    .exact qs (.ptr g)
    refine jf4 g.blk λn=>?_;split
    .refine j5 (j5 ?_);split
     .exact .dead (yw.bind (.halt (h:=.unsupported _) mq) _)
     exact SR.bind (je9 (R:=λq r s=>q.f r=some s) (.view _ g) λq r s _ e=>e) λo r s w e=>qs (.ptr ⟨e,rfl,rfl⟩)
    exact .dead (yw.bind (.halt (h:=.unsupported _) mq) _)
   |_=>exact qk
  |unsafePointer=>cases c<;>first|exact qk|exact qs .pnil|exact qs (.ptr mj)
  |int k=>
   cases c with
   |pnil=>exact qs (.int _ _)
   |ptr ha=>exact jjr ha _
   |_=>exact qk
  |_=>first|exact qk|(cases c<;>exact qk)
 |int k=>
  cases j with
  |unsafePointer=>
   cases c with
   |int k n=>
    obtain n|n:=n
    .cases n<;>exact j4
    exact j4
   |ptr=>exact j4
   |_=>exact qk
  |_=>first|exact qk|(cases c<;>exact qk)
 |_=>first|exact qk|(cases j<;>first|exact qk|(cases c<;>exact qk))
end
section
variable {G:Nat} {p:Ren G} {B:String->Bool}
def ji1 (t:Tp) (s:By):SR ok A P (VR ok) p (Conv.stringToBytes t s) (Conv.stringToBytes t s):=by
 refine y8 λf=>?_;refine SR.bind (jo4 _ ((jnc _).append (Arr.replicate _ (.int _ _)))) λq a b g ⟨c,d⟩=>?_;exact SR.bind (ji9 c d) λh _ _ e _=>qs (.slice _ _ (c.mono e))
def jm5 (s:By):∀(n i:Nat) {c:Av},VA ok p c c->VA ok p (Conv.runesFrom s n i c) (Conv.runesFrom s n i c)
 |0,i,c,h=>h
 |n+1,i,c,h=>by
  unfold Conv.runesFrom;split
  .exact jm5 s n _ (h.push (.int _ _))
  exact h
def ji7 (t:Tp) (s:By):SR ok A P (VR ok) p (Conv.stringToRunes t s) (Conv.stringToRunes t s):=by
 refine y8 λd=>?_;exact SR.bind (jfa _ ((jm5 s _ _ Arr.nil).append (Arr.replicate _ (.int _ _)))) λq a b e c=>qs (.slice _ _ c)
variable {D:Vl}
def jja (h:VR ok p x D):SR ok A P (VR ok) p (Conv.bytesToString x) (Conv.bytesToString D):=by
 cases h with
 |snil=>exact qs (.string _)
 |slice l c ha=>
  refine SR.bind (jfv ha _) λq x y i d=>?_
  refine SR.bind (R:=yk) ?_ λf x y g e=>by cases e;exact qs (.string _)
  rw[<-Array.forIn_toList,<-Array.forIn_toList];refine jim (p:=q) (T:=VR ok) (S:=yk) (λ_ _ _ _ h=>VR.mono h) (Ren.Le.refl _) (λf a b s t g h e=>?_) d.list rfl;cases e;cases h with
  |int k n=>cases k<;>first|exact qk|exact qs (.yield rfl)
  |_=>exact qk
 |_=>exact qk
def ji4 (h:VR ok p x D):SR ok A P (VR ok) p (Conv.runesToString x) (Conv.runesToString D):=by
 cases h with
 |snil=>exact qs (.string _)
 |slice l c ha=>
  refine SR.bind (jfv ha _) λq x y i d=>?_
  refine SR.bind (R:=yk) ?_ λf x y g e=>by cases e;exact qs (.string _)
  rw[<-Array.forIn_toList,<-Array.forIn_toList];refine jim (p:=q) (T:=VR ok) (S:=yk) (λ_ _ _ _ h=>VR.mono h) (Ren.Le.refl _) (λf a b s t g h e=>?_) d.list rfl;cases e;cases h with
  |int k n=>cases k<;>first|exact qk|exact qs (.yield rfl)
  |_=>exact qk
 |_=>exact qk
def joq (m:∀t k,P.underlying t≠some (.float k)/\P.underlying t≠some (.complex k)) (s d:Tp) (r:(s==d)=false) (h:VR ok p x D):SR ok A P (VR ok) p (convert s d x) (convert s d D):=by
 refine SR.bind (jf1 s) λq f y v e=>?_;obtain⟨rfl,F⟩:=e;refine SR.bind (jf1 d) λC w y z e=>?_;obtain⟨rfl,n⟩:=e;have g:=h.mono (v.trans z);have a:=g;cases w with
 |float k=>exact absurd n (m _ _).1
 |complex k=>exact absurd n (m _ _).2
 |int k=>
  cases g with
  |int=>first|exact qs (VR.int _ _)|(cases f<;>exact qs (VR.int _ _))
  |_=>cases f<;>first|exact j4|exact y6 s d a
 |string=>
  cases g with
  |int=>first|exact qs (VR.string _)|(cases f<;>exact qs (VR.string _))
  |string=>first|exact qs (VR.string _)|(cases f<;>exact qs (VR.string _))
  |_=>
   cases f with
   |slice e=>
    refine SR.bind (q8 e) λo u y i e=>?_;cases e;split
    .exact jja (a.mono i)
    .exact ji4 (a.mono i)
    exact qk
   |_=>first|exact j4|exact y6 s d a
 |slice e=>
  cases g with
  |string b=>
   cases f<;>(
        refine SR.bind (q8 e) λo u y i j=>?_;cases j;split
        .exact ji1 _ _
        .exact ji7 _ _
        exact qk)
  |slice l c ha=>
   cases f with
   |slice e0=>
    refine SR.bind (q8 e) λo u y i j=>?_;cases j;rw[r];exact j4
   |_=>first|exact j4|exact y6 s d a
  |_=>cases f<;>first|exact j4|exact y6 s d a
 |unsafePointer=>first|exact y6 s d a|(cases g<;>first|exact y6 s d a|(cases f<;>exact y6 s d a))
 |_=>cases f<;>first|exact j4|exact y6 s d a|(cases g<;>first|exact j4|exact y6 s d a)
end
section
variable {G:Nat} {p:Ren G} {R:Nat->Bool}
def PtR (q:Ren G) (v w:Vl):Prop:=∃a b,v=.pointer (some a)/\w=.pointer (some b)/\AR q a b
def PtR.vr {q:Ren G} {v w:Vl} (h:PtR q v w):VR ok q v w:=by
 obtain⟨a,b,rfl,rfl,h⟩:=h;exact .ptr h
variable {B:Vl}
def jfx (t:Tp) (j:VR ok p x Q) (k:VR ok p y B):SR ok A P PtR p (Builtin.unsafeAdd_ #[] t #[x,y]) (Builtin.unsafeAdd_ #[] t #[Q,B]):=by
 have i:∀{o o':Oa},vg (AR p) o o'->SR ok A P PtR p (Builtin.unsafeAdd_ #[] t #[.pointer o,y]) (Builtin.unsafeAdd_ #[] t #[.pointer o',B]):=by
  intro o o' f;unfold Builtin.unsafeAdd_;dsimp only;refine SR.bind (jf2 k) λq n y g e=>?_;cases e;split
  .cases o<;>cases o'<;>first|(cases f;done)|skip
   .exact j4
   refine SR.bind (jhp (AR.mono g f).blk) λm x y l e=>?_;rw[e.isSome];split
   .exact .dead (yw.bind (.halt (h:=.unsupported _) mq) _)
   exact qs ⟨_,_,rfl,rfl,AR.mono (g.trans l) f⟩
  split
  .exact .dead (yw.bind (.halt (h:=.unsupported _) mq) _)
  cases o<;>cases o'<;>first|(cases f;done)|skip
  .exact j4
  refine jf4 (AR.mono g f).blk λz=>?_;split
  .refine j5 ?_;rw[f.off];split
   .exact qs ⟨_,_,rfl,rfl,(AR.mono g f).blk,rfl,f.spot⟩
   exact j4
  exact j4
 cases j with
 |pnil=>exact i (o:=none) (o':=none) trivial
 |ptr ha=>exact i (o:=some _) (o':=some _) ha
 |_=>exact qk
def je7 (t:Tp) (i:VR ok p x Q) (g:VR ok p y B):SR ok A P (VR ok) p (movedNumber t x y) (movedNumber t Q B):=by
 refine SR.bind (q8 t) λq d u f e=>?_;cases e
 dsimp only;split
 .exact .dead (.halt trivial)
 cases i.mono f with
 |ptr ha=>
  dsimp only;refine SR.bind (y0 ha) λm a b j e=>?_;refine SR.bind (jfx t (.ptr e.1) (g.mono (f.trans j))) λn v w o k=>?_;obtain⟨r,s,rfl,rfl,l⟩:=k
  dsimp only;rw[<-e.2];exact jjr l _
 |pnil=>exact(jfx t (ok:=ok) .pnil (g.mono f)).mono λ_ _ _ _ h=>h.vr
 |_=>exact qk
def jjz (t:Tp) (i:VR ok p x Q) (f:VR ok p y B):SR ok A P (VR ok) p (movedPointer t x y) (movedPointer t Q B):=by
 unfold movedPointer;cases i with
 |ptr ha=>
  refine SR.bind (jjt ha.blk) λq a b g e=>?_;rw[e.isSome];split
  .exact .dead (yw.bind (.halt (h:=.unsupported _) mq) _)
  exact(jfx t (ok:=ok) (.ptr (ha.mono g)) (f.mono g)).mono λ_ _ _ _ h=>h.vr
 |pnil=>exact(jfx t (ok:=ok) .pnil f).mono λ_ _ _ _ h=>h.vr
 |_=>exact qk
variable {a b c d:Addr}
def jin (F:Fit G P ok C R) (f:AR p a b) (g:AR p c d):SR ok A P yk p (Op.twoPlaces a c) (Op.twoPlaces b d):=by
 refine j5 ?_;have i:=f.blk_iff g;have k:=p.low _ _ f.blk;rw[F.size,show (b.block !=d.block)=(a.block !=c.block) by rw[_root_.bne,_root_.bne,i],show decide (b.block≥G)=decide (a.block≥G)from decide_eq_decide.2 oe];split
 .exact .dead (yw.bind (.halt (h:=.unsupported _) mq) _)
 refine SR.bind (jfo f) λq x y j e=>?_;cases e;refine SR.bind (jfo (g.mono j)) λl x y m e=>?_;cases e;exact qs rfl
def jos (F:Fit G P ok C R) (k:IntKind) (f:AR p a b) (g:AR p c d):SR ok A P (VR ok) p (Op.addrSub k a c) (Op.addrSub k b d):=
 SR.bind (jin F f g) λq x y h e=>by cases e;exact qs (.int _ _)
def jor (F:Fit G P ok C R) (f:BinOp) (g:AR p a b) (h:AR p c d):SR ok A P (VR ok) p (Op.addrCmp f a c) (Op.addrCmp f b d):=
 SR.bind (jin F g h) λq x y i e=>by
  cases e;obtain⟨x,y⟩:=x;cases f<;>first|exact qs (.bool _)|exact j4
def jo9 (k:IntKind) (f:AR p a b) (n:Int):SR ok A P (VR ok) p (Op.addrMod k a n) (Op.addrMod k b n):=by
 refine jf4 f.blk λz=>?_;split
 .refine SR.bind (j6 _) λq x y g e=>?_;obtain⟨rfl,_⟩:=e
  dsimp only;split
  .exact .dead (yw.bind (.halt (h:=.unsupported _) mq) _)
  refine SR.bind (jfo (f.mono g)) λi x y j e=>?_;cases e;exact qs (.int _ _)
 exact j4
def jsv (F:Fit G P ok C R) (f:Fx R p) (e:BinOp) (k:IntKind) (x:Int) (j:IntKind) (y:Int):SR ok A P (VR ok) p (Op.shift e k x j y) (Op.shift e k x j y):=by
 unfold Op.shift;split
 .exact j7 F f _
 cases e<;>first|exact qs (.int _ _)|exact qk
def jsq (F:Fit G P ok C R) (f:Fx R p) (e:BinOp) (t:Tp) (k:IntKind) (a:Int) (j:IntKind) (b:Int):SR ok A P (VR ok) p (binOp e t (.int k a) (.int j b)) (binOp e t (.int k a) (.int j b)):=by
 have g:∀o,SR ok A P (VR ok) p (Op.intArith o k a b) (Op.intArith o k a b):=λo=>by cases o<;>first|exact qs (.int _ _)|exact qk
 have h:∀o,SR ok A P (VR ok) p (Op.intDiv o k a b) (Op.intDiv o k a b):=λo=>by
  unfold Op.intDiv;split
  .exact j7 F f _
  cases o<;>first|exact qs (.int _ _)|exact qk
 have i:∀o,SR ok A P (VR ok) p (Op.intBits o k a b) (Op.intBits o k a b):=λo=>by cases o<;>first|exact qs (.int _ _)|exact qk
 have l:∀o,SR ok A P (VR ok) p (Op.intCmp o a b) (Op.intCmp o a b):=λo=>by cases o<;>first|exact qs (.bool _)|exact qk
 unfold binOp;cases e<;>first|exact jsv F f _ _ _ _ _|(dsimp only;split<;>first|exact qk|exact g _|exact h _|exact i _|exact l _)
def jvr:Vl->Prop
 |.int _ _|.float _ _|.complex _ _ _|.string _|.pointer _=>False
 |_=>True
def jrr (e:BinOp) (t:Tp) (f:jvr x) (g:¬e=.eql) (i:¬e=.neq):yw (binOp e t x y):=by
 cases e<;>first|exact absurd rfl g|exact absurd rfl i|skip
 all_goals cases x<;>first|(cases f;done)|skip
 all_goals first|exact .halt (h:=.stuck _) trivial|(cases y<;>first|exact .halt (h:=.stuck _) trivial|exact .halt (h:=.unsupported _) trivial)
def jsb (F:Fit G P ok C R) (w:Fx R p) (f:BinOp) (t:Tp) (r:VR ok p x Q) (l:VR ok p y B):SR ok A P (VR ok) p (binOp f t x y) (binOp f t Q B):=by
 have g:SR ok A P (VR ok) p (do pure (.bool (<-Op.equal t x y)):Sem Vl) (do pure (.bool (<-Op.equal t Q B))):=SR.bind (jkv F w t r l) λq a b h e=>by cases e;exact qs (.bool _)
 have i:SR ok A P (VR ok) p (do pure (.bool !(<-Op.equal t x y)):Sem Vl) (do pure (.bool !(<-Op.equal t Q B))):=SR.bind (jkv F w t r l) λq a b h e=>by cases e;exact qs (.bool _)
 have s:=r;have v:=l;have T:∀{x Q:Vl},VR ok p x Q->∀{y B:Vl},VR ok p y B->SR ok A P (VR ok) p (do if (<-underlying t) matches .unsafePointer then movedPointer t x y else movedNumber t x y) (do if (<-underlying t) matches .unsafePointer then movedPointer t Q B else movedNumber t Q B):=λr _ _ l=>by
  refine SR.bind (q8 t) λq d u h e=>?_;cases e;split
  .exact jjz t (r.mono h) (l.mono h)
  exact je7 t (r.mono h) (l.mono h)
 have H:∀{a b:Addr},AR p a b->∀(k:IntKind) (n:Int),SR ok A P (VR ok) p (do Op.addrMod k (<-behindNumber a).1 n) (do Op.addrMod k (<-behindNumber b).1 n):=λm k n=>
  SR.bind (y0 m) λq x y h e=>jo9 k e.1 n
 have I:∀{a b c d:Addr},AR p a b->AR p c d->SR ok A P (VR ok) p (do Op.addrSub .u64 (<-behindNumber a).1 (<-behindNumber c).1) (do Op.addrSub .u64 (<-behindNumber b).1 (<-behindNumber d).1):=λm z=>
  SR.bind (y0 m) λq x y h e=>SR.bind (y0 (z.mono h)) λJ K L D E=>jos F _ (e.1.mono D) E.1
 have M:∀(o:BinOp) {a b c d:Addr},AR p a b->AR p c d->SR ok A P (VR ok) p (do Op.addrCmp o (<-behindNumber a).1 (<-behindNumber c).1) (do Op.addrCmp o (<-behindNumber b).1 (<-behindNumber d).1):=λo _ _ _ _ m z=>
  SR.bind (y0 m) λq x y h e=>SR.bind (y0 (z.mono h)) λJ K L D E=>jor F _ (e.1.mono D) E.1
 cases r with
 |int k a=>
  cases l with
  |int j b=>exact jsq F w f t k a j b
  |ptr hb=>cases f<;>first|exact g|exact i|exact j4|exact je7 t v s|exact H hb _ _
  |pnil=>cases f<;>first|exact g|exact i|exact j4|exact je7 t v s
  |_=>cases f<;>first|exact qk|exact g|exact i
 |string a=>
  cases l with
  |string b=>
   have e:∀o,binOp o t (.string a) (.string b)=Op.stringOp o a b:=λo=>by cases o<;>rfl
   rw[e];exact(jhd _ _ _).sr
  |ptr|pnil=>cases f<;>first|exact g|exact i|exact j4
  |_=>cases f<;>first|exact qk|exact g|exact i
 |ptr m=>
  cases l with
  |int k b=>cases f<;>first|exact g|exact i|exact j4|exact T s v|exact je7 t s (.int _ _)|exact H m _ _
  |ptr hb=>cases f<;>first|exact g|exact i|exact j4|exact I m hb|exact M _ m hb
  |_=>cases f<;>first|exact g|exact i|exact j4
 |pnil=>
  cases l with
  |int k b=>cases f<;>first|exact g|exact i|exact j4|exact T s v|exact je7 t s (.int _ _)
  |_=>cases f<;>first|exact g|exact i|exact j4
 |_=>
  rcases Classical.em (f=.eql)with rfl|N
  .exact g
  rcases Classical.em (f=.neq)with rfl|O
  .exact i
  exact .dead (jrr f t trivial N O)
end
section
variable {G:Nat} {p:Ren G} {B:String->Bool} {J:Nat->Bool}
variable {K:Vl}
def jrs (a:UnOp) (h:VR ok p x K):SR ok A P (VR ok) p (Op.unary a x) (Op.unary a K):=by
 cases h<;>cases a<;>first|exact qk|exact j4|exact qs (.int _ _)|exact qs (.bool _)
def jfw:∀(d:Nat) {p:Ren G} (t:Tp) {x K y L:Vl},VR ok p x K->VR ok p y L->SR ok A P yk p (Op.eqGuardIn d t x y) (Op.eqGuardIn d t K L)
 |0,p,t,x,K,y,L,b,c=>j4
 |d+1,p,t,x,K,y,L,b,c=>by
  unfold Op.eqGuardIn;refine SR.bind (q8 t) λq u y o e=>?_;cases e;have g:=b.mono o;have h:=c.mono o;cases u with
  |interface ms=>cases g<;>first|exact qs rfl|(cases h<;>exact qs rfl)
  |struct fs=>
   cases g with
   |agg s1 e1=>
    cases h with
    |agg s2 e2=>
     have i:VA ok q _ _:=⟨s1,e1⟩;have j:VA ok q _ _:=⟨s2,e2⟩;dsimp only;refine SR.bind (R:=yk) (jmk fs (λk f s t a e=>?_) rfl) λk x y a e=>?_
     .cases e;split
      .refine SR.bind (jfe _ (VA.mono a i) _) λz x y l b=>?_;refine SR.bind (jfe _ (VA.mono (a.trans l) j) _) λC D E m c=>?_;refine SR.bind (jfw d _ (b.mono m) c) λF x y H e=>?_;cases e;split
       .exact qs (.done rfl)
       exact qs (.yield rfl)
      exact qs (.yield rfl)
     cases e;split<;>exact qs rfl
    |_=>exact qs rfl
   |_=>exact qs rfl
  |array n el=>
   cases g with
   |agg s1 e1=>
    cases h with
    |agg s2 e2=>
     have i:VA ok q _ _:=⟨s1,e1⟩;have j:VA ok q _ _:=⟨s2,e2⟩;dsimp only;refine SR.bind (yc _) λI n y r e=>?_;cases e;refine SR.bind (R:=yk) (jmp _ (λk f s t a e=>?_) rfl) λk x y a e=>?_
     .cases e;refine SR.bind (jfe _ (VA.mono (r.trans a) i) _) λz x y l b=>?_;refine SR.bind (jfe _ (VA.mono ((r.trans a).trans l) j) _) λC D E m c=>?_;refine SR.bind (jfw d _ (b.mono m) c) λF x y H e=>?_;cases e;split
      .exact qs (.done rfl)
      exact qs (.yield rfl)
     cases e;split<;>exact qs rfl
    |_=>exact qs rfl
   |_=>exact qs rfl
  |_=>first|exact qs rfl|(cases g<;>exact qs rfl)
def jo6 (c:BinOp) (t:Tp) (x y:Operand) {a i b j:Vl} (f:VR ok p a i) (d:VR ok p b j):SR ok A P yk p (eqGuard c t x y a b) (eqGuard c t x y i j):=by
 have g:SR ok A P yk p (do if <-Op.eqGuardIn Op.maxDepth t .nilIface .nilIface then unsupported (.noEntry "binop/eql: two nil values of an interface type with methods, neither of them the literal nil"):Sem Unit) (do if <-Op.eqGuardIn Op.maxDepth t .nilIface .nilIface then unsupported (.noEntry "binop/eql: two nil values of an interface type with methods, neither of them the literal nil")):=by
  refine SR.bind (jfw _ t .nilIface .nilIface) λq x y h e=>?_;cases e;split
  .exact j4
  exact qs rfl
 cases c<;>first|exact qs rfl|skip
 all_goals
  cases f with
  |nilIface=>
   cases d with
   |nilIface=>cases x<;>cases y<;>first|exact qs rfl|exact g
   |_=>exact qs rfl
  |agg s1 e1=>
   cases d with
   |agg s2 e2=>
    refine j5 (j5 ?_);split
    .exact qs rfl
    refine SR.bind (jfw _ t (.agg s1 e1) (.agg s2 e2)) λq x y h e=>?_;cases e;split
    .exact j4
    exact qs rfl
   |_=>exact qs rfl
  |_=>exact qs rfl
def jse (F:Fit G P ok B J) (c:Fx J p) (h:VR ok p x K):SR ok A P (VR ok) p (Instr.panic x) (Instr.panic K):=by
 cases h with
 |iface t h=>exact ve (.iface t h)
 |nilIface=>
  refine SR.bind (R:=yk) ?_ λq a b d e=>?_
  .unfold Instr.panicnil;refine .sys λr=>?_
   cases r<;>first|exact qk|exact .program (.pure rfl)
  cases e;split
  .exact ve .nilIface
  exact j7 F (c.mono d) _
 |_=>exact qk
inductive PlR (ok:Fi->Bool) (p:Ren G):Place->Place->Prop
 |val {v w:Vl}:VR ok p v w->PlR ok p (.val v) (.val w)
 |var {a b:Addr}:AR p a b->PlR ok p (.var a) (.var b)
def PlR.mono {q:Ren G} (h:p.Le q) {a b:Place} (r:PlR ok p a b):PlR ok q a b:=by
 cases r with
 |val r=>exact .val (r.mono h)
 |var r=>exact .var (r.mono h)
variable {y:Place}
def jhl (t:Tp) {x:Place} (h:PlR ok p x y):SR ok A P (VR ok) p (x.get t) (y.get t):=by
 cases h with
 |val h=>exact qs h
 |var h=>exact je6 t h
def jhv (F:Fit G P ok B J):∀(l:List FieldStep) {p:Ren G} (r:Fx J p) (t:Tp) {x y:Place},PlR ok p x y->SR ok A P (λq (a b:Tp×Place)=>a.1=b.1/\PlR ok q a.2 b.2) p (follow l t x) (follow l t y)
 |[],p,r,t,x,y,h=>qs ⟨rfl,h⟩
 |s::l,p,r,t,x,y,h=>by
  unfold follow;refine SR.bind (q8 _) λq d y f e=>?_;cases e;split
  rotate_left
  .exact qk
  split;rotate_left
  .exact qk
  split
  .refine SR.bind (jhl t (h.mono f)) λn v w j g=>?_;refine SR.bind (jgt F (r.mono (f.trans j)) g) λo a b m c=>?_;refine SR.bind (jgi c _) λk a b i c=>?_;exact jhv F l (r.mono (((f.trans j).trans m).trans i)) _ (.var c)
  cases h.mono f with
  |var c=>
   refine SR.bind (jgi c _) λk a b i c=>?_;exact jhv F l (r.mono (f.trans i)) _ (.var c)
  |val g=>
   cases g with
   |agg s1 e1=>
    refine SR.bind (jfe _ ⟨s1,e1⟩ _) λk v w i g=>?_;exact jhv F l (r.mono (f.trans i)) _ (.val g)
   |_=>exact qk
def joy (F:Fit G P ok B J) (c:Fx J p) (a:Tp) (h:VR ok p v w) (n:String):SR ok A P (VR ok) p (Builtin.ssaWrapNilChk_ #[a] a #[v,strVal "",strVal n]) (Builtin.ssaWrapNilChk_ #[a] a #[w,strVal "",strVal n]):=by
 cases h with
 |ptr ha=>exact qs (.ptr ha)
 |pnil=>
  have g:∀{q:Ren G} {m:Sem Vl},(∀{q:Ren G},Fx J q->SR ok A P (VR ok) q m m)->Fx J q->SR ok A P (VR ok) q m m:=λh b=>h b;show SR ok A P (VR ok) p (choose _>>=λk=>_) (choose _>>=λk=>_);refine y8 λk=>?_
  dsimp only;split
  .exact jff F c _
  try dsimp only
  refine SR.bind (q8 _) λq d y b e=>?_;cases e;split
  rotate_left
  .exact qk
  refine SR.bind (j6 _) λi d y f e=>?_;obtain⟨rfl,_⟩:=e
  repeat' split
  all_goals first|exact qk|exact j4|exact j7 F (c.mono (b.trans f)) _
 |_=>exact qk
def jlg (F:Fit G P ok B J) (l:Fx J p) (c:Tp) {x:Place} (h:PlR ok p x y) (b:Bool) (n:Option String):SR ok A P (VR ok) p (receiverAt c x b n) (receiverAt c y b n):=by
 refine SR.bind (q8 _) λq d z i e=>?_;cases e;have j:=h.mono i
 have r:∀(f:Tp),SR ok A P (VR ok) q (do
  let ptr <-x.get c
  let ptr <-match n with
        |some name=>Builtin.ssaWrapNilChk_ #[c] c #[ptr,strVal "",strVal name]
        |none=>pure ptr
  loadVar f (<-asAddr ptr)) (do
  let ptr <-y.get c
  let ptr <-match n with
        |some name=>Builtin.ssaWrapNilChk_ #[c] c #[ptr,strVal "",strVal name]
        |none=>pure ptr
  loadVar f (<-asAddr ptr)):=λf=>by
  refine SR.bind (jhl c j) λt v w m k=>?_;cases n with
  |none=>
   simp only[pure_bind];exact SR.bind (jgt F (l.mono (i.trans m)) k) λs a b o g=>je6 _ g
  |some n=>
   refine SR.bind (joy F (l.mono (i.trans m)) c k n) λs v w o k=>?_;exact SR.bind (jgt F (l.mono ((i.trans m).trans o)) k) λu a b C g=>je6 _ g
 cases b with
 |true=>
  cases d with
  |pointer f=>exact jhl c j
  |_=>
   cases j with
   |var g=>exact qs (.ptr g)
   |val=>exact qk
 |false=>
  cases d with
  |pointer f=>cases n<;>exact r f
  |_=>exact jhl c j
def jlv (F:Fit G P ok B J) (n:String) (o:B n=true):∀(d:Nat) {p:Ren G} (L:Fx J p) (t:Tp) {v w:Vl},VR ok p v w->SR ok A P (λq (a b:Fi×Vl)=>a.1=b.1/\ok a.1=true/\VR ok q a.2 b.2) p (method d t v n) (method d t w n)
 |0,p,L,t,v,w,h=>j4
 |d+1,p,L,t,v,w,h=>by
  unfold method;refine SR.bind (j6 _) λq i y c e=>?_;obtain⟨rfl,z⟩:=e;split
  rotate_left
  .exact qk
  rename_i m r;refine SR.bind (jhv F _ (L.mono c) t (.val (h.mono c))) λH a b j e=>?_;obtain⟨s,x⟩:=a;obtain⟨I,K⟩:=b;obtain⟨u,k⟩:=e;simp only at u k;subst u
  dsimp only;cases hf:m.func with
  |none=>
   dsimp only;refine SR.bind (jhl s k) λC v w l g=>?_;cases g with
   |iface t' g=>exact jlv F n o d (L.mono ((c.trans j).trans l)) t' g
   |nilIface=>exact j7 F (L.mono ((c.trans j).trans l)) _
   |_=>exact qk
  |some fb=>
   obtain⟨f,b⟩:=fb;dsimp only;have D:m∈i.methods:=Array.mem_of_find?_eq_some r;have E:m.name=n:=by have:=Array.find?_some r;simpa using this
   refine SR.bind (jlg F (L.mono (c.trans j)) s k b _) λC v w l g=>qs ⟨rfl,F.meth t i m f b z D (by rw[E];exact o) hf,g⟩
end
section
variable {G:Nat} {p:Ren G} {B:String->Bool}
inductive NR (ok:Fi->Bool) (A:Code->Bool) (q:Ren G):Next->Next->Prop
 |value {v w:Vl}:VR ok q v w->NR ok A q (.value v) (.value w)
 |skip:NR ok A q .skip .skip
 |enter {f:Fi} {a b:Av}:ok f=true->VA ok q a b->NR ok A q (.enter f a) (.enter f b)
 |round {l m:Nat} (f:Fi) {a b:Av} {x y:Code}:ok RF=true->q.f l=some m->VA ok q a b->A x=true->A y=true->NR ok A q (.round l f a x y) (.round m f b x y)
 |defer {d e:Deferred}:DR ok q d e->NR ok A q (.defer d) (.defer e)
 |recover:NR ok A q .recover .recover
structure joo (G:Nat) (P:Pq) (ok:Fi->Bool) (A:Code->Bool) (B:String->Bool) (E:Nat->Bool):Prop where
 fit:Fit G P ok B E
 nf:∀t k,P.underlying t≠some (.float k)/\P.underlying t≠some (.complex k)
 num:∀f fn,ok f=true->P.funcs[f]?=some fn->(fn.name== "runtime.NumGoroutine")=false
 next:∀f fn,ok f=true->P.funcs[f]?=some fn->fn.body=none->Extern.findNext fn=none
 lib:∀f fn e,ok f=true->P.funcs[f]?=some fn->fn.body=none->Extern.find fn=some e->∀(p:Ren G),Fx E p->∀a b,VA ok p a b->SR ok A P (VR ok) p (e a) (e b)
def jjs (F:joo G P ok A B E) (i:Fx E p) {f:Fi} (d:ok f=true) (h:VA ok p a b):SR ok A P (NR ok A) p (callFunc f a) (callFunc f b):=by
 refine j5 ?_;cases hfn:P.funcs[f]?with
 |none=>exact qk
 |some fn=>
  dsimp only;rw[F.num f fn d hfn];simp only[Bool.false_eq_true,if_false];cases hb:fn.body with
  |some c=>exact qs (.enter d h)
  |none=>
   simp only[Option.isNone_none,if_true,F.next f fn d hfn hb];refine SR.bind (jpp (R:=yk) trivial rfl) λq _ _ g _=>?_;cases he:Extern.find fn with
   |some e=>
    dsimp only;exact SR.bind (F.lib f fn e d hfn hb he q (i.mono g) _ _ (VA.mono g h)) λk v w n j=>qs (.value j)
   |none=>
    dsimp only;split
    .exact qs (.value (VR.tupA Arr.nil))
    exact j4
def jlk (F:joo G P ok A B E) (c:Fx E p) {n:String} (o:B n=true) {v w:Vl} (d:VR ok p v w) (h:VA ok p a b):SR ok A P (NR ok A) p (callMethod v n a) (callMethod w n b):=by
 cases d with
 |iface t d=>
  refine j5 ?_;refine SR.bind (jlv F.fit n o _ c t d) λq x y g e=>?_;obtain⟨f,r⟩:=x;obtain⟨s,r'⟩:=y;obtain⟨i,j,k⟩:=e;simp only at i j k;subst i;exact jjs F (c.mono g) j ((Arr.one k).append (VA.mono g h))
 |nilIface=>exact j7 F.fit c .nilDeref
 |_=>exact qk
variable {l m:Nat}
def jfm (h:p.f l=some m):SR ok A P (λq r s=>LoR ok A q r s/\odd l=false) p (Instr.getLoop l) (Instr.getLoop m):=by
 refine y4 h λo e c d=>?_;cases d with
 |loop r=>exact qs ⟨r,c⟩
 |_=>exact qk
def jms (fn:Fi) (h:VA ok p a b) (g:Array Tmp) {x y:Code} (k:A x=true) (n:A y=true) {o F:Option Nat} (i:vg (λr s=>p.f r=some s) o F):
 SR ok A P (λq (u v:Nat×List Deferred)=>q.f u.1=some v.1/\LR (DR ok q) u.2 v.2) p (Instr.enterLoop fn a g x y o) (Instr.enterLoop fn b g x y F):=by
 have j:∀{q:Ren G},p.Le q->∀{d I:Nat} {l H:List Deferred},q.f d=some I->LR (DR ok q) l H->SR ok A P (λq (u v:Nat×List Deferred)=>q.f u.1=some v.1/\LR (DR ok q) u.2 v.2) q (do pure (<-newObj (.loop {state:=.ready,pending:=none,fn,tmps:=a,params:=g,assign:=x,body:=y,defers:=d}),l)) (do pure (<-newObj (.loop {state:=.ready,pending:=none,fn,tmps:=b,params:=g,assign:=x,body:=y,defers:=I}),H)):=λc _ _ _ _ t w=>
  SR.bind (je9 (R:=λq r s=>q.f r=some s) (.loop ⟨rfl,rfl,oi,rfl,VA.mono c h,rfl,rfl,k,rfl,n,t⟩) λq r s _ e=>e) λC r s z e=>qs ⟨e,w.mono λ_ _=>DR.mono z⟩
 unfold Instr.enterLoop;cases o with
 |none=>
  cases F with
  |some=>cases i
  |none=>
   dsimp only;refine SR.bind (je9 (R:=λq r s=>q.f r=some s) (.deferred .nil) λq r s _ e=>e) λq r s c e=>?_;simp only[pure_bind];exact j c e (.cons ⟨.collected e,Arr.nil⟩ .nil)
 |some l=>
  cases F with
  |none=>cases i
  |some H=>
   dsimp only;refine SR.bind (jfm i) λq r s c ⟨e,D⟩=>?_;simp only[pure_bind];exact j c e.defers .nil
def jl3 {a b:Av} (h:VA ok p a b):∀{x y:Lv} (d:List Tmp),LR (VR ok p) x y->∀{a b:Av},VA ok p a b->VA ok p ((d.zip x).foldl (λt (i,v)=>t.setIfInBounds i v) a) ((d.zip y).foldl (λt (i,v)=>t.setIfInBounds i v) b)
 |_,_,[],_,_,_,h=>h
 |_,_,_::_,.nil,_,_,h=>h
 |_,_,i::d,.cons h1 h2,_,_,h=>by
  simp only[List.zip_cons_cons,List.foldl_cons];exact jl3 h d h2 (h.set i h1)
def jrm (g:ok RF=true) (c:p.f l=some m) (h:VA ok p a b):SR ok A P (NR ok A) p (Instr.yield l a) (Instr.yield m b):=by
 refine SR.bind (jfm c) λq r s d ⟨e,i⟩=>?_;rw[<-h.size,e.params]
 dsimp only;split
 .exact .dead (yw.bind (.halt (h:=.stuck _) trivial) _)
 rw[e.fn,e.assign,e.body];refine qs (.round _ g (d _ _ c) ?_ e.assignOk e.bodyOk);rw[<-Array.foldl_toList,<-Array.foldl_toList,Array.toList_zip,Array.toList_zip];exact jl3 e.tmps _ (VA.mono d h).list e.tmps
def jll (F:Fit G P ok B E) (g:Fx E p) (c:p.f l=some m):SR ok A P yk p (Instr.beginRound l) (Instr.beginRound m):=by
 refine SR.bind (jfm c) λq r s d ⟨e,h⟩=>?_;refine je8 (d _ _ c) h (.loop ⟨rfl,e.pending,e.pendOk,e.fn,e.tmps,e.params,e.assign,e.assignOk,e.body,e.bodyOk,e.defers⟩) ?_;rw[e.state]
 cases r.state<;>first|exact qs rfl|exact j7 F (g.mono d) _
def jnm (d:p.f l=some m) (j:Option Code) (g:∀c,j=some c->A c=true):SR ok A P (VR ok) p (Instr.endRound l j) (Instr.endRound m j):=by
 refine SR.bind (jfm d) λq r s h ⟨e,i⟩=>?_;exact je8 (h _ _ d) i (.loop ⟨rfl,rfl,g,e.fn,e.tmps,e.params,e.assign,e.assignOk,e.body,e.bodyOk,e.defers⟩) (qs (.bool _))
def joi (F:Fit G P ok B E) (h:Fx E p) (d:p.f l=some m):SR ok A P (λ_ a b=>a=b/\∀c,a=some c->A c=true) p (Instr.endLoop l) (Instr.endLoop m):=by
 refine SR.bind (jfm d) λq r s g ⟨e,i⟩=>?_;rw[e.state]
 dsimp only;split
 .exact jff F (h.mono g) _
 rw[e.pending];exact je8 (g _ _ d) i (.loop ⟨rfl,rfl,e.pendOk,e.fn,e.tmps,e.params,e.assign,e.assignOk,e.body,e.bodyOk,e.defers⟩) (qs ⟨rfl,e.pendOk⟩)
def jjy (g:p.f l=some m) {d c:Deferred} (i:DR ok p d c):SR ok A P yk p (Instr.deferInRound l d) (Instr.deferInRound m c):=by
 refine SR.bind (jfm g) λq r s j ⟨e,t⟩=>?_;refine y4 e.defers λo w k n=>?_;cases n with
 |deferredN=>exact jro
 |deferred h=>exact jh5 e.defers k (.deferred (.cons (i.mono j) h)) rfl
 |_=>exact qk
def jj3 (c:p.f l=some m):SR ok A P (λq=>LR (DR ok q)) p (Instr.takeDeferred l) (Instr.takeDeferred m):=by
 refine y4 c λo i d e=>?_;cases e with
 |deferred h=>exact je8 c d .deferredN (qs h)
 |_=>exact qk
def okB (P:Pq) (b:Builtin) (ts:Array Tp):Bool:=
 match b with
 |.append|.cap|.clear|.copy|.delete|.len|.max|.min|.recover|.unsafeSliceData|.unsafeString=>true
 |_=>false
def jo1 (F:joo G P ok A B E) (d:Fx E p) {b:Builtin} {c:Array Tp} (f:okB P b c=true) (t:Tp) (i:Array Bool) {x y:Av} (h:VA ok p x y):SR ok A P (NR ok A) p (builtin b c t i x) (builtin b c t i y):=by
 have v:∀{m j:Sem Vl},SR ok A P (VR ok) p m j->SR ok A P (NR ok A) p (do pure (.value (<-m))) (do pure (.value (<-j))):=λh=>SR.bind h λq a b g e=>qs (.value e);cases b with
 |append=>
  exact v (jqv F.fit d c t h)
 |cap=>exact v (jus c t h)
 |clear=>exact v (jst F.fit c t h)
 |copy=>exact v (jt3 c t h)
 |delete=>exact v (jqo F.fit d c t h)
 |len=>exact v (ju3 c t h)
 |max=>exact v (juy c t h)
 |min=>exact v (juv c t h)
 |recover=>exact qs .recover
 |unsafeSliceData=>exact v (jid c t h)
 |unsafeString=>exact v (jj0 F.fit d c t h)
 |_=>cases f
end
section
variable {G:Nat} {ok:Fi->Bool} {P:Pq} {p:Ren G} {C:String->Bool} {S:Nat->Bool}
def ji8 (F:joo G P ok A C S) (c:Fx S p) {t u:Target} (h:TR ok p t u) (d:VA ok p a b):SR ok A P (NR ok A) p (invoke t a) (invoke u b):=by
 cases h with
 |fn hf hc=>
  cases hf with
  |func e=>exact jjs F c e (d.append hc)
  |yield rf e=>exact jrm rf e d
 |nil=>exact j7 F.fit c .nilDeref
 |collected=>exact qk
def jh4 {f g:Vl} (h:VR ok p f g) (c:VA ok p a b):SR ok A P (DR ok) p (Deferred.ofValue f a) (Deferred.ofValue g b):=by
 cases h with
 |func d e i j k=>exact qs ⟨.fn d ⟨j,k⟩,Arr.append ⟨e,i⟩ c⟩
 |nilFunc=>exact qs ⟨.nil,c⟩
 |_=>exact qk
def jsp:Vl->Bool
 |.bool _|.int _ _|.string _|.nilFunc|.nilIface|.pointer none|.slice none _ _|.map none=>true
 |_=>false
def jvb {v:Vl} (h:jsp v=true):VR ok p v v:=by
 unfold jsp at h;split at h<;>first|constructor|cases h
section
variable (ok:Fi->Bool) (C:String->Bool) (S:Nat->Bool) (P:Pq)
def okX:Operand->Bool
 |.tmp _=>true
 |.const v=>jsp v
 |.global g=>S g
 |.func f=>ok f
def jov (c:Call):Bool:=
 c.args.all (okX ok S)&&match c.callee with
    |.value f=>okX ok S f
    |.invoke r n=>okX ok S r&&C n
    |.builtin b=>okB P b c.argTypes
def jmr (c:Call):Bool:=
 c.args.all (okX ok S)&&match c.callee with
    |.value f=>okX ok S f
    |_=>false
def jf7:Op->Bool
 |.move x|.assign x|.box _ x|.load _ x|.nilCheck x|.unOp _ _ x|.makeInterface _ x|.fieldAddr _ x _|.range _ x|.next x _|.entry x|.typeAssert x _ _ _|.extract x _|.panic x=>okX ok S x
 |.alloc _=>true
 |.convert s d x=>s !=d&&okX ok S x
 |.pick c a b=>okX ok S c&&okX ok S a&&okX ok S b
 |.build _ ps|.buildSlice _ _ ps=>ps.all λx=>okX ok S x.2
 |.store _ a v|.binOp _ _ a v _|.makeSlice _ a v|.indexAddr _ a v|.index _ a v|.lookup _ a v _=>okX ok S a&&okX ok S v
 |.insert _ m k v|.mapUpdate _ m k v=>okX ok S m&&okX ok S k&&okX ok S v
 |.makeFunc (.func f) a b=>ok f&&a.all (okX ok S)&&b.all (okX ok S)
 |.makeMap _ none=>true
 |.makeMap _ (some x)=>okX ok S x
 |.slice _ x l h m=>okX ok S x&&l.all (okX ok S)&&h.all (okX ok S)&&m.all (okX ok S)
 |.call c=>jov ok C S P c
 |.defer c=>jmr ok S c
 |_=>false
end
def jmq {α:Type} {f:α->Bool} {l:Array α} (h:l.all f=true):∀x∈l,f x=true:=λx c=>by
 obtain⟨i,d,rfl⟩:=Array.mem_iff_getElem.1 c;exact Array.all_eq_true.1 h i d
variable {D B:Operand->Vl}
def jmi (e:∀x,okX ok S x=true->VR ok p (D x) (B x)) {l:Array Operand} (h:l.all (okX ok S)=true):VA ok p (l.map D) (l.map B):=by
 refine⟨oi,λi x y c d=>?_⟩;rw[Array.getElem?_map]at c d;cases hl:l[i]?with
 |none=>rw[hl]at c;cases c
 |some o=>
  rw[hl]at c d;cases c;cases d;exact e o (jmq h o (mS hl))
def jmt (c:∀x,okX ok S x=true->VR ok p (D x) (B x)) {o:Option Operand} (h:o.all (okX ok S)=true):vg (VR ok p) (o.map D) (o.map B):=by
 cases o with
 |none=>trivial
 |some x=>exact c x oM
def jrg (e:∀x,okX ok S x=true->VR ok p (D x) (B x)) {l:Array (Nat×Operand)} (h:(l.all λx=>okX ok S x.2)=true):Arr (PrR ok p) (l.map λ(i,x)=>(i,D x)) (l.map λ(i,x)=>(i,B x)):=by
 refine⟨oi,λi x y c d=>?_⟩;rw[Array.getElem?_map]at c d;cases hl:l[i]?with
 |none=>rw[hl]at c;cases c
 |some o=>
  rw[hl]at c d;cases c;cases d;exact⟨rfl,e _ (jmq h o (mS hl))⟩
def js3 (F:joo G P ok A C S) (j:Fx S p) (k:∀x,okX ok S x=true->VR ok p (D x) (B x)) (c:Call) (g:jov ok C S P c=true) (t:Tp):
 SR ok A P (NR ok A) p (do let d <-resolve D c t;invoke d.target d.args) (do let d <-resolve B c t;invoke d.target d.args):=by
 obtain⟨callee,args,w⟩:=c;unfold jov at g;simp only[Bool.and_eq_true]at g;have m:=jmi k g.1;cases callee with
 |value f=>exact SR.bind (jh4 (k f g.2) m) λq d e o h=>ji8 F (j.mono o) h.target h.args
 |builtin b=>exact jo1 F j g.2 t _ m
 |invoke r n=>
  simp only[Bool.and_eq_true]at g;have s:=k r g.2.1;show SR ok A P (NR ok A) p (invoke (.fn (.method n) #[]) (#[D r]++args.map D)) (invoke (.fn (.method n) #[]) (#[B r]++args.map B));unfold invoke;have u:∀(x:Vl) (l:Av),(#[x]++l)[0]?=some x:=λx l=>by rw[Array.getElem?_append];rfl
  have v:∀(x:Vl) (l:Av),(#[x]++l).extract 1 (#[x]++l).size=l:=λx l=>by apply Array.ext_getElem?;intro i;simp[Array.getElem?_extract,Array.getElem?_append]
  simp only[u,v];exact jlk F j g.2.2 s m
def jjn (e:∀x,okX ok S x=true->VR ok p (D x) (B x)) (c:Call) (d:jmr ok S c=true) (t:Tp):SR ok A P (DR ok) p (resolve D c t) (resolve B c t):=by
 obtain⟨callee,args,g⟩:=c;unfold jmr at d;simp only[Bool.and_eq_true]at d;cases callee with
 |value f=>exact jh4 (e f d.2) (jmi e d.1)
 |builtin b=>simp at d
 |invoke r n=>simp at d
def jqd (F:joo G P ok A C S) (w:Fx S p) (j:∀x,okX ok S x=true->VR ok p (D x) (B x)) (o:Oper) (g:jf7 ok C S P o.op=true):SR ok A P (NR ok A) p (execOp D o) (execOp B o):=by
 have v:∀{m T:Sem Vl},SR ok A P (VR ok) p m T->SR ok A P (NR ok A) p (do pure (.value (<-m))) (do pure (.value (<-T))):=λh=>SR.bind h λq a b z e=>qs (.value e);have u:∀{m T:Sem Unit},SR ok A P yk p m T->SR ok A P (NR ok A) p (do m;pure .skip) (do T;pure .skip):=λh=>SR.bind h λq a b z e=>qs .skip;obtain⟨N,E,O,pos,Q,R⟩:=o;simp only at g;unfold execOp;cases E with
 |move x=>exact qs (.value (j x g))
 |assign x=>exact qs (.value (j x g))
 |pick c a b=>
  simp only[jf7,Bool.and_eq_true]at g;refine SR.bind (jqs (j c g.1.1)) λq x y z e=>?_;cases e;refine qs (.value ?_);split
  .exact(j a g.1.2).mono z
  exact(j b g.2).mono z
 |alloc t=>exact v (jrt F.fit t _ _)
 |box t x=>exact v (ju6 t (j x g))
 |build t ps=>exact v (jsi F.fit t (jrg j g))
 |buildSlice t n ps=>exact v (jlj F.fit t n (jrg j g))
 |load t a=>exact v (jq4 t (j a g))
 |store t a x=>
  simp only[jf7,Bool.and_eq_true]at g;exact u (jom t (j a g.1) (j x g.2))
 |nilCheck x=>
  have h:=j x g;dsimp only;generalize D x=v1,B x=v2 at h;have H:=h;cases h with
  |pnil|nilIface|nilFunc=>exact j7 F.fit w _
  |func I J K L M=>cases I<;>exact qs (.value (.func (by first|exact .func mj|exact .yield mj mj) J K L M))
  |_=>exact qs (.value H)
 |binOp E t x y yt=>
  simp only[jf7,Bool.and_eq_true]at g;refine v ?_;refine SR.bind (jo6 E t x y (j x g.1) (j y g.2)) λq _ _ z _=>?_;exact jsb F.fit (w.mono z) E t ((j x g.1).mono z) ((j y g.2).mono z)
 |unOp E t x=>exact v (jrs E (j x g))
 |convert s d x=>
  simp only[jf7,Bool.and_eq_true,bne_iff_ne,ne_eq]at g;exact v (joq F.nf s d (beq_eq_false_iff_ne.2 g.1) (j x g.2))
 |makeInterface t x=>exact v (jiz t (j x g))
 |makeFunc fn a b=>
  cases fn with
  |func f=>
   simp only[jf7,Bool.and_eq_true]at g;exact v (jn2 g.1.1 (jmi j g.1.2) (jmi j g.2))
  |_=>cases g
 |makeMap t r=>
  cases r with
  |none=>exact v (jks t (r:=none) (s:=none) trivial)
  |some x=>exact v (jks t (r:=some _) (s:=some _) (j x g))
 |makeSlice t l c=>
  simp only[jf7,Bool.and_eq_true]at g;exact v (jmz F.fit w t (j l g.1) (j c g.2))
 |slice t x l h m=>
  simp only[jf7,Bool.and_eq_true]at g;exact v (jo7 F.fit w t (j x g.1.1.1) (jmt j g.1.1.2) (jmt j g.1.2) (jmt j g.2))
 |fieldAddr s x f=>exact v (jpa s (j x g) f)
 |indexAddr t x i=>
  simp only[jf7,Bool.and_eq_true]at g;exact v (jod F.fit w t (j x g.1) (j i g.2))
 |index t x i=>
  simp only[jf7,Bool.and_eq_true]at g;exact v (jsy F.fit w t (j x g.1) (j i g.2))
 |lookup t x i b=>
  simp only[jf7,Bool.and_eq_true]at g;exact v (jp1 F.fit w t (j x g.1) (j i g.2) b)
 |mapUpdate t m k x=>
  simp only[jf7,Bool.and_eq_true]at g;exact u (jio F.fit w t (j m g.1.1) (j k g.1.2) (j x g.2))
 |insert t m k x=>
  simp only[jf7,Bool.and_eq_true]at g;exact u (jio F.fit w t (j m g.1.1) (j k g.1.2) (j x g.2))
 |range t x=>exact v (jrz t (j x g))
 |next x b=>exact v (jtd _ _ (j x g) b _)
 |entry x=>exact v (jrp (j x g))
 |typeAssert x xt ts c=>exact v (jli F.fit w (j x g) xt ts c)
 |extract x i=>exact v (joz (j x g) i)
 |call c=>exact js3 F w j c g _
 |defer c=>exact SR.bind (jjn j c g _) λq a b z e=>qs (.defer e)
 |panic x=>exact v (jse F.fit w (j x g))
 |_=>cases g
end
section
variable {G:Nat} {p:Ren G} {B:String->Bool}
def q14 (ok:Fi->Bool) (A:Code->Bool) (P:Pq) (gl:Nat->Bool) (G:Nat) (e:Av->Sem Vl):Prop:=∀(p:Ren G),Fx gl p->∀a b,VA ok p a b->SR ok A P (VR ok) p (e a) (e b)
variable {e:Av->Sem Vl}
def jo0 (c:∀l:Lv,l.length≠1->∃s,e ⟨l⟩=stuck s) (h:∀(p:Ren G) (d:Fx gl p) {x y:Vl},VR ok p x y->SR ok A P (VR ok) p (e #[x]) (e #[y])):q14 ok A P gl G e:=by
 intro p d a b i;obtain⟨l⟩:=a;obtain⟨m⟩:=b;have g:=i.list;simp only at g;match g with
 |.cons h1 .nil=>exact h p d h1
 |.nil=>obtain⟨s,e⟩:=c [] oi;rw[e];exact qk
 |.cons (l:=x::xs) h1 h2=>obtain⟨s,e⟩:=c (_::x::xs) oi;rw[e];exact qk
def jrf (c:∀l:Lv,l.length≠2->∃s,e ⟨l⟩=stuck s) (h:∀(p:Ren G) (d:Fx gl p) {x y u v:Vl},VR ok p x y->VR ok p u v->SR ok A P (VR ok) p (e #[x,u]) (e #[y,v])):q14 ok A P gl G e:=by
 intro p d a b i;obtain⟨l⟩:=a;obtain⟨m⟩:=b;have g:=i.list;simp only at g;match g with
 |.cons h1 (.cons h2 .nil)=>exact h p d h1 h2
 |.nil=>obtain⟨s,e⟩:=c [] oi;rw[e];exact qk
 |.cons (a:=x) h1 .nil=>obtain⟨s,e⟩:=c [x] oi;rw[e];exact qk
 |.cons (a:=x) h1 (.cons (a:=y) (l:=z::zs) h2 h3)=>obtain⟨s,e⟩:=c (x::y::z::zs) oi;rw[e];exact qk
def jjj {a b:Addr}:∀(n:Nat) {p:Ren G} {a b:Addr} (acc:By),AR p a b->SR ok A P yk p (Extern.Bytes.loadBytes a n acc) (Extern.Bytes.loadBytes b n acc)
 |0,p,a,b,acc,ha=>qs rfl
 |n+1,p,a,b,acc,ha=>SR.bind (jip ha) λq v w c d=>by
  cases d with
  |int k z=>cases k<;>first|exact qk|exact jjj (a:=a) (b:=b) n _ ((ha.mono c).add 1)
  |_=>exact qk
def jh8 (h:VR ok p v w):SR ok A P yk p (Extern.Bytes.bytesOf v) (Extern.Bytes.bytesOf w):=by
 cases h with
 |string=>exact qs rfl
 |snil=>exact qs rfl
 |slice l c ha=>exact jjj (a:=default) (b:=default) _ _ ha
 |_=>exact qk
def jml:q14 ok A P gl G Extern.AbiNoEscape.same:=by
 refine jo0 (λl h=>?_) λp d x y c=>qs c
 match l with
 |[]=>exact⟨_,rfl⟩
 |[x]=>exact absurd rfl h
 |x::y::l=>exact⟨_,rfl⟩
def jlr:q14 ok A P gl G Extern.BytealgIndexByte.indexByte:=by
 refine jrf (λl h=>?_) λp hp {x y u v} hx hu=>?_
 .match l with
  |[]=>exact⟨_,rfl⟩
  |[x]=>exact⟨_,rfl⟩
  |[x,y]=>exact absurd rfl h
  |x::y::z::l=>exact⟨_,rfl⟩
 show SR ok A P (VR ok) p (Extern.Bytes.bytesOf x>>=_) (Extern.Bytes.bytesOf y>>=_);refine SR.bind (jh8 hx) λq a b g e=>?_;cases e;refine SR.bind (R:=yk) ?_ λi c d j e=>?_
 .cases hu.mono g with
  |int k n=>cases k<;>first|exact qk|exact qs rfl
  |_=>exact qk
 cases e;split<;>exact qs (.int _ _)
def jqb (j:∀g,P.globals.findIdx? (·.name== "internal/bytealg.MaxLen")=some g->gl g=true):q14 ok A P gl G Extern.BytealgIndex.index:=by
 refine jrf (λl h=>?_) λp hp {x y u v} hx hu=>?_
 .match l with
  |[]=>exact⟨_,rfl⟩
  |[x]=>exact⟨_,rfl⟩
  |[x,y]=>exact absurd rfl h
  |x::y::z::l=>exact⟨_,rfl⟩
 show SR ok A P (VR ok) p (Extern.Bytes.bytesOf x>>=_) (Extern.Bytes.bytesOf y>>=_);refine SR.bind (jh8 hx) λq a b i e=>?_;cases e;refine SR.bind (jh8 (hu.mono i)) λs c d k e=>?_;cases e;refine SR.bind (R:=yk) ?_ λn m d o e=>?_
 .refine SR.bind (R:=AR) ?_ λn m d o e=>SR.bind (jip e) λt v w D r=>jf2 r;refine j5 ?_;cases hn:P.globals.findIdx? (·.name== "internal/bytealg.MaxLen")with
  |none=>exact qk
  |some g=>exact qs ⟨(hp.mono (i.trans k)) g (j g hn),rfl,rfl⟩
 cases e;try dsimp only
 split
 .exact .dead (yw.bind (.halt (h:=.unsupported _) mq) _)
 split
 .exact .dead (yw.bind (.halt (h:=.unsupported _) mq) _)
 split<;>exact qs (.int _ _)
def jlx:∀(n t:Nat) {a:Av},VA ok p a a->VA ok p (Extern.BytealgMakeNoZero.digits n t a) (Extern.BytealgMakeNoZero.digits n t a)
 |0,t,a,h=>h
 |n+1,t,a,h=>jlx n _ (h.push (.int _ _))
def jkm (F:Fit G P ok B gl) (g c:Array Tp):q14 ok A P gl G (Extern.BytealgMakeNoZero.makeNoZero g c):=by
 refine jo0 (λl h=>?_) λp hp {x y} hx=>?_
 .match l with
  |[]=>exact⟨_,rfl⟩
  |[x]=>exact absurd rfl h
  |x::y::l=>exact⟨_,rfl⟩
 cases hx with
 |int k n=>
  cases k<;>first|exact qk|skip
  unfold Extern.BytealgMakeNoZero.makeNoZero;dsimp only;cases c[0]?with
  |none=>exact qk
  |some t=>
   dsimp only;refine SR.bind (q8 t) λq d y i e=>?_;cases e;split
   rotate_left
   .exact qk
   split
   .exact jff F (hp.mono i) _
   refine y8 λm=>?_;refine SR.bind jf6 λo _ _ r _=>?_;refine y8 λb=>?_;exact SR.bind (jfa _ (jlx _ _ Arr.nil)) λs a b u j=>qs (.slice _ _ j)
 |_=>exact qk
def jmw (j s:Array Tp):q14 ok A P gl G (Extern.SlicesOverlaps.overlaps j s):=by
 refine jrf (λl h=>?_) λp hp {x y u v} hx hu=>?_
 .match l with
  |[]=>exact⟨_,rfl⟩
  |[x]=>exact⟨_,rfl⟩
  |[x,y]=>exact absurd rfl h
  |x::y::z::l=>exact⟨_,rfl⟩
 have k:∀{o o' r r':Oa} (l c m d:Nat),vg (AR p) o o'->vg (AR p) r r'->SR ok A P (VR ok) p (Extern.SlicesOverlaps.overlaps j s #[.slice o l c,.slice r m d]) (Extern.SlicesOverlaps.overlaps j s #[.slice o' l c,.slice r' m d]):=by
  intro o o' r r' l c m d F D;unfold Extern.SlicesOverlaps.overlaps;dsimp only;cases j[0]?with
  |none=>exact qk
  |some t=>
   dsimp only;refine SR.bind (q8 t) λq S y H e=>?_;cases e;split
   rotate_left
   .exact qk
   refine SR.bind (yc _) λT U y I e=>?_;cases e
   cases o<;>cases o'<;>first|(cases F;done)|skip
   .cases r<;>cases r'<;>first|(cases D;done)|exact qs (.bool _)
   cases r<;>cases r'<;>first|(cases D;done)|exact qs (.bool _)|skip
   rename_i a a' b b';have i:=AR.mono (H.trans I) F;have g:=AR.mono (H.trans I) D;dsimp only;split
   .exact qs (.bool _)
   refine jgl i λx y h=>?_;refine jgl g λL V M=>?_;rw[_root_.bne,_root_.bne,<-i.blk_iff g,i.off,g.off];cases hbk:(a.block==b.block)with
   |true=>
    simp only[Bool.not_true,Bool.false_and,Bool.false_eq_true,if_false];exact qs (VR.bool _)
   |false=>
    simp only[Bool.not_false,Bool.true_and,if_true,Bool.false_and];rcases Classical.em ((x&&L)=true)with e|e
    .rw[if_pos e];exact j4
    rw[if_neg e,if_neg (by simp only[Bool.and_eq_true]at e ⊢;exact λ⟨N,O⟩=>e ⟨h N,M O⟩)];refine SR.bind (jgr i) λW _ _ E _=>?_;refine SR.bind (jgr (g.mono E)) λX _ _ J _=>?_;refine SR.bind (jjv ((i.mono E).mono J) ((g.mono E).mono J)) λY Q K Z R=>?_;cases Q with
    |false=>
     cases K with
     |true=>cases R rfl
     |false=>exact qs (VR.bool _)
    |true=>
     cases K with
     |true=>exact y8 λn=>qs (VR.bool _)
     |false=>exact .pick 0 rfl (.pure (VR.bool false))
 cases hx with
 |snil l c=>
  cases hu with
  |snil m d=>exact k (o:=none) (o':=none) (r:=none) (r':=none) l c m d trivial trivial
  |slice m d g=>exact k (o:=none) (o':=none) (r:=some _) (r':=some _) l c m d trivial g
  |_=>exact qk
 |slice l c i=>
  cases hu with
  |snil m d=>exact k (o:=some _) (o':=some _) (r:=none) (r':=none) l c m d i trivial
  |slice m d g=>exact k (o:=some _) (o':=some _) (r:=some _) (r':=some _) l c m d i g
  |_=>exact qk
 |_=>exact qk
variable {h C:Vl}
open Extern.Rtype in
def jtp {q:Ren G} (F:Fit G P ok B gl) (c:VR ok q h C) (d:Fx gl q):handleType P C=handleType P h\/handleType P h=none:=by
 cases c with
 |ptr ha=>
  left;unfold handleType;dsimp only;have e:=ha.blk_iff (⟨d _ F.handle,rfl,rfl⟩:AR q (AD G 0) (AD G 0));simp only at e;rw[F.size,e,ha.off]
 |_=>exact .inr rfl
def jha (F:Fit G P ok B gl) (c:Fx gl p) (d:VR ok p h C):SR ok A P yk p (Extern.Rtype.ofHandle h) (Extern.Rtype.ofHandle C):=by
 refine j5 ?_;obtain e|e:=jtp F d c
 .rw[e];split
  .exact qs rfl
  exact qk
 rw[e];exact qk
def jl9 (F:Fit G P ok B gl) (c:Fx gl p) (t:Tp):SR ok A P (VR ok) p (Extern.Rtype.handle t) (Extern.Rtype.handle t):=j5 (qs (jho F c t))
def jhn (s:String) (t:Tp):SR ok A P yk p (Extern.Rtype.noPack s t) (Extern.Rtype.noPack s t):=by
 refine j5 ?_;split
 .exact j4
 exact qs rfl
def zc (s:String) (t:Tp):SR ok A P yk p (Extern.Rtype.noPackMethods s t) (Extern.Rtype.noPackMethods s t):=by
 refine j5 (j5 ?_);split
 .exact j4
 exact qs rfl
def jkt (s:String) (t:Tp):SR ok A P yk p (Extern.Rtype.noPackNamed s t) (Extern.Rtype.noPackNamed s t):=by
 refine j5 (j5 ?_);split
 .exact j4
 exact qs rfl
def jk8 (t:Tp):SR ok A P yk p (Extern.Rtype.spelt t) (Extern.Rtype.spelt t):=SR.bind (jkt _ t) λq _ _ c _=>jh2 t
def jgj (t:Tp):SR ok A P yk p (Extern.Rtype.under t) (Extern.Rtype.under t):=by
 refine SR.bind (j6 t) λq i y c e=>?_;obtain⟨rfl,_⟩:=e;split
 .refine SR.bind (j6 _) λq i y c e=>?_;obtain⟨rfl,_⟩:=e;exact qs rfl
 exact qs rfl
def jj8 (t:Tp):SR ok A P yk p (Extern.Rtype.kind t) (Extern.Rtype.kind t):=by
 refine SR.bind (jgj t) λq i y c e=>?_;cases e
 dsimp only;split<;>first|exact qs rfl|exact qk
def jvz (t:Tp):SR ok A P yk p (Extern.Rtype.elem? t) (Extern.Rtype.elem? t):=by
 refine SR.bind (jgj t) λq i y c e=>?_;cases e
 split<;>exact qs rfl
def jk1 (t:Tp):SR ok A P yk p (Extern.Rtype.hasName t) (Extern.Rtype.hasName t):=by
 refine SR.bind (j6 t) λq i y c e=>?_;obtain⟨rfl,_⟩:=e
 split<;>exact qs rfl
def jge (t u:Tp):SR ok A P yk p (Extern.Rtype.implements t u) (Extern.Rtype.implements t u):=by
 refine SR.bind (zc _ _) λq _ _ c _=>?_;refine SR.bind (zc _ _) λd _ _ g _=>?_;refine SR.bind (jgj _) λk i y l e=>?_;cases e;refine SR.bind (jgj _) λm j y n e=>?_;cases e;split
 .exact qs rfl
 .refine SR.bind (j6 _) λq i y c e=>?_;obtain⟨rfl,_⟩:=e;exact qs rfl
 exact qs rfl
def jmd (t u:Tp):SR ok A P yk p (Extern.Rtype.directlyAssignable t u) (Extern.Rtype.directlyAssignable t u):=by
 unfold Extern.Rtype.directlyAssignable;split
 .exact qs rfl
 try dsimp only
 refine SR.bind (jk1 _) λq x y c e=>?_;cases e;refine SR.bind (jk1 _) λd x y g e=>?_;cases e;split
 .exact qs rfl
 refine SR.bind (jgj _) λk i y l e=>?_;cases e;refine SR.bind (jgj _) λm j y n e=>?_;cases e
 try dsimp only
 split<;>exact qs rfl
variable {a b:Addr}
def jul (F:Fit G P ok B gl) (g:Fx gl p) (t:Tp) (i:AR p a b) (c:Nat):SR ok A P (VR ok) p (Extern.ReflectliteValue.mk t a c) (Extern.ReflectliteValue.mk t b c):=by
 refine SR.bind (jl9 F g t) λq v w j l=>?_;refine SR.bind (jj8 t) λm k y d e=>?_;cases e;exact qs (VR.aggA (((Arr.one (l.mono d)).push (.ptr (i.mono (j.trans d)))).push (.int _ _)))
def jm4:VR ok p Extern.ReflectliteValue.zeroV Extern.ReflectliteValue.zeroV:=VR.aggA (((Arr.one .pnil).push .pnil).push (.int _ _))
def jl7 (F:Fit G P ok B gl) (c:Fx gl p) (h:VR ok p v w):SR ok A P (VR ok) p (Extern.ReflectliteValue.unpack v) (Extern.ReflectliteValue.unpack w):=by
 cases h with
 |nilIface=>exact qs jm4
 |iface t h=>exact SR.bind (jfz t h) λq a b d g=>jul F (c.mono d) t g 0
 |_=>exact qk
def vw {α β:Type} {R:Ren G->α->β->Prop} (m:String) (k:Nat):SR ok A P R p (Extern.ReflectliteValue.valueError m k:Sem α) (Extern.ReflectliteValue.valueError m k:Sem β):=by
 refine SR.bind (jkq _) λq t y d e=>?_;cases e;refine SR.bind (jgs _) λg t y i e=>?_;cases e;exact SR.bind (jfz _ (VR.aggA (jhc (jjc _) (.int _ _)))) λj a b l c=>ve (.iface _ (.ptr c))
def PaR (q:Ren G) (x y:Tp×Addr×Nat):Prop:=x.1=y.1/\AR q x.2.1 y.2.1/\x.2.2=y.2.2
def jjm (F:Fit G P ok B gl) (g:Fx gl p) (h:VR ok p v w):SR ok A P (λq=>vg (PaR q)) p (Extern.ReflectliteValue.partsAny v) (Extern.ReflectliteValue.partsAny w):=by
 cases h with
 |@agg a b s e=>
  obtain⟨l⟩:=a;obtain⟨m⟩:=b;have d:=Arr.list (R:=VR ok p) ⟨s,e⟩;simp only at d;match d with
  |.nil=>exact qk
  |.cons _ .nil=>exact qk
  |.cons _ (.cons _ .nil)=>exact qk
  |.cons _ (.cons _ (.cons _ (.cons _ _)))=>exact qk
  |.cons (a:=x) (b:=x') h1 (.cons (a:=y) (b:=y') h2 (.cons (a:=z) (b:=z') h3 .nil))=>
   cases h3 with
   |int k n=>
    cases k<;>first|(cases h2<;>exact qk)|skip
    have i:n≠0->SR ok A P (λq=>vg (PaR q)) p (Extern.ReflectliteValue.partsAny (.agg #[x,y,.int .u64 n])) (Extern.ReflectliteValue.partsAny (.agg #[x',y',.int .u64 n])):=λc=>by
     cases h2 with
     |@ptr a b ha=>
      have:∀(u v:Vl),SR ok A P (λq=>vg (PaR q)) p (do pure (some (<-Extern.Rtype.ofHandle x,a,n.toNat))) (do pure (some (<-Extern.Rtype.ofHandle x',b,n.toNat))):=λu v=>
          SR.bind (jha F g h1) λq t y j e=>by cases e;exact qs (show vg (PaR q) (some _) (some _)from⟨rfl,ha.mono j,rfl⟩)
      obtain n|n:=n
      .cases n with
       |zero=>exact absurd rfl c
       |succ n=>exact this undef undef
      exact this undef undef
     |_=>
      obtain n|n:=n
      .cases n with
       |zero=>exact absurd rfl c
       |succ n=>exact qk
      exact qk
    rcases Classical.em (n=0)with rfl|c
    .exact qs (show vg (PaR p) none none from trivial)
    exact i c
   |_=>cases h2<;>exact qk
 |_=>exact qk
def jkx (F:Fit G P ok B gl) (i:Fx gl p) (h:VR ok p v w):SR ok A P (λq=>vg (PaR q)) p (Extern.ReflectliteValue.parts v) (Extern.ReflectliteValue.parts w):=by
 refine SR.bind (jjm F i h) λq x y l e=>?_
 cases x<;>cases y<;>first|(cases e;done)|skip
 .exact qs (show vg (PaR q) none none from trivial)
 rename_i x y;obtain⟨t,a,n⟩:=x;obtain⟨m,o,r⟩:=y;obtain⟨c,d,g⟩:=e;simp only at c d g;subst c;subst g;dsimp only;exact SR.bind (jhn _ _) λj _ _ k _=>qs (show vg (PaR j) (some _) (some _)from⟨rfl,d.mono k,rfl⟩)
def jgn {s:String} (c:e #[]=stuck s) (d:∀x y l,e ⟨x::y::l⟩=stuck s):∀l:Lv,l.length≠1->∃s,e ⟨l⟩=stuck s
 |[],_=>⟨s,c⟩
 |[x],h=>absurd rfl h
 |x::y::l,_=>⟨s,d x y l⟩
variable {z:Sem Vl} {f:Tp->Addr->Nat->Nat->Sem Vl}
def jg9 (F:Fit G P ok B gl) (j:∀(p:Ren G),Fx gl p->SR ok A P (VR ok) p z z) (l:∀(p:Ren G) (_:Fx gl p) t {a b:Addr} n k,AR p a b->SR ok A P (VR ok) p (f t a n k) (f t b n k)):q14 ok A P gl G (Extern.ReflectliteValue.method z f):=by
 refine jo0 (jgn rfl λ_ _ _=>rfl) λp hp {x y} hx=>?_;show SR ok A P (VR ok) p (Extern.ReflectliteValue.parts x>>=_) (Extern.ReflectliteValue.parts y>>=_);refine SR.bind (jkx F hp hx) λq u v c e=>?_
 cases u<;>cases v<;>first|(cases e;done)|skip
 .exact j q (hp.mono c)
 rename_i u v;obtain⟨t,a,n⟩:=u;obtain⟨m,o,r⟩:=v;obtain⟨d,g,i⟩:=e;simp only at d g i;subst d;subst i;exact l q (hp.mono c) t n _ g
def jk4 (F:Fit G P ok B gl) (j:∀(p:Ren G),Fx gl p->SR ok A P (VR ok) p z z) (l:∀(p:Ren G) (_:Fx gl p) t {a b:Addr} n k,AR p a b->SR ok A P (VR ok) p (f t a n k) (f t b n k)):q14 ok A P gl G (Extern.ReflectliteValue.methodAny z f):=by
 refine jo0 (jgn rfl λ_ _ _=>rfl) λp hp {x y} hx=>?_;show SR ok A P (VR ok) p (Extern.ReflectliteValue.partsAny x>>=_) (Extern.ReflectliteValue.partsAny y>>=_);refine SR.bind (jjm F hp hx) λq u v c e=>?_
 cases u<;>cases v<;>first|(cases e;done)|skip
 .exact j q (hp.mono c)
 rename_i u v;obtain⟨t,a,n⟩:=u;obtain⟨m,o,r⟩:=v;obtain⟨d,g,i⟩:=e;simp only at d g i;subst d;subst i;exact l q (hp.mono c) t n _ g
def ji3 (F:Fit G P ok B gl) (d:Fx gl p) (t:Tp):SR ok A P (VR ok) p (Extern.ReflectliteType.toType t) (Extern.ReflectliteType.toType t):=by
 refine SR.bind (jkq _) λq c y g e=>?_;cases e;exact SR.bind (jl9 F (d.mono g) t) λj v w k i=>qs (.iface _ (VR.aggA (Arr.one i)))
def jm6 (F:Fit G P ok B gl):q14 ok A P gl G λargs=>Extern.ReflectliteValue.unpack (args.getD 0 (.tuple #[])):=λp g a b h=>by
 have e:VR ok p (a.getD 0 (.tuple #[])) (b.getD 0 (.tuple #[])):=by
  rw[mO,mO];obtain⟨c,d⟩|⟨x,y,c,d,i⟩:=h.get 0
  .rw[c,d];exact VR.tupA Arr.nil
  rw[c,d];exact i
 exact jl7 F g e
def jqx (F:Fit G P ok B gl):q14 ok A P gl G (Extern.ReflectliteValue.methodAny (Extern.ReflectliteValue.valueError "reflectlite.Value.Type" 0) λt _ _ _=>Extern.ReflectliteType.toType t):=
 jk4 F (λp c=>vw _ _) λp c t a b n k d=>ji3 F c t
def joe (F:Fit G P ok B gl):q14 ok A P gl G (Extern.ReflectliteValue.method (Extern.ReflectliteValue.valueError "reflectlite.Value.IsNil" 0) Extern.ReflectliteValue.isNil):=
 jg9 F (λp c=>vw _ _) λp c t a b n k d=>by
  have i:∀{v w:Vl},VR ok p v w->True:=λ_=>trivial;unfold Extern.ReflectliteValue.isNil
  dsimp only;split
  .exact SR.bind (vw (R:=λ_ _ _=>False) _ _) λ_ _ _ _ h=>h.elim
  refine SR.bind (je6 t d) λq v w j g=>?_
  cases g<;>first|exact qs (VR.bool _)
def jp2 (F:Fit G P ok B gl):q14 ok A P gl G (Extern.ReflectliteValue.method (Extern.ReflectliteValue.valueError "reflectlite.Value.Elem" 0) Extern.ReflectliteValue.elem):=
 jg9 F (λp d=>vw _ _) λp d t a b n k l=>by
  unfold Extern.ReflectliteValue.elem;dsimp only;split
  .exact SR.bind (vw (R:=λ_ _ _=>False) _ _) λ_ _ _ _ h=>h.elim
  next c=>
  refine SR.bind (je6 t l) λq v w m r=>?_;refine SR.bind (jvz t) λs o y g e=>?_;cases e;have i:=r.mono g;have j:=d.mono (m.trans g)
  have c:k=20\/k=22:=by simp at c;omega
  obtain rfl|rfl:=c
  .exact jl7 F j i
  cases i with
  |pnil=>cases o<;>exact qs jm4
  |ptr h2=>
   cases o with
   |none=>exact vw _ _
   |some el=>exact jul F j _ h2 _
  |_=>cases o<;>exact vw _ _
def jt6 (F:Fit G P ok B gl):q14 ok A P gl G Extern.ReflectliteValue.set:=by
 refine jrf (λl h=>?_) λp hp {x y u v} hx hu=>?_
 .match l with
  |[]=>exact⟨_,rfl⟩
  |[x]=>exact⟨_,rfl⟩
  |[x,y]=>exact absurd rfl h
  |x::y::z::l=>exact⟨_,rfl⟩
 show SR ok A P (VR ok) p (Extern.ReflectliteValue.parts x>>=_) (Extern.ReflectliteValue.parts y>>=_);refine SR.bind (jkx F hp hx) λq a b r e=>?_;refine SR.bind (jkx F (hp.mono r) (hu.mono r)) λU c d Q D=>?_
 cases a<;>cases b<;>first|(cases e;done)|exact j4|skip
 cases c<;>cases d<;>first|(cases D;done)|exact j4|skip
 rename_i a b c d;obtain⟨t,a,n⟩:=a;obtain⟨V,a',n'⟩:=b;obtain⟨E,H,I⟩:=e;simp only at E H I;subst E;subst I;obtain⟨s,c,m⟩:=c;obtain⟨W,X,m'⟩:=d;obtain⟨J,K,L⟩:=D;simp only at J K L;subst J;subst L;dsimp only;split
 .exact .dead (yw.bind (.halt (h:=.unsupported _) mq) _)
 refine SR.bind (je6 s K) λY v w S j=>?_;refine SR.bind (jmd t s) λZ x y g e=>?_;cases e;have M:=H.mono ((Q.trans S).trans g);have k:∀{q:Ren G},SR ok A P (VR ok) q (pure (.tuple #[])) (pure (.tuple #[])):=qs (VR.tupA Arr.nil);split
 .exact SR.bind (jga (R:=yk) t M (j.mono g) λ_ _=>rfl) λ_ _ _ _ _=>k
 refine SR.bind (jge t s) λq4 x y o e=>?_;cases e;split
 .refine SR.bind (jj8 s) λT x y i e=>?_;cases e;have N:=j.mono ((g.trans o).trans i);have O:=M.mono (o.trans i);split
  .cases N with
   |nilIface=>exact .dead (yw.bind (.halt (h:=.unsupported _) mq) _)
   |_=>exact SR.bind (jga (R:=yk) t O (by first|assumption|exact(j.mono ((g.trans o).trans i))) λ_ _=>rfl) λ_ _ _ _ _=>k
  exact SR.bind (jga (R:=yk) t O (.iface s N) λ_ _=>rfl) λ_ _ _ _ _=>k
 refine SR.bind (jk8 _) λT x y i e=>?_;cases e;refine SR.bind (jk8 _) λq6 x y hq6 e=>?_;cases e;exact SR.bind (jfi (R:=λ_ _ _=>False) _) λ_ _ _ _ h=>h.elim
def jo5 (F:Fit G P ok B gl):q14 ok A P gl G Extern.ReflectliteType.typeOf:=by
 refine jo0 (jgn rfl λ_ _ _=>rfl) λp hp {x y} hx=>?_;cases hx with
 |nilIface=>exact qs VR.nilIface
 |iface t h=>exact ji3 F hp t
 |_=>exact qk
def jia (F:Fit G P ok B gl) (d:Fx gl p) (h:VR ok p v w):SR ok A P yk p (Extern.ReflectliteType.ofRtype v) (Extern.ReflectliteType.ofRtype w):=by
 cases h with
 |@agg a b s e=>
  obtain⟨l⟩:=a;obtain⟨m⟩:=b;have c:=Arr.list (R:=VR ok p) ⟨s,e⟩;simp only at c;match c with
  |.nil=>exact qk
  |.cons _ (.cons _ _)=>exact qk
  |.cons (a:=x) (b:=x') h1 .nil=>
   show SR ok A P yk p (Extern.Rtype.ofHandle x>>=_) (Extern.Rtype.ofHandle x'>>=_);refine SR.bind (jha F d h1) λq t y g e=>?_;cases e;exact SR.bind (jhn _ _) λi _ _ j _=>qs rfl
 |_=>exact qk
def jm9 (F:Fit G P ok B gl) {f:Tp->Sem Vl} (c:∀(p:Ren G) (_:Fx gl p) t,SR ok A P (VR ok) p (f t) (f t)):q14 ok A P gl G (Extern.ReflectliteType.method f):=by
 refine jo0 (jgn rfl λ_ _ _=>rfl) λp hp {x y} hx=>?_;show SR ok A P (VR ok) p (Extern.ReflectliteType.ofRtype x>>=_) (Extern.ReflectliteType.ofRtype y>>=_);refine SR.bind (jia F hp hx) λq t y d e=>?_;cases e;exact c q (hp.mono d) t
def jp8 (F:Fit G P ok B gl):q14 ok A P gl G (Extern.ReflectliteType.method Extern.ReflectliteType.elem):=
 jm9 F λp c t=>by
  refine SR.bind (jvz t) λq o y d e=>?_;cases e;split
  .exact ji3 F (c.mono d) _
  refine SR.bind (jk8 t) λg s y i e=>?_;cases e;exact jfi _
def jis (F:Fit G P ok B gl) (s:String) {f:Tp->Tp->Sem Bool} (i:∀(p:Ren G) t u,SR ok A P yk p (f t u) (f t u)):q14 ok A P gl G (Extern.ReflectliteType.relation s f):=by
 refine jrf (λl h=>?_) λp hp {x y u v} hx hu=>?_
 .match l with
  |[]=>exact⟨_,rfl⟩
  |[x]=>exact⟨_,rfl⟩
  |[x,y]=>exact absurd rfl h
  |x::y::z::l=>exact⟨_,rfl⟩
 cases hu with
 |nilIface=>exact jfi _
 |@iface t c d hu=>
  show SR ok A P (VR ok) p (Extern.ReflectliteType.ofRtype c>>=_) (Extern.ReflectliteType.ofRtype d>>=_);refine SR.bind (jia F hp hu) λq t y g e=>?_;cases e;refine SR.bind (jia F (hp.mono g) (hx.mono g)) λj t y k e=>?_;cases e;refine SR.bind (i j _ _) λm t y n e=>?_;cases e;exact qs (VR.bool _)
 |_=>exact qk
def jj1 (F:Fit G P ok B gl):q14 ok A P gl G (Extern.ReflectliteType.relation "Implements" Extern.ReflectliteType.implements_):=
 jis F _ λp t u=>by
  refine SR.bind (jj8 t) λq k y c e=>?_;cases e
  dsimp only;split
  .exact SR.bind (jfi (R:=λ_ _ _=>False) _) λ_ _ _ _ h=>h.elim
  refine SR.bind (zc _ _) λd _ _ g _=>?_;exact SR.bind (jhn _ _) λi _ _ j _=>jge _ _
def jj2 (F:Fit G P ok B gl):q14 ok A P gl G (Extern.ReflectliteType.relation "AssignableTo" Extern.ReflectliteType.assignableTo):=
 jis F _ λp t u=>by
  have c:∀{q:Ren G},SR ok A P yk q (do pure ((<-Extern.Rtype.directlyAssignable t u)||(<-Extern.Rtype.implements t u))) (do pure ((<-Extern.Rtype.directlyAssignable t u)||(<-Extern.Rtype.implements t u))):=λ{q}=>by
   refine SR.bind (jmd _ _) λd x y g e=>?_;cases e;refine SR.bind (jge _ _) λi x y j e=>?_;cases e;exact qs rfl
  unfold Extern.ReflectliteType.assignableTo;dsimp only;split
  .refine SR.bind (zc _ _) λd _ _ g _=>?_;exact SR.bind (zc _ _) λi _ _ j _=>c
  exact c
end
def jix:TypeDesc->Bool
 |.float _|.complex _=>false
 |_=>true
def jnq {α σ:Type} {I:σ->Prop} {f:α->σ->Option (ForInStep σ)} (h:∀x s r,I s->f x s=some r->I r.value):∀(l:List α) (s a:σ),I s->forIn l s f=some a->I a:=by
 intro l;induction l with
 |nil=>intro s a c e;simp at e;exact e▸c
 |cons x l ih=>
  intro s a c e;rw[List.forIn_cons]at e;cases hf:f x s with
  |none=>rw[hf]at e;cases e
  |some r=>
   rw[hf]at e;have:=h x s r c hf;cases r with
   |done b=>cases e;exact this
   |yield b=>exact ih b a this e
structure QOk (Q:Vl->Prop):Prop where
 agg:∀a:Av,(∀x∈a,Q x)->Q (.agg a)
 cells:∀v,Q v->∀x∈v.cells,Q x
 p:Q (.pointer none)
 s:Q (.slice none 0 0)
 m:Q (.map none)
 c:Q (.chan none)
 f:Q .nilFunc
structure jjh (Q:Vl->Prop) (i:TypeInfo):Prop where
 meth:i.methods=#[]
 zero:∀v,i.zero=some v->Q v
 nf:jix i.desc=true
 nn:∀n u,i.desc≠.named n u
variable {Q:Vl->Prop} {d:TypeDesc}
def jhr {s:String} {z:Vl} {c:Bool} {b:Nat} (a:Q z) (h:jix d=true) (f:∀n u,d≠.named n u):jjh Q (Made.word d s z c b):=⟨rfl,λv e=>by cases e;exact a,h,f⟩
variable {i:TypeInfo}
def jq8 (K:QOk Q) {g:Tp->Option TypeInfo} (m:∀t i v,g t=some i->i.zero=some v->Q v) {p:Array Field} (h:Made.reckonStruct g p=some i):jjh Q i:=by
 unfold Made.reckonStruct at h;simp only[<-Array.forIn_toList]at h;simp only[Option.bind_eq_bind,Option.bind_eq_some_iff]at h;obtain⟨s,w,j⟩:=h;have A:=jnq (I:=λs:Array Field×Nat×Nat×Nat×Nat×Bool×Bool×Option (Av)×String=>∀a,s.2.2.2.2.2.2.2.1=some a->∀x∈a,Q x) (λx s r B e=>?_) _ _ _ ?_ w
 .have b:i.methods=#[]/\i.zero=s.2.2.2.2.2.2.2.1.map .agg/\∃o,i.desc=.struct o:=by
   split at j<;>(cases j;exact⟨rfl,rfl,_,rfl⟩)
  obtain⟨C,D,o,k⟩:=b;refine⟨C,λv l=>?_,by rw[k];rfl,by rw[k];intro n u q;cases q⟩;rw[D]at l;obtain⟨a,E,rfl⟩:=mL.1 l;exact K.agg a (A a E)
 .simp only[Option.bind_eq_some_iff]at e;obtain⟨F,G,e⟩:=e;have b:∀(c:Prop) [Decidable c] (a:Av),(if c then none else s.2.2.2.2.2.2.2.1.bind λz=>F.zero.bind λy=>pure (z++y.cells))=some a->∀x∈a,Q x:=λc _ a h x f=>by
   split at h
   .cases h
   simp only[Option.bind_eq_some_iff]at h;obtain⟨z,H,y,J,e⟩:=h;cases e;obtain q|q:=Array.mem_append.1 f
   .exact B z H x q
   exact K.cells y (m _ _ _ G J) x q
  repeat' (first|(cases e;done)|(cases e;exact b _)|(replace e:=Option.bind_eq_some_iff.1 e;obtain⟨_,_,e⟩:=e)|split at e|(obtain⟨_,_,e⟩:=e))
 intro a h x f;cases h;simp at f
def jrb (K:QOk Q) {j:Tp->Option TypeInfo} (k:∀t i v,j t=some i->i.zero=some v->Q v) (h:Made.reckon j d=some i):jjh Q i:=by
 unfold Made.reckon at h;simp only[Option.bind_eq_bind,Option.bind_eq_some_iff]at h;split at h
 .simp only[Option.bind_eq_some_iff]at h;obtain⟨l,_,h⟩:=h;split at h
  .cases h
  .split at h
   .cases h
   obtain⟨_,_,e⟩:=Option.bind_eq_some_iff.1 h;cases e;exact jhr K.p rfl (λ_ _ q=>oA)
  obtain⟨_,_,e⟩:=Option.bind_eq_some_iff.1 h;cases e;exact jhr K.p rfl (λ_ _ q=>oA)
 .simp only[Option.bind_eq_some_iff]at h;obtain⟨_,_,_,_,e⟩:=h;cases e;exact jhr K.s rfl (λ_ _ q=>oA)
 .simp only[Option.bind_eq_some_iff]at h;obtain⟨_,_,_,_,_,_,_,_,e⟩:=h;cases e;exact jhr K.m rfl (λ_ _ q=>oA)
 .simp only[Option.bind_eq_some_iff]at h;obtain⟨_,_,_,_,e⟩:=h;cases e;exact jhr K.c rfl (λ_ _ q=>oA)
 .simp only[Option.bind_eq_some_iff]at h;obtain⟨_,_,e⟩:=h;cases e;exact jhr K.f rfl (λ_ _ q=>oA)
 .simp only[Option.bind_eq_some_iff]at h;obtain⟨l,n,_,_,e⟩:=h;cases e;refine⟨rfl,λv a=>?_,rfl,λ_ _ q=>oA⟩;simp only at a;split at a
  .cases a
  split at a
  .cases a;exact K.agg _ (λx g=>by simp at g)
  obtain⟨z,o,rfl⟩:=mL.1 a;refine K.agg _ λx g=>?_;obtain⟨b,r,g⟩:=Array.mem_flatten.1 g;have:=Array.eq_of_mem_replicate r;subst this;exact K.cells z (k _ _ _ n o) x g
 .exact jq8 K k h
 cases h
variable {T:Tables}
def jtj (K:QOk Q) (b:∀i∈T.types,∀v,i.zero=some v->Q v):∀(n:Nat) (t:Tp) (i:TypeInfo),Made.infoAt T n t=some i->i∈T.types\/jjh Q i:=by
 intro n;induction n with
 |zero=>intro t i h;cases h
 |succ n ih=>
  intro t i h;unfold Made.infoAt at h;split at h
  .exact .inl (mS h)
  obtain⟨d,_,e⟩:=Option.bind_eq_some_iff.1 h;exact .inr (jrb K (λt i v h a=>(ih t i h).elim (λq=>b i q v a) λq=>q.zero v a) e)
def jqp (K:QOk Q) (a:∀i∈T.types,∀v,i.zero=some v->Q v) {t:Tp} (h:T.info? t=some i):i∈T.types\/jjh Q i:=by
 unfold Tables.info? at h;split at h
 .exact .inl (mS h)
 exact jtj K a _ t i h
end Go.Proofs.YtbfkeoagmajcpaaGreatDoor
