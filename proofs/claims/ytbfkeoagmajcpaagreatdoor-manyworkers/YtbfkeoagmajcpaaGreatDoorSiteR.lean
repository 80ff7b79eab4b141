import Derived.Test.YtbfkeoagmajcpaaGreatDoorSiteQ
import Derived.Conc.CompanyDraw
import Derived.Conc.TokenWalk
import Derived.Test.YtbfkeoagmajcpaaGreatDoorKMwAdd
set_option maxHeartbeats 4000000
set_option maxRecDepth 100000
set_option linter.defProp false
set_option linter.unusedSectionVars false
set_option linter.unusedSimpArgs false
set_option linter.unusedVariables false
namespace Go.Proofs.YtbfkeoagmajcpaaGreatDoor
variable {A B:Np} {Ans:By->By->Prop} {C:Array Oper} {D:List Nat} {E:Env} {F:Fm} {H a:Act} {I i:Nat} {J:List Item} {L S w w0:Wl} {P:Pq} {Post:Vl->Wv} {cs:List Fm} {γ:Gam}
section
open Go.Conc
variable {L:Vl->Wv} {main:Bool} {M:Gam}
variable {b:Fm} {k:List Item} {N:List Fm} {A:Array Oper} {rest:List Nat} {o:Oper}
def q7.opM (e:A[i]?=some o) (f:Region.wanted o (yielded A a.tmps)=true) (g:b.kind≠.early) (j:M.ph.said=false)
 (h:∀c,q9 E M w c->∀d:Act->Wv,(∀r w',(∃γ',vc M c w' (listed P b.fn a o c) γ'/\q7 P E L main γ' (G (b.at r (.inRegion A rest::k)) N) w')->d r w')->uponK o a d ((execOp a.eval o).run P c)):q7 P E L main M (G (b.at a (.inRegion A (i::rest)::k)) N) w:=
 q7.step rfl λc l=>goes_oper_k e f g λd m=>h c l d λr w' t=>m r w' ⟨λq=>(by rw[j]at q;cases q),t⟩
def jug (P:Pq) (E:Env) (L:Vl->Wv) (Lo:(Np)->Wv) (f:Fi) (a:Av) (Good:Vl->Prop):Prop:=
 ∀{main:Bool} {own rd:Np} {ph:Ph} {w0:Wl} {b:Fm} {rest:List Fm},ph.said=false->y9 (b::rest)->jkd E own rd ph w0->Lo rd w0->
  (∀tot w' v,Good v->(∀x,own x->tot x)->(∀x,tot x->x<w'.heap.size)->q9 E ⟨own,rd,ph⟩ w0 w'->q7 P E L main ⟨tot,rd,ph⟩ (G0 (b.finish v) rest) w')->q7 P E L main ⟨own,rd,ph⟩ (G0 (Frame.enter P f a .normal) (b::rest)) w0
def q7.callS {j:(Np)->Wv} {f:Fi} {args:Av} {O:Vl->Prop} (q:jug P E L j f args O) {l:Array Operand} {r:Array Tp} {fn:Func} {c:Code} (m:A[i]?=some o) (s:Region.wanted o (yielded A a.tmps)=true) (t:b.kind≠.early) (u:o.op=.call {callee:=.value (.func f),args:=l,argTypes:=r})
 (n:P.funcs[f]?=some fn) (y:(fn.name== "runtime.NumGoroutine")=false) (p:fn.body=some c) (z:l.map a.eval=args) (B:M.ph.said=false) (C:y9 (b.at a (.inRegion A (i::rest)::k)::N)) (D:jkd E M.own M.rd M.ph w) (F:∀d,q9 E M w d->j M.rd d)
 (H:∀e w' v,O v->(∀x,M.own x->e x)->(∀x,e x->x<w'.heap.size)->q9 E M w w'->q7 P E L main ⟨e,M.rd,M.ph⟩ (G (b.at (a.put o.dst v) (.inRegion A rest::k)) N) w'):q7 P E L main M (G (b.at a (.inRegion A (i::rest)::k)) N) w:=
 q7.step rfl λd h=>goes_call m s t u n y p ⟨λ_=>rfl,M,vc.refl _ _,by
  rw[z]
  have:=q (main:=main) (own:=M.own) (rd:=M.rd) (ph:=M.ph) (w0:=d) (b:=b.at a (.inRegion A (i::rest)::k)) (rest:=N) B C (D.rely h) (F d h) λe w' v g I J K=>by
   have:=H e w' v g I J (h.trans K);rw[Frame.finish_at,m];exact this
  rw[enter_at args n p]at this;exact this⟩
def q7.sched (Q:Nat->Array Bool->Act->Gam->World->Prop) (step:∀n l a M w j rest,Q (n+1) l a M w->j∈Region.ready .any A l->(∀m γ' w',Q n (l.setIfInBounds j true) m γ' w'->q7 P E L main γ' (G (b.at m (.inRegion A rest::k)) N) w')->q7 P E L main M (G (b.at a (.inRegion A (j::rest)::k)) N) w)
 (c:∀n l a M w,Q n l a M w->(n=0\/Region.ready .any A l=[])->q7 P E L main M (G (b.at a (.inRegion A []::k)) N) w):∀(n t:Nat) (l:Array Bool) (a:Act) (M:Gam) (w:Wl),Q n l a M w->q7 P E L main M (G (b.at a (.inRegion A (Region.linearise.go .any A n t l [])::k)) N) w:=by
 intro n;induction n with
 |zero=>intro t l a M w h;simpa[Region.linearise.go]using c 0 l a M w h (.inl rfl)
 |succ n ih=>
  intro t l a M w h;simp only[Region.linearise.go];change q7 P E L main M (G (b.at a (.inRegion A (match (Region.ready .any A l)[t%(Region.ready .any A l).length]?with
   |some j=>Region.linearise.go .any A n (t/(Region.ready .any A l).length) (l.setIfInBounds j true) [j]
   |none=>[].reverse)::k)) N) w
  cases hi:(Region.ready .any A l)[t%(Region.ready .any A l).length]?with
  |none=>
   have d:Region.ready .any A l=[]:=by
        cases hr:Region.ready .any A l with
        |nil=>rfl
        |cons x xs=>
         rw[hr]at hi;have e:t%(x::xs).length<(x::xs).length:=Nat.mod_lt _ oi;simp at hi;simp at e;omega
   exact c _ _ _ _ _ h (.inr d)
  |some j=>
   simp only[];rw[linearise_go_acc,List.reverse_singleton,List.singleton_append];exact step n l a M w j _ h (List.mem_of_getElem? hi) λm γ' w' q=>ih _ _ m γ' w' q
def q7.draw (d:P.follows .mixedOrders=true) {id:Nat} (h:∀c,q9 E M w c->∀t,q7 P E L main M (G (b.at a (.inRegion A (Region.linearise.go .any A A.size t (Array.replicate A.size false) [])::k)) N) {c with drawn:=c.drawn+1}):q7 P E L main M (G (b.at a (.code (.region id A true)::k)) N) w:=
 q7.mk rfl λc e=>by
  have t:=h c e (c.tape c.drawn (.order b.fn id));refine .ord (es:=#[]) stepG_region_draw rfl (λ_=>rfl) (vc.draw _ _ _) ?_;simp only[Region.schedule,d,Bool.true_or,if_true];exact t
end
section
open Tryz Go.Conc Go.RowKit Go.Conc.Lib Go.ConcR.Gen Go.ConcN.Gen
open Go.ConcR (Payload DC0)
noncomputable abbrev PR:Pq:=prog
noncomputable def LW:Code:=match f10.body with|some (.seq _ (.block _ (.loop c)))=>c|_=>.skip
noncomputable def jny:Array Oper:=match LW with|.seq (.region _ o _) _=>o|_=>#[]
noncomputable def jl2:Code:=match LW with|.seq _ r=>r|_=>.skip
noncomputable def jmj:Array Oper:=match jl2 with|.seq _ (.block _ (.seq _ (.region _ o _)))=>o|_=>#[]
noncomputable def jvl:Array Oper:=match f8.body with|some (.seq _ (.region _ o _))=>o|_=>#[]
noncomputable def bot:Fm:={(default:Fm)with fn:=PR.funcs.size,defers:=[],mode:=.panicking [goexitEntry]}
def slT (G:Grp):Vl:=.slice (PT G.T) G.n G.n
def chC (G:Grp):Vl:=.chan (some G.C)
def pWg (G:Grp):Vl:=.pointer (PT G.Wg)
noncomputable def c8 (G:Grp):Fm:=(baseD 8).at ⟨#[pWg G,PP G.B7,PP G.B6,chC G,slT G,undef],[dcall 9 #[pWg G]]⟩ [.inRegion jvl [2]]
def tW (G:Grp) (u:Nat->Vl):Av:=#[chC G,slT G,u 2,u 3,u 4,chC G,u 6,u 7,u 8,u 9,u 10,u 11,u 12,u 13,u 14,u 15]
noncomputable def jh1 (G:Grp) (u:Nat->Vl):Gn:=Go.Conc.G ((base 10).at ⟨tW G u,[]⟩ [.inRegion jny [0,1],.code jl2,.inLoop LW,.inBlock 0]) [c8 G,bot]
section
variable (A:(Np)->Wv) (Ans:By->By->Prop)
def E0:Env:=⟨41,9,λ_ _=>False,λ_ _ _=>False⟩
structure WK8 (own rd:Nat->Prop) (G:Grp) (w:Wl):Prop where
 lo1:∀b,own b->b<w.heap.size
 lo2:∀b,rd b->b<w.heap.size
 wg:WgL E0 G.Wg w
 lo:A rd w
 txs:∀i,i<G.n->(G.tx i).size<=1500
 W:G.W<=16
 nT:¬rd G.T
 tw:G.T≠G.Wg
 r6:rd G.B6
 r7:rd G.B7
 b6:w.cell? (AD G.B6 0)=some (slT G)
 b7:w.cell? (AD G.B7 0)=some (chC G)
def JbW:Gam->Gn->Wv:=λγ g w=>∃own rd G i u,γ=⟨own,rd,.job G i⟩/\i<G.n/\WK8 A own rd G w/\g=Go.Conc.served (jh1 G u) (.tuple #[jgq G i,.bool true])
def EE:Env:=⟨41,9,Ans,JbW A⟩
end
variable {A:(Np)->Wv} {Ans:By->By->Prop} {own rd:Np} {G:Grp} {D:Wl}
def q10 (A:(Np)->Wv):Prop:=∀rd w D,(∀b,rd b->D.heap[b]?=w.heap[b]?)->D.os=w.os->A rd w->A rd D
def vd {b:Nat} (h:D.heap[b]?=w.heap[b]?) (off:Nat):D.cell? (AD b off)=w.cell? (AD b off):=by simp only[World.cell?,h]
variable {ph:Ph}
def WK8.rely (d:q10 A) (e:ph.grp=some G) (h:WK8 A own rd G w) (r:q9 (EE A Ans) ⟨own,rd,ph⟩ w D):WK8 A own rd G D:=
 ⟨λb c=>yl (h.lo1 b c) (r.own b c),λb c=>yl (h.lo2 b c) (r.rd b c),r.wg G e h.wg,d rd w D r.rd r.os h.lo,h.txs,h.W,h.nT,h.tw,h.r6,h.r7,(vd (r.rd _ h.r6) 0).trans h.b6,(vd (r.rd _ h.r7) 0).trans h.b7⟩
def WK8.kept (h:WK8 A own rd G w) (b:ph.grp=some G):jkd (EE A Ans) own rd ph w:=⟨h.lo1,h.lo2,λd q=>by rw[b]at q;cases q;exact h.wg⟩
def WK8.same (f:q10 A) {j:Np} (h:WK8 A own rd G w) (c:∀b,(rd b\/b=G.Wg)->D.heap[b]?=w.heap[b]?) (k:D.os=w.os) (g:∀b,j b->b<D.heap.size):WK8 A j rd G D:=by
 obtain⟨a,s,e⟩:=h.wg;exact⟨g,λb d=>yl (h.lo2 b d) (c b (.inl d)),⟨a,s,(c _ (.inr rfl)).trans e⟩,f rd w D (λb d=>c b (.inl d)) k h.lo,h.txs,h.W,h.nT,h.tw,h.r6,h.r7,(vd (c _ (.inl h.r6)) 0).trans h.b6,(vd (c _ (.inl h.r7)) 0).trans h.b7⟩
def WK8.wgLt (h:WK8 A own rd G w):G.Wg<w.heap.size:=by obtain⟨a,s,e⟩:=h.wg;exact(mw.1 e).1
def WK8.alloc (d:q10 A) (h:WK8 A own rd G w) (o:Obj):WK8 A (λx=>own x\/x=w.heap.size) rd G (w.alloc o):=
 h.same d (λb c=>by
  have:b<w.heap.size:=c.elim (h.lo2 b) λq=>q▸h.wgLt;show (w.heap.push o)[b]?=_
  simp[Array.getElem?_push,show b≠w.heap.size by omega]) rfl λb c=>by
  have:(w.alloc o).heap.size=w.heap.size+1:=by show (w.heap.push o).size=_;simp
  obtain q|q:=c
  .have:=h.lo1 b q;omega
  omega
variable {S:Np}
def Chg.trans {e:Wl} (a:Chg S w D) (b:Chg S D e):Chg S w e:=⟨Nat.le_trans a.size b.size,λx c d=>(b.out x (mN c a.size) d).trans (a.out x c d),b.os.trans a.os,b.output.trans a.output⟩
def vc.chg {k:Array Event} (c:Chg S w D) (d:∀b,S b->γ.own b) (f:∀e∈k,EvG γ.own γ.rd e):vc γ w D k γ:=
 ⟨c.size,λb g j=>c.out b g λq=>j (d b q),λ_ h=>h,λ_ h=>.inl h,rfl,rfl,c.os,c.output,f⟩
variable {B:Nat}
def WK8.chg (e:q10 A) (h:WK8 A own rd G w) (c:Chg (·=B) w D) (f:¬rd B) (g:B≠G.Wg):WK8 A own rd G D:=
 h.same e (λb d=>c.out b (d.elim (h.lo2 b) λq=>q▸h.wgLt) λq=>d.elim (λz=>f (q▸z)) λz=>g (q.symm.trans z)) c.os λb d=>mN (h.lo1 b d) c.size
def juh (P:Pq) (w:Wl) (b:Array Event) (a:Addr) (m:Mode) (s:By):(store a (.string s) m).events P w b=storedEv P w b a (.string s) m:=events_store P w b a _ m rfl
def ji5 {P:Pq} {fn:Fi} {o:Oper} (h:∀e,e∈listed P fn a o w->False):listed P fn a o w=#[]:=Array.eq_empty_iff_forall_not_mem.2 h
def juz:(PR.funcs[(base 10).fn]?).any (·.norace)=false:=oh
def jt4:PR.follows .mixedOrders=true:=oh
def jun (T:Av):QuitsD PR 2 0 (Go.Conc.G {(baseD 8).at ⟨T,[]⟩ []with mode:=.returning} [bot]):=by
 refine QuitsD.ctl (g':=Go.Conc.G bot []) rfl (λw=>?_) ?_
 .simp[Go.Conc.G,stepG,unwind,doReturn,results,Frame.at,baseD,bot,func8,f8,seen,GStep.after,goexitEntry]
 refine QuitsD.ctl (g':={Go.Conc.G bot []with status:=.finished}) rfl (λw=>?_) ⟨rfl,rfl⟩;simp[Go.Conc.G,stepG,unwind,bot,goexitEntry,Frame.catches];rfl
def jmv (d:q10 A) (u:Nat->Vl) (h:WK8 A own rd G w):q7 PR (EE A Ans) Post false ⟨own,rd,.drained G⟩ (Go.Conc.served (jh1 G u) (.tuple #[zR,.bool false])) w:=by
 letI:Payload:=⟨0⟩
 have c:∀{a b:Wl},WK8 A own rd G a->q9 (EE A Ans) ⟨own,rd,.drained G⟩ a b->WK8 A own rd G b:=λh r=>h.rely d rfl r;refine q7.by (m:=40) ?_;unfold jh1;rw[served_G];simp only[jny,jl2,LW,f10,tW,zR]
 walk_nrm;refine Fz @c h λ_ h=>?_
 u_exit c h
 refine Fz @c h λ_ h=>?_
 simp only[c8,jvl,f8];u_leave0 func10 c h
 refine Fz @c h λ_ h=>?_
 u_in c h
 rw[stepG_unwind_enter rfl func9 (nm_done lnk) rfl];simp only[goes_go];refine⟨by u_nil,?_⟩;refine mz λD r=>?_;replace h:=c h r
 walk_nrmf f9
 exact jqf (E:=EE A Ans) (Post:=Post) (γ:=⟨own,rd,.drained G⟩) (w:=D) (G1:=G) jkz rfl (C:=G.B6) h.r6 h.W rfl rfl (jun _) h.wg h.b6
def jq7 (u:Nat->Vl) (w:Wl):stepG PR false (jh1 G u) w=.comm (jh1 G u) #[rcase G.C zR] true (.recv true) w #[]:=by
 unfold jh1;rw[stepG_comm (o:=jny.getD 0 default) (cases:=#[rcase G.C zR]) (blocking:=true) (shape:=.recv true) (w':=w) rfl rfl oj ?_]
 .have:listed PR (base 10).fn ⟨tW G u,[]⟩ (jny.getD 0 default) w=#[]:=ji5 λe b=>by
   have c:=mem_listed b;simp[jny,LW,f10,go_sem,tW,chC,execOp]at c
  rw[this]
 simp[jny,LW,f10,go_sem,tW,chC,execOp,zR,rcase];rfl
def jlw (b:q10 A) (u:Nat->Vl) (h:WK8 A own rd G w):q7 PR (EE A Ans) Post false ⟨own,rd,.work G⟩ (jh1 G u) w:=
 q7.mk rfl λD c=>by
  replace h:=h.rely b rfl c;refine .recv rfl rfl (λw=>?_) (λi d=>⟨own,rd,G,i,u,rfl,d,?_,rfl⟩) (jmv b u ?_)
  .exact jq7 u w
  .exact h
  exact h
noncomputable def okR (l:List Bool):Bool:=match l with
 |[b0,b1,b2,b3,b4,b5,b6,b7]=>!((!b2||b1)&&(!b4||b3)&&(!b5||b4)&&(!b6||(b0&&b2))&&(!b7||(b0&&b1&&b2&&b3&&b4&&b5&&b6)))||
  ((Region.ready .any jmj #[b0,b1,b2,b3,b4,b5,b6,b7]).all λj=>match j with
    |0=>!b0&&!b7|1=>!b1&&!b7|2=>!b2&&b1&&!b7|3=>!b3&&!b7|4=>!b4&&b3&&!b7|5=>!b5&&b4&&!b7|6=>!b6&&b0&&b2&&!b7|7=>!b7&&b0&&b1&&b2&&b3&&b4&&b5&&b6|_=>false)&&
  (!(Region.ready .any jmj #[b0,b1,b2,b3,b4,b5,b6,b7]).isEmpty||(b0&&b1&&b2&&b3&&b4&&b5&&b6&&b7))
 |_=>true
def bls:Nat->List (List Bool)
 |0=>[[]]
 |n+1=>(bls n).flatMap λl=>[false::l,true::l]
def jpk:∀l:List Bool,l∈bls l.length
 |[]=>by simp[bls]
 |b::l=>by
  have:=jpk l;simp only[bls,List.length_cons,List.mem_flatMap];exact⟨l,this,by cases b<;>simp⟩
def jty:(bls 8).all okR=true:=oh
def jr8 (b c d e f g h j:Bool):okR [b,c,d,e,f,g,h,j]=true:=mW.1 jty _ (jpk _)
def tR (G:Grp) (u:Nat->Vl) (i B:Nat) (v:By) (b0 b1 b2 b3 b4 b5 b6:Bool):Av:=
 #[chC G,slT G,u 2,u 3,PP B,chC G,.tuple #[.agg #[U i,.string (G.tx i)],.bool true],.bool true,.agg #[U i,.string (G.tx i)],cond b0 (slT G) (u 9),cond b1 (PP B) (u 10),cond b2 (U i) (u 11),cond b3 (.pointer (some (AD B 1))) (u 12),cond b4 (.string (G.tx i)) (u 13),cond b5 (.string v) (u 14),cond b6 (.pointer (some (AD G.T i))) (u 15)]
def nb (b:Bool):Nat:=cond b 0 1
def QR (A:(Np)->Wv) (Ans:By->By->Prop) (rd:Np) (G:Grp) (u:Nat->Vl) (i B:Nat) (n:Nat) (l:Array Bool) (a:Act) (γ:Gam) (w:Wl):Prop:=
 ∃(b0 b1 b2 b3 b4 b5 b6 b7:Bool) (v:By) (tot:Np),l=#[b0,b1,b2,b3,b4,b5,b6,b7]/\n=nb b0+nb b1+nb b2+nb b3+nb b4+nb b5+nb b6+nb b7/\
  ((!b2||b1)&&(!b4||b3)&&(!b5||b4)&&(!b6||(b0&&b2))&&(!b7||(b0&&b1&&b2&&b3&&b4&&b5&&b6)))=true/\(b5=true->Ans (G.tx i) v)/\a=⟨tR G u i B v b0 b1 b2 b3 b4 b5 b6,[]⟩/\WK8 A tot rd G w/\
  (b7=false->γ=⟨tot,rd,.job G i⟩/\tot B/\w.heap[B]?=some (.cells #[U i,.string (G.tx i)] 45))/\(b7=true->γ=⟨tot,rd,.work G⟩)
def jgh (A:(Np)->Wv) (Ans:By->By->Prop) (Post:Vl->Wv):Prop:=∀s:By,s.size<=1500->jug PR (EE A Ans) Post A 6 #[.string s] λv=>∃t,v=.string t/\Ans s t
variable {u:Nat->Vl}
def QR.case {n:Nat} {l:Array Bool} {j:Nat} (q:QR A Ans rd G u i B (n+1) l a γ w) (p:j∈Region.ready .any jmj l):
 ∃(d e b f c g h:Bool) (v:By) (k:Nat->Prop),l=#[d,e,b,f,c,g,h,false]/\n+1=nb d+nb e+nb b+nb f+nb c+nb g+nb h+1/\((!b||e)&&(!c||f)&&(!g||c)&&(!h||(d&&b)))=true/\(g=true->Ans (G.tx i) v)/\a=⟨tR G u i B v d e b f c g h,[]⟩/\WK8 A k rd G w/\γ=⟨k,rd,.job G i⟩/\k B/\w.heap[B]?=some (.cells #[U i,.string (G.tx i)] 45)/\
  ((j=0/\d=false)\/(j=1/\e=false)\/(j=2/\b=false/\e=true)\/(j=3/\f=false)\/(j=4/\c=false/\f=true)\/(j=5/\g=false/\c=true)\/(j=6/\h=false/\d=true/\b=true)\/(j=7/\d=true/\e=true/\b=true/\f=true/\c=true/\g=true/\h=true)):=by
 obtain⟨d,e,b,f,c,g,h,m,v,k,rfl,r,o,s,rfl,x,y,F⟩:=q;have ok:=jr8 d e b f c g h m;unfold okR at ok;simp only[o,Bool.not_true,Bool.false_or,Bool.and_eq_true]at ok;have:=mW.1 ok.1 j p;have z:m=false:=by
  match j,this with
  |0,this=>simp at this;exact this.2
  |1,this=>simp at this;exact this.2
  |2,this=>simp at this;exact this.2
  |3,this=>simp at this;exact this.2
  |4,this=>simp at this;exact this.2
  |5,this=>simp at this;exact this.2
  |6,this=>simp at this;exact this.2
  |7,this=>simp at this;exact this.1.1.1.1.1.1.1
  |n+8,this=>cases this
 subst z;obtain⟨rfl,C,E⟩:=y rfl;refine⟨d,e,b,f,c,g,h,v,k,rfl,r,by simpa using o,s,rfl,x,rfl,C,E,?_⟩;match j,this with
 |0,this=>simp at this;simp[this]
 |1,this=>simp at this;simp[this]
 |2,this=>simp at this;simp[this]
 |3,this=>simp at this;simp[this]
 |4,this=>simp at this;simp[this]
 |5,this=>simp at this;simp[this]
 |6,this=>simp at this;simp[this]
 |7,this=>simp at this;simp[this]
 |n+8,this=>cases this
def QR.rely (c:q10 A) {b:Np} (d:WK8 A b rd G w) (e:b B) (f:w.heap[B]?=some (.cells #[U i,.string (G.tx i)] 45)) (r:q9 (EE A Ans) ⟨b,rd,.job G i⟩ w D):WK8 A b rd G D/\D.heap[B]?=some (.cells #[U i,.string (G.tx i)] 45):=⟨d.rely c rfl r,(r.own B e).trans f⟩
def jqe (s:q10 A) (Z:jgh A Ans Post) (R:i<G.n) {k:List Item} (n:Nat) (l:Array Bool) (a:Act) (γ:Gam) (w:Wl) (j:Nat) (rest:List Nat) (q:QR A Ans rd G u i B (n+1) l a γ w) (V:j∈Region.ready .any jmj l)
 (K:∀a' γ' w',QR A Ans rd G u i B n (l.setIfInBounds j true) a' γ' w'->q7 PR (EE A Ans) Post false γ' (Go.Conc.G ((base 10).at a' (.inRegion jmj rest::k)) [c8 G,bot]) w'):
 q7 PR (EE A Ans) Post false γ (Go.Conc.G ((base 10).at a (.inRegion jmj (j::rest)::k)) [c8 G,bot]) w:=by
 obtain⟨z,C,E,F,H,p,r,v,M,rfl,J,I,L,rfl,b,rfl,h,d,cs⟩:=q.case V;clear q V;simp only[jmj,jl2,LW,f10]at K ⊢;have c0:∀{w2:Wl},w2.heap[B]?=some (.cells #[U i,.string (G.tx i)] 45)->w2.cell? (AD B 0)=some (U i):=λe=>by simp[World.cell?,e]
 have c1:∀{w2:Wl},w2.heap[B]?=some (.cells #[U i,.string (G.tx i)] 45)->w2.cell? (AD B 1)=some (.string (G.tx i)):=λe=>by simp[World.cell?,e]
 have l1:(i:Int)<(G.n:Int):=oe;have l0:(0:Int)<=(i:Int):=oe;obtain⟨rfl,rfl⟩|⟨rfl,rfl⟩|⟨rfl,rfl,rfl⟩|⟨rfl,rfl⟩|⟨rfl,rfl,rfl⟩|⟨rfl,rfl,rfl⟩|⟨rfl,rfl,rfl,rfl⟩|⟨rfl,rfl,rfl,rfl,rfl,rfl,rfl,rfl⟩:=cs
 .refine q7.opM rfl rfl oj rfl λw2 m N x=>?_;obtain⟨b,d⟩:=QR.rely s b h d m;unfold tR
  go_simp;refine x _ _ ⟨_,vc.reads (λe y=>?_),K _ _ _ ⟨true,C,E,F,H,p,r,false,v,M,rfl,by simp[nb]at J ⊢;omega,(by revert I;cases C<;>cases E<;>cases F<;>cases H<;>cases p<;>cases r<;>decide),L,rfl,b,λ_=>⟨rfl,h,d⟩,(λq=>oA)⟩⟩;have o:=mem_listed y;simp[go_sem,tR, *]at o
 .refine q7.opM rfl rfl oj rfl λw2 m N x=>?_;obtain⟨b,d⟩:=QR.rely s b h d m;unfold tR
  go_simp;refine x _ _ ⟨_,vc.reads (λe y=>?_),K _ _ _ ⟨z,true,E,F,H,p,r,false,v,M,rfl,by simp[nb]at J ⊢;omega,(by revert I;cases z<;>cases E<;>cases F<;>cases H<;>cases p<;>cases r<;>decide),L,rfl,b,λ_=>⟨rfl,h,d⟩,(λq=>oA)⟩⟩;have o:=mem_listed y;simp[go_sem,tR, *]at o
 .refine q7.opM rfl rfl oj rfl λw2 m N x=>?_;obtain⟨b,d⟩:=QR.rely s b h d m;have hc0:=c0 d;unfold tR
  go_simp;refine x _ _ ⟨_,vc.reads (λe y=>?_),K _ _ _ ⟨z,true,true,F,H,p,r,false,v,M,rfl,by simp[nb]at J ⊢;omega,(by revert I;cases z<;>cases F<;>cases H<;>cases p<;>cases r<;>decide),L,rfl,b,λ_=>⟨rfl,h,d⟩,(λq=>oA)⟩⟩;have o:=mem_listed y;simp[go_sem,tR, *]at o;subst o;exact .inl h
 .refine q7.opM rfl rfl oj rfl λw2 m N x=>?_;obtain⟨b,d⟩:=QR.rely s b h d m;unfold tR
  go_simp;refine x _ _ ⟨_,vc.reads (λe y=>?_),K _ _ _ ⟨z,C,E,true,H,p,r,false,v,M,rfl,by simp[nb]at J ⊢;omega,(by revert I;cases z<;>cases C<;>cases E<;>cases H<;>cases p<;>cases r<;>decide),L,rfl,b,λ_=>⟨rfl,h,d⟩,(λq=>oA)⟩⟩;have o:=mem_listed y;simp[go_sem,tR, *]at o
 .refine q7.opM rfl rfl oj rfl λw2 m N x=>?_;obtain⟨b,d⟩:=QR.rely s b h d m;have O:=c1 d;unfold tR
  go_simp;refine x _ _ ⟨_,vc.reads (λe y=>?_),K _ _ _ ⟨z,C,E,true,true,p,r,false,v,M,rfl,by simp[nb]at J ⊢;omega,(by revert I;cases z<;>cases C<;>cases E<;>cases p<;>cases r<;>decide),L,rfl,b,λ_=>⟨rfl,h,d⟩,(λq=>oA)⟩⟩;have o:=mem_listed y;simp[go_sem,tR, *]at o;subst o;exact .inl h
 .refine q7.callS (Z (G.tx i) (b.txs i R)) rfl rfl oj rfl func6 oh rfl (by simp[tR,Act.eval]) rfl (λc I l k e=>?_) (b.kept rfl) (λw2 m=>(b.rely s rfl m).lo) λtot' w2 v' g h2 h3 m=>?_
  .simp only[List.mem_cons,List.not_mem_nil,or_false]at I;obtain rfl|rfl|rfl:=I
   .simp[Frame.at]at e
   .simp[c8,Frame.at]at e
   cases e
  obtain⟨t,rfl,P⟩:=g;obtain⟨b,d⟩:=QR.rely s b h d m;exact K _ _ _ ⟨z,C,E,F,true,true,r,false,t,tot',rfl,by simp[nb]at J ⊢;omega,(by revert I;cases z<;>cases C<;>cases E<;>cases F<;>cases r<;>decide),λ_=>P,rfl,b.same s (λ_ _=>rfl) rfl h3,λ_=>⟨rfl,h2 _ h,d⟩,(λq=>oA)⟩
 .refine q7.opM rfl rfl oj rfl λw2 m N x=>?_;obtain⟨b,d⟩:=QR.rely s b h d m;unfold tR slT
  go_simp;refine x _ _ ⟨_,vc.reads (λe y=>?_),K _ _ _ ⟨true,C,true,F,H,p,true,false,v,M,rfl,by simp[nb]at J ⊢;omega,(by revert I;cases C<;>cases F<;>cases H<;>cases p<;>decide),L,rfl,b,λ_=>⟨rfl,h,d⟩,(λq=>oA)⟩⟩;have o:=mem_listed y;simp[go_sem,tR,slT, *]at o
 refine q7.mk rfl λw2 m=>.told rfl rfl λW P=>?_;obtain⟨b,d⟩:=QR.rely s b h d m;obtain⟨X,Q⟩:=P;have Q:W.size=G.n:=Q
 have O:w2.cell? (AD G.T i)=some (W[i]' oe):=by simp[World.cell?,X,Q,R]
 have Y:w2.frozen? (AD G.T i)=false:=by simp[World.frozen?,X]
 refine⟨_,v,L rfl,(stepG_none (w':=w2.setCell (AD G.T i) (.string v)) rfl rfl oj (by simp[execOp,go_sem,tR,stored,O,Y])).trans ?_,rfl,K _ _ _ ⟨true,true,true,true,true,true,true,true,v,M,rfl,by simp[nb]at J ⊢;omega,rfl,L,rfl,b.chg s (Chg.cell (a:=AD G.T i) rfl) b.nT b.tw,(λq=>oA),λ_=>rfl⟩⟩;unfold listed;rw[show Sem.events PR (execOp _ _) w2 #[]=#[⟨.cell (AD G.T i),true,false⟩] by simp[execOp,go_sem,juh,tR,storedEv,O,Y],seen_eq juz oi];rfl
def jso (o:q10 A) (n:Nat) (l:Array Bool) (a:Act) (γ:Gam) (w:Wl) (q:QR A Ans rd G u i B n l a γ w) (g:n=0\/Region.ready .any jmj l=[]):q7 PR (EE A Ans) Post false γ (Go.Conc.G ((base 10).at a [.inRegion jmj [],.inBlock 1,.inLoop LW,.inBlock 0]) [c8 G,bot]) w:=by
 letI:Payload:=⟨0⟩
 obtain⟨p,s,x,y,z,C,E,j,v,k,rfl,F,H,L,rfl,c,M,I⟩:=q;have J:j=true:=by
  obtain rfl|g:=g
  .cases j
   .simp[nb]at F
   rfl
  have ok:=jr8 p s x y z C E j;unfold okR at ok;simp only[H,g,Bool.not_true,Bool.false_or,Bool.and_eq_true,List.isEmpty_nil]at ok;exact ok.2.2
 subst J;have K:=I rfl;subst K;have d:∀{a b:Wl},WK8 A k rd G a->q9 (EE A Ans) ⟨k,rd,.work G⟩ a b->WK8 A k rd G b:=λh r=>h.rely o rfl r;refine q7.by (m:=10) ?_
 (first|refine oZ om ?_|u_reg d c|u_cnd true d c|u_cnd false d c|u_skip d c|u_defer d c|u_op d c)
 (first|refine oZ om ?_|u_reg d c|u_cnd true d c|u_cnd false d c|u_skip d c|u_defer d c|u_op d c)
 u_c stepG_inLoop d c
 have e:LW=.seq (.region 1 jny false) jl2:=oh;rw[e];u_c stepG_seq d c
 u_in d c
 rw[stepG_region];simp only[goes_go];refine⟨by u_nil,?_⟩;refine mz λN r=>?_;replace c:=d c r;have t:=jlw (Ans:=Ans) (Post:=Post) o (λm=>(tR G u i B v p s x y z C E).getD m undef) c;unfold jh1 at t;rw[e]at t;exact t
def jrh (g:q10 A) (I:jgh A Ans Post) (u:Nat->Vl) (J:i<G.n) (h:WK8 A own rd G w):q7 PR (EE A Ans) Post false ⟨own,rd,.job G i⟩ (Go.Conc.served (jh1 G u) (.tuple #[jgq G i,.bool true])) w:=by
 letI:Payload:=⟨0⟩
 have c:∀{a b:Wl},WK8 A own rd G a->q9 (EE A Ans) ⟨own,rd,.job G i⟩ a b->WK8 A own rd G b:=λh r=>h.rely g rfl r;refine q7.by (m:=40) ?_;unfold jh1;rw[served_G];simp only[jny,jl2,LW,f10,tW,jgq]
 walk_nrm;refine Fz @c h λ_ h=>?_
 refine mz λD r=>?_;replace h:=c h r;refine q7.opM rfl rfl oj rfl λR v K k=>?_;replace h:=c h v
 go_simp;refine k _ _ ⟨_,vc.alloc (λe o=>?_),?_⟩
 .have l:=mem_listed o;simp[go_sem, *]at l
 clear k K;have y:¬rd R.heap.size:=λq=>mM _ (h.lo2 _ q)
 have z:R.heap.size≠G.Wg:=λq=>by have:=h.wgLt;omega
 replace h:=h.alloc g (.cells #[U 0,.string ⟨#[]⟩] 45);generalize C:R.heap.size=B at y z h;have d:(R.alloc (.cells #[U 0,.string ⟨#[]⟩] 45)).heap[B]?=some (.cells #[U 0,.string ⟨#[]⟩] 45):=by
  show (R.heap.push _)[B]?=_;rw[<-C];simp
 generalize R.alloc (.cells #[U 0,.string ⟨#[]⟩] 45)=w3 at h d;clear C v r c;refine q7.opM rfl rfl oj rfl λj p K k=>?_;replace h:=h.rely g rfl p;replace d:=(p.own B (.inr rfl)).trans d
 have L:j.cell? (AD B 0)=some (U 0):=by simp[World.cell?,d]
 have M:j.cell? (AD B 1)=some (.string ⟨#[]⟩):=by simp[World.cell?,d]
 have N:j.frozen? (AD B 0)=false:=by simp[World.frozen?,d]
 have O:j.frozen? (AD B 1)=false:=by simp[World.frozen?,d]
 go_simp;have s:Chg (·=B) j ((j.setCell (AD B 0) (U i)).setCell (AD B 1) (.string (G.tx i))):=Chg.trans (Chg.cell (a:=AD B 0) rfl) (Chg.cell (a:=AD B 1) rfl);refine k _ _ ⟨_,vc.chg s (λb q=>.inr q) (λe o=>?_),?_⟩
 .have l:=mem_listed o;simp[go_sem,juh,storedEv, *]at l;obtain rfl|rfl:=l
  .exact .inl (.inr rfl)
  exact .inl (.inr rfl)
 clear k K;replace h:=h.chg g s y z;replace d:((j.setCell (AD B 0) (U i)).setCell (AD B 1) (.string (G.tx i))).heap[B]?=some (.cells #[U i,.string (G.tx i)] 45):=by
  have:=(mw.1 d).1;simp[World.setCell,Array.getElem?_modify,d]
 generalize (j.setCell (AD B 0) (U i)).setCell (AD B 1) (.string (G.tx i))=w5 at h d;clear s L M N O p;have c:∀{a b:Wl},WK8 A (λx=>own x\/x=B) rd G a/\a.heap[B]?=some (.cells #[U i,.string (G.tx i)] 45)->q9 (EE A Ans) (Gam.grow ⟨own,rd,.job G i⟩ B) a b->WK8 A (λx=>own x\/x=B) rd G b/\b.heap[B]?=some (.cells #[U i,.string (G.tx i)] 45):=λh r=>⟨h.1.rely g rfl r,(r.own B (.inr rfl)).trans h.2⟩;replace h:=And.intro h d;clear d;refine q7.by (m:=40) ?_
 refine Fz @c h λ_ h=>?_
 refine mz λQ E=>?_;replace h:=c h E;clear E;refine q7.draw jt4 λF H t=>?_;replace h:=c h H;clear H c;have P:WK8 A (λx=>own x\/x=B) rd G {F with drawn:=F.drawn+1}:=h.1.same g (λ_ _=>rfl) rfl h.1.lo1;refine q7.sched (QR A Ans rd G u i B) ?_ ?_ 8 t _ _ _ _ ⟨false,false,false,false,false,false,false,false,default,_,rfl,rfl,rfl,(λq=>oA),rfl,P,λ_=>⟨rfl,.inr rfl,h.2⟩,(λq=>oA)⟩
 .exact jqe g I J
 exact jso g
def jvd (b:q10 A) (c:jgh A Ans Post):jqc PR (EE A Ans) Post:=λγ g w h=>by
 obtain⟨own,rd,G,i,u,rfl,d,e,rfl⟩:=h;exact jrh b c u d e
def jly (G:Grp):Deferred:={target:=.fn (.func 8) #[pWg G,PP G.B7,PP G.B6],args:=#[]}
def jq5 (w:Wl):stepG PR false (born PR (jly G)) w=.go (Go.Conc.G ((baseD 8).at ⟨#[pWg G,PP G.B7,PP G.B6,undef,undef,undef],[]⟩ [.code (f8.body.getD .skip)]) [bot]) w #[]:=by
 simp[born,jly,stepG,unwind,callDeferred,invoke,callFunc,func8,f8,seen,GStep.after,Go.Conc.G,Frame.enter,Frame.at,baseD,bot]
def jp7 (k:q10 A) (h:WK8 A own rd G w):q7 PR (EE A Ans) Post false ⟨own,rd,.work G⟩ (born PR (jly G)) w:=by
 letI:Payload:=⟨0⟩
 have c:∀{a b:Wl},WK8 A own rd G a->q9 (EE A Ans) ⟨own,rd,.work G⟩ a b->WK8 A own rd G b:=λh r=>h.rely k rfl r;refine q7.ctl rfl (λw=>jq5 w) ?_;simp only[f8,Option.getD_some];refine q7.by (m:=20) ?_
 refine Fz @c h λ_ h=>?_
 refine mz λD r=>?_;replace h:=c h r;refine q7.opM rfl rfl oj rfl λx l K d=>?_;replace h:=c h l;have n:=h.b7
 go_simp;refine d _ _ ⟨_,vc.reads (λe j=>?_),?_⟩
 .have g:=mem_listed j;simp[go_sem, *]at g;subst g;exact .inr ⟨h.r7,rfl⟩
 clear d K n;refine q7.opM rfl rfl oj rfl λs o K d=>?_;replace h:=c h o;have p:=h.b6
 go_simp;refine d _ _ ⟨_,vc.reads (λe j=>?_),?_⟩
 .have g:=mem_listed j;simp[go_sem, *]at g;subst g;exact .inr ⟨h.r6,rfl⟩
 clear d K p;refine q7.by (m:=20) ?_;u_call func10 oh f10 c h
 refine Fz @c h λ_ h=>?_
 u_c stepG_loop c h
 refine Fz @c h λ_ h=>?_
 refine mz λv q=>?_;replace h:=c h q;have t:=jlw (Ans:=Ans) (Post:=Post) k (λ_=>undef) h;exact t
end
section
def inR (l:List (Nat×Nat)) (f:Nat):Bool:=l.any λr=>decide (r.1<=f)&&decide (f<=r.2)
def ok1 (f:Fi):Bool:=inR [(6,6),(12,18),(37,45),(51,269),(283,284),(290,290),(293,293),(295,296),(305,305)] f||f==RF
def jti (n:String):Bool:=["As","AssignableTo","Elem","Implements","Kind","Unwrap"].contains n
def gl1 (g:Nat):Bool:=decide (g<=7)
def jlu:Nat->Vl->Bool
 |_,.bool _|_,.int _ _|_,.string _|_,.nilFunc|_,.nilIface|_,.pointer none|_,.slice none _ _|_,.map none|_,.chan none=>true
 |n+1,.agg a=>a.toList.all (jlu n)
 |n+1,.tuple a=>a.toList.all (jlu n)
 |_,_=>false
def jre {ok:Fi->Bool} {G:Nat} {p:Ren G}:∀(n:Nat) (v:Vl),jlu n v=true->VR ok p v v:=by
 intro n;induction n with
 |zero=>
  intro v h;cases v with
  |bool=>constructor
  |int=>constructor
  |string=>constructor
  |nilFunc=>constructor
  |nilIface=>constructor
  |pointer o=>cases o<;>first|(cases h;done)|(constructor;done)
  |slice o l c=>cases o<;>first|(cases h;done)|(constructor;done)
  |map o=>cases o<;>first|(cases h;done)|(constructor;done)
  |chan o=>cases o<;>first|(cases h;done)|(constructor;done)
  |_=>cases h
 |succ n ih=>
  have b:∀a:Av,a.toList.all (jlu n)=true->∀(i:Nat) (x y:Vl),a[i]?=some x->a[i]?=some y->VR ok p x y:=λa h i x y d e=>by
   rw[d]at e;cases e;exact ih x (mW.1 h x (by simpa using mS d))
  intro v h;cases v with
  |agg a=>exact .agg rfl (b a h)
  |tuple a=>exact .tuple rfl (b a h)
  |bool=>constructor
  |int=>constructor
  |string=>constructor
  |nilFunc=>constructor
  |nilIface=>constructor
  |pointer o=>cases o<;>first|(cases h;done)|(constructor;done)
  |slice o l c=>cases o<;>first|(cases h;done)|(constructor;done)
  |map o=>cases o<;>first|(cases h;done)|(constructor;done)
  |chan o=>cases o<;>first|(cases h;done)|(constructor;done)
  |_=>cases h
noncomputable def jq3 (ok:Fi->Bool) (okN:String->Bool):Bool:=PR.types.toList.all λi=>(match i.zero with|some v=>jlu 20 v|none=>true)&&i.methods.toList.all λm=>!okN m.name||(match m.func with|some (f,_)=>ok f|none=>true)
def jui:jq3 ok1 jti=true:=oh
noncomputable def juq (ok:Fi->Bool) (okN:String->Bool) (gl:Nat->Bool):Bool:=(List.range PR.funcs.size).all λf=>!ok f||(match PR.funcs[f]?with|some fn=>!(fn.name== "runtime.NumGoroutine")&&(match fn.body with|some c=>j2 ok okN gl PR c|none=>(Extern.findNext fn).isNone)|none=>true)
def jrn:juq ok1 jti gl1=true:=oh
variable {ok:Fi->Bool}
def ju0 {G:Nat}:QOk λv=>∀p:Ren G,VR ok p v v where
 agg a h p:=.agg rfl λi x y b d=>by
  rw[b]at d;cases d;exact h x (mS b) p
 cells v h x b p:=by
  cases v with
  |agg a=>
   have:=h p;cases this with
   |agg s r=>
    obtain⟨i,e⟩:=Array.getElem?_of_mem b;exact r i x x e e
  |_=>
   have:x∈#[_]:=b;rw[Array.mem_singleton]at this;subst this;exact h p
 p _:=.pnil
 s _:=.snil _ _
 m _:=.mnil
 c _:=.cnil
 f _:=.nilFunc
def jrv {b:String->Bool} (h:jq3 ok b=true):∀i∈PR.types,(match i.zero with|some v=>jlu 20 v|none=>true)=true/\∀m∈i.methods,(!b m.name||(match m.func with|some (f,_)=>ok f|none=>true))=true:=λi c=>by
 unfold jq3 at h;have a:i∈PR.types.toList:=Array.mem_toList_iff.2 c;generalize d:PR.types.toList=T at h a
 have:=mW.1 h i a;rw[Bool.and_eq_true]at this;exact⟨this.1,λm a=>mW.1 this.2 m (by simpa using a)⟩
def jpu {a:String->Bool} (h:jq3 ok a=true):∀i∈PR.types,∀v,i.zero=some v->∀p:Ren 7,VR ok p v v:=λi b v c p=>by
 have:=(jrv h i b).1;rw[c]at this;exact jre 20 v this
variable {t:Tp} {i:TypeInfo}
def jmg {a:String->Bool} (h:jq3 ok a=true) (b:PR.info? t=some i):i∈PR.types\/jjh (λv=>∀p:Ren 7,VR ok p v v) i:=jqp ju0 (jpu h) b
def jvf:PR.globals.size=7:=oh
def jsr:PR.follows .staticDataAhead=true:=oh
def jtn (g:Nat) (h:odd g=true):PR.stepOf g=none:=by
 obtain rfl|rfl:=jhb h
 .show PR.stepOf 1000000002=none;kernel_rfl
 show PR.stepOf 1000000003=none;kernel_rfl
variable {n:Nat->Bool}
def jva {d:String->Bool} (h:jq3 ok d=true) (g:n 7=true):Fit 7 PR ok d n:=by
 refine⟨jvf,λt i v a e p=>?_,λt i m f b a c j k=>?_,g,jsr,jtn⟩
 .obtain q|q:=jmg h a
  .exact jpu h i q v e p
  exact q.zero v e p
 obtain q|q:=jmg h a
 .have:=(jrv h i q).2 m c;rw[j,k]at this;simpa using this
 rw[q.meth]at c;simp at c
def jjg:Fit 7 PR ok1 jti gl1:=jva jui rfl
noncomputable def jvh:Bool:=PR.types.toList.all λi=>jix i.desc
def jtz:jvh=true:=oh
def juf (b:PR.info? t=some i):jix i.desc=true:=by
 obtain q|q:=jmg jui b
 .have h:=jtz;unfold jvh at h;have a:i∈PR.types.toList:=Array.mem_toList_iff.2 q;generalize c:PR.types.toList=T at h a;exact mW.1 h i a
 exact q.nf
def jvm (t:Tp) (k):PR.underlying t≠some (.float k)/\PR.underlying t≠some (.complex k):=by
 have c:∀d,PR.underlying t=some d->jix d=true:=λd a=>by
  unfold Program.underlying at a;split at a
  .obtain⟨i,b,rfl⟩:=mL.1 a;exact juf b
  .next i hn b=>cases a;exact juf b
  cases a
 exact⟨λq=>(by have:=c _ q;cases this),λq=>(by have:=c _ q;cases this)⟩
variable {f:Fi} {fn:Func}
def jrq {d:String->Bool} (h:juq ok d n=true) (j:ok f=true) (e:PR.funcs[f]?=some fn):(fn.name== "runtime.NumGoroutine")=false/\(∀c,fn.body=some c->j2 ok d n PR c=true)/\(fn.body=none->Extern.findNext fn=none):=by
 have k:f<PR.funcs.size:=(mw.1 e).1;unfold juq at h;have g:=mT.2 k;generalize List.range PR.funcs.size=R at h g
 have:=mW.1 h f g;simp only[j,e,Bool.not_true,Bool.false_or,Bool.and_eq_true,Bool.not_eq_true']at this;refine⟨this.1,λc b=>?_,λb=>?_⟩
 .have a:=this.2;rw[b]at a;exact a
 have a:=this.2;rw[b]at a;simpa using a
noncomputable def bare (ok:Fi->Bool) (l:List Nat):Bool:=(List.range PR.funcs.size).all λf=>!ok f||(match PR.funcs[f]?with|some fn=>fn.body.isSome||(Extern.find fn).isNone||l.contains f|none=>true)
def juc:List Nat:=[75,144,177,178,179,181,206,222,223,224,265,284,290,293,295,296]
def jt1:bare ok1 juc=true:=oh
def jt0 {l:List Nat} (h:bare ok l=true) {x} (b:ok f=true) (e:PR.funcs[f]?=some fn) (c:fn.body=none) (d:Extern.find fn=some x):f∈l:=by
 have g:f<PR.funcs.size:=(mw.1 e).1;unfold bare at h;have a:=mT.2 g;generalize List.range PR.funcs.size=R at h a
 have:=mW.1 h f a;simp only[b,e,c,d,Bool.not_true,Bool.false_or,Option.isSome_none,Option.isNone_some]at this;simpa using this
end
section
open Tryz
variable {G:Nat} {ok:Fi->Bool} {A:Code->Bool} {B:String->Bool} {j:Nat->Bool}
def jni (F:Fit G P ok B j):q14 ok A P j G (Extern.ReflectliteType.abiMethod λt=>do pure (.int .u8 (<-Extern.Rtype.kind t))):=by
 refine jo0 (jgn rfl λ_ _ _=>rfl) λp hp {x y} hx=>?_;show SR ok A P (VR ok) p (Extern.Rtype.ofHandle x>>=_) (Extern.Rtype.ofHandle y>>=_);refine SR.bind (jha F hp hx) λq t y a e=>?_;cases e;refine SR.bind (jhn _ _) λb _ _ c _=>?_;refine SR.bind (jj8 t) λd k y f e=>?_;cases e;exact qs (.int _ _)
def jqg (F:Fit G P ok B j):q14 ok A P j G (Extern.ReflectliteValue.method (pure (.int .u8 0)) λ_ _ _ k=>pure (.int .u8 (Int.ofNat k))):=
 jg9 F (λp c=>qs (.int _ _)) λp c t a b n k h=>qs (.int _ _)
def jfu {f:Fi} {fn:Func} {x:Av->Sem Vl} {g:Func} {y:Av->Sem Vl} (e:PR.funcs[f]?=some fn) (c:Extern.find fn=some x) (a:PR.funcs[f]?=some g) (b:Extern.find g=some y):x=y:=by
 rw[e]at a;cases a;rw[c]at b;cases b;rfl
def juu {g:Nat} (h:PR.globals.findIdx? (·.name== "internal/bytealg.MaxLen")=some g):gl1 g=true:=by
 have:PR.globals.findIdx? (·.name== "internal/bytealg.MaxLen")=some 0:=oh;rw[this]at h;cases h;rfl
def jvu (f:Fi) (fn:Func) (e:Av->Sem Vl) (c:ok1 f=true) (h:PR.funcs[f]?=some fn) (d:fn.body=none) (a:Extern.find fn=some e):q14 ok1 A PR gl1 7 e:=by
 have b:=jt0 jt1 c h d a;simp only[juc,List.mem_cons,List.not_mem_nil,or_false]at b;obtain rfl|rfl|rfl|rfl|rfl|rfl|rfl|rfl|rfl|rfl|rfl|rfl|rfl|rfl|rfl|rfl:=b
 .rw[jfu h a func75 (by kernel_rfl:_=some _)];exact jml
 .rw[jfu h a func144 (by kernel_rfl:_=some Extern.BytealgIndex.index)];exact jqb λg i=>juu i
 .rw[jfu h a func177 (by kernel_rfl:_=some λargs=>Extern.ReflectliteValue.unpack (args.getD 0 (.tuple #[])))];exact jm6 jjg
 .rw[jfu h a func178 (by kernel_rfl:_=some (Extern.ReflectliteValue.methodAny (Extern.ReflectliteValue.valueError "reflectlite.Value.Type" 0) λt _ _ _=>Extern.ReflectliteType.toType t))];exact jqx jjg
 .rw[jfu h a func179 (by kernel_rfl:_=some (Extern.ReflectliteValue.method (Extern.ReflectliteValue.valueError "reflectlite.Value.IsNil" 0) Extern.ReflectliteValue.isNil))];exact joe jjg
 .rw[jfu h a func181 (by kernel_rfl:_=some Extern.BytealgIndexByte.indexByte)];exact jlr
 .rw[jfu h a func206 (by kernel_rfl:_=some (Extern.BytealgMakeNoZero.makeNoZero f206.params f206.resultTypes))];exact jkm jjg _ _
 .rw[jfu h a func222 (by kernel_rfl:_=some Extern.ReflectliteType.typeOf)];exact jo5 jjg
 .rw[jfu h a func223 (by kernel_rfl:_=some (Extern.ReflectliteValue.method (Extern.ReflectliteValue.valueError "reflectlite.Value.Elem" 0) Extern.ReflectliteValue.elem))];exact jp2 jjg
 .rw[jfu h a func224 (by kernel_rfl:_=some Extern.ReflectliteValue.set)];exact jt6 jjg
 .rw[jfu h a func265 (by kernel_rfl:_=some (Extern.SlicesOverlaps.overlaps f265.params f265.resultTypes))];exact jmw _ _
 .rw[jfu h a func284 (by kernel_rfl:_=some (Extern.ReflectliteType.abiMethod λt=>do pure (.int .u8 (<-Extern.Rtype.kind t))))];exact jni jjg
 .rw[jfu h a func290 (by kernel_rfl:_=some (Extern.ReflectliteValue.method (pure (.int .u8 0)) λ_ _ _ k=>pure (.int .u8 (Int.ofNat k))))];exact jqg jjg
 .rw[jfu h a func293 (by kernel_rfl:_=some (Extern.ReflectliteType.relation "AssignableTo" Extern.ReflectliteType.assignableTo))];exact jj2 jjg
 .rw[jfu h a func295 (by kernel_rfl:_=some (Extern.ReflectliteType.method Extern.ReflectliteType.elem))];exact jp8 jjg
 rw[jfu h a func296 (by kernel_rfl:_=some (Extern.ReflectliteType.relation "Implements" Extern.ReflectliteType.implements_))];exact jj1 jjg
def jup:jhy 7 PR ok1 jti gl1 where
 two:=⟨jjg,jvm,λf fn a e=>(jrq jrn a e).1,λf fn a e=>(jrq jrn a e).2.2,λf fn e a h b d=>jvu f fn e a h b d⟩
 code f fn c a e hc:=(jrq jrn a e).2.1 c hc
end
section
open _root_.Go.Proofs.Tryz Go.Conc Go.RowKit Go.Conc.Lib Go.ConcR.Gen Go.ConcN.Gen
open Go.ConcR (Payload DC0)
noncomputable def LP1:Code:=match f4.body with|some (.seq _ (.seq _ (.seq _ (.seq _ (.seq _ (.seq (.seq _ (.block _ (.loop c))) _))))))=>c|_=>.skip
noncomputable def RS1:Code:=match f4.body with|some (.seq _ (.seq _ (.seq _ (.seq _ (.seq _ (.seq _ r))))))=>r|_=>.skip
noncomputable def LP2:Code:=match RS1 with|.seq (.seq _ (.block _ (.loop c))) _=>c|_=>.skip
noncomputable def RS2:Code:=match RS1 with|.seq _ r=>r|_=>.skip
variable {F:(Np)->Wv} {own rd:Np} {G:Grp} {M:Wl}
structure Sm (A B:Nat->Prop) (w0 w:Wl):Prop where
 same:∀b,A b\/B b->w.heap[b]?=w0.heap[b]?
 os:w.os=w0.os
 output:w.output=w0.output
variable {ph:Ph}
def Sm.rely (h:Sm A B w0 w) (c:∀b,A b->own b) (d:∀b,B b->rd b) (r:q9 E ⟨own,rd,ph⟩ w M):Sm A B w0 M:=
 ⟨λb a=>(a.elim (λq=>r.own b (c b q)) λq=>r.rd b (d b q)).trans (h.same b a),r.os.trans h.os,r.output.trans h.output⟩
structure AK (F:(Nat->Prop)->World->Prop) (A B own rd:Nat->Prop) (G:Grp) (w0 w:Wl):Prop where
 wk:WK8 F own rd G w
 sm:Sm A B w0 w
 ho:∀b,A b->own b
 hr:∀b,B b->rd b
 nw:¬own G.Wg/\¬rd G.Wg
 wp:0<G.W
 nt:¬own G.T
 nc:¬own G.C/\¬rd G.C/\G.C≠G.Wg
def AK.rely (a:q10 F) (b:ph.grp=some G) (h:AK F A B own rd G w0 w) (r:q9 (EE F Ans) ⟨own,rd,ph⟩ w M):AK F A B own rd G w0 M:=⟨h.wk.rely a b r,h.sm.rely h.ho h.hr r,h.ho,h.hr,h.nw,h.wp,h.nt,h.nc⟩
def AK.chg (f:q10 F) {a:Nat} (h:AK F A B own rd G w0 w) (c:Chg (·=a) w M) (d:a=G.T\/a=G.C):AK F A B own rd G w0 M:=by
 have e:¬own a/\¬rd a/\a≠G.Wg:=by obtain rfl|rfl:=d;exact⟨h.nt,h.wk.nT,h.wk.tw⟩;exact h.nc
 refine⟨h.wk.chg f c e.2.1 e.2.2,⟨λb d=>?_,c.os.trans h.sm.os,c.output.trans h.sm.output⟩,h.ho,h.hr,h.nw,h.wp,h.nt,h.nc⟩;have g:b<w.heap.size:=d.elim (λq=>h.wk.lo1 b (h.ho b q)) λq=>h.wk.lo2 b (h.hr b q);exact(c.out b g λq=>d.elim (λz=>e.1 (q▸h.ho b z)) λz=>e.2.1 (q▸h.hr b z)).trans (h.sm.same b d)
structure BK (F:(Nat->Prop)->World->Prop) (Ans:By->By->Prop) (A B own rd:Nat->Prop) (G:Grp) (w0 w:Wl):Prop where
 sm:Sm A B w0 w
 lo1:∀b,own b->b<w.heap.size
 lo2:∀b,rd b->b<w.heap.size
 lo:F rd w
 b6:w.cell? (AD G.B6 0)=some (slT G)
 full:jkl (EE F Ans) G w
def BK.rely (f:q10 F) (c:(∀b,A b->own b)/\(∀b,B b->rd b)/\rd G.B6) (g:(∀b,own b->γ.own b)/\γ.own G.T/\γ.rd=rd) (h:BK F Ans A B own rd G w0 w) (r:q9 E γ w M):BK F Ans A B own rd G w0 M:=by
 obtain⟨d,i,rfl⟩:=g;obtain⟨cs,e,j⟩:=h.full;exact⟨⟨λb a=>(a.elim (λq=>r.own b (d b (c.1 b q))) λq=>r.rd b (c.2.1 b q)).trans (h.sm.same b a),r.os.trans h.sm.os,r.output.trans h.sm.output⟩,λb a=>yl (h.lo1 b a) (r.own b (d b a)),λb a=>yl (h.lo2 b a) (r.rd b a),f _ w M r.rd r.os h.lo,(vd (r.rd _ c.2.2) 0).trans h.b6,⟨cs,⟨(r.own _ i).trans e.1,e.2⟩,j⟩⟩
def tA (sv:Vl) (G:Grp) (j:Vl) (u:Nat->Vl):Av:=
 #[sv,U G.W,u 2,u 3,u 4,u 5,PP G.B6,PP G.B7,pWg G,u 9,u 10,u 11,u 12,u 13,u 14,u 15,u 16,u 17,u 18,u 19,u 20,u 21,u 22,u 23,u 24,u 25,u 26,U G.W,j,u 29,u 30,u 31,u 32,u 33,u 34,u 35,u 36,u 37,u 38,u 39,u 40,u 41,u 42,u 43,u 44,u 45,u 46,u 47]
section
variable {H:Fm} {I:Act} {J:Nat} {L:List Item}
def q7.leave2 {h:Bool} {b:Fm} {a:Act} {todo:List Item} {P:Pq} {fn:Func} {s t:Tmp} (d:b.kind=.normal) (e:a.defers=[]) (f:P.funcs[b.fn]?=some fn) (c:fn.results=#[.tmp s,.tmp t])
 (g:q7 P E Post h γ (Go.Conc.G (H.at (I.put ((C[J]?).bind (·.dst)) (.tuple #[a.tmps.getD s undef,a.tmps.getD t undef])) (.inRegion C D::L)) cs) w):
 q7 P E Post h γ (Go.Conc.G {b.at a todo with mode:=.returning} (H.at I (.inRegion C (J::D)::L)::cs)) w:=
 .ctl rfl (λw=>by rw[stepG_leave d e f (results_tmp2 c _ P w) (events_results_tmp2 c _ _),Frame.finish_at]) g
def jg3 (F:(Np)->Wv) (Ans:By->By->Prop) (Post:Vl->Wv) (A B:Np) (n:Nat) (tx:Nat->By) (w0:Wl) (H:Fm) (I:Act) (C:Array Oper) (J:Nat) (D:List Nat) (L:List Item) (cs:List Fm):Prop:=
 ∀(own rd:Np) (T:Nat) (w:Wl),(∀b,A b->own b)->(∀b,B b->rd b)->(∀b,own b->b<w.heap.size)->(∀b,rd b->b<w.heap.size)->F rd w->Sm A B w0 w->own T->(∀i,i<n->∃v,w.cell? (AD T i)=some (.string v)/\Ans (tx i) v)->
  q7 PR (EE F Ans) Post true ⟨own,rd,.idle⟩ (Go.Conc.G (H.at (I.put ((C[J]?).bind (·.dst)) (.tuple #[.slice (PT T) n n,.nilIface])) (.inRegion C D::L)) cs) w
def js4 (x:q10 F) (sv j:Vl) (u:Nat->Vl) (h:AK F A B own rd G w0 w) (Y:jg3 F Ans Post A B G.n G.tx w0 H I C J D L cs):
 q7 PR (EE F Ans) Post true ⟨own,rd,.open_ G G.W G.n⟩ (Go.Conc.G ((base 4).at ⟨tA sv G j u,[]⟩ [.code RS2]) (H.at I (.inRegion C (J::D)::L)::cs)) w:=by
 letI:Payload:=⟨0⟩
 have g:∀{a b:Wl},AK F A B own rd G w0 a->q9 (EE F Ans) ⟨own,rd,.open_ G G.W G.n⟩ a b->AK F A B own rd G w0 b:=λh r=>h.rely x rfl r;refine q7.by (m:=20) ?_;simp only[RS2,RS1,f4,tA]
 refine Fz @g h λ_ h=>?_
 refine mz λM r=>?_;replace h:=g h r;refine q7.opM rfl rfl oj rfl λw2 o K p=>?_;replace h:=g h o;have Z:=h.wk.b7
 go_simp;refine p _ _ ⟨_,vc.reads (λe N=>?_),?_⟩
 .have t:=mem_listed N;simp[go_sem, *]at t;subst t;exact .inr ⟨h.wk.r7,rfl⟩
 clear p K Z r o;refine q7.mk rfl λl y=>.close rfl rfl (λs r O P=>?_) (by simp[mayWake,Go.Conc.G,Frame.at]);replace h:=g h y;refine⟨_,(stepG_close rfl rfl oX rfl (c:=G.C) rfl P oh).trans (by rfl),rfl,?_⟩;have Q:Chg (·=G.C) l {l with heap:=l.heap.setIfInBounds G.C (.chan 0 #[] true s r O)}:=Chg.set rfl;replace h:AK F A B own rd G w0 {l with heap:=l.heap.setIfInBounds G.C (.chan 0 #[] true s r O)}:=h.chg x Q (.inr rfl)
 generalize ({l with heap:=l.heap.setIfInBounds G.C (.chan 0 #[] true s r O)}:Wl)=w4 at h;clear Q P y g;have g:∀{a b:Wl},AK F A B own rd G w0 a->q9 (EE F Ans) ⟨own,rd,.shut G⟩ a b->AK F A B own rd G w0 b:=λh r=>h.rely x rfl r;refine q7.by (m:=20) ?_
 walk_nrm;refine Fz @g h λ_ h=>?_
 refine mz λw5 R=>?_;replace h:=g h R;clear R;refine q7.call (f:=lnk.wait) rfl rfl oX rfl jkz.f_wait (nm_wait lnk) (show (waitFn lnk).body=some (body_wait lnk)from rfl) ?_
 walk_nrm;simp only[pWg];refine jq6 (γ:=⟨own,rd,.shut G⟩) (G1:=G) jkz rfl rfl h.wk.W h.nw.1 h.nw.2 h.wk.wg λw6 w7 S U V=>?_;replace h:=g h S;have d:BK F Ans A B own rd G w0 w6:=⟨h.sm,h.wk.lo1,h.wk.lo2,h.wk.lo,h.wk.b6,U⟩;have z:(∀b,A b->own b)/\(∀b,B b->rd b)/\rd G.B6:=⟨h.ho,h.hr,h.wk.r6⟩;have k:∀{a b:Wl},BK F Ans A B own rd G w0 a->q9 (EE F Ans) (Gam.back ⟨own,rd,.shut G⟩ G) a b->BK F Ans A B own rd G w0 b:=λq r=>q.rely x z (γ:=Gam.back ⟨own,rd,.shut G⟩ G) ⟨λ_ h=>Or.inl h,Or.inr rfl,rfl⟩ r;replace d:=k d V;clear h g S V U;refine q7.by (m:=20) ?_
 walk_nrm;refine Fz @k d λ_ d=>?_
 refine mz λM r=>?_;replace d:=k d r;refine q7.opM rfl rfl oj rfl λw2 o K p=>?_;replace d:=k d o;have f6:=d.b6
 go_simp;refine p _ _ ⟨_,vc.reads (λe N=>?_),?_⟩
 .have t:=mem_listed N;simp[go_sem, *]at t;subst t;exact .inr ⟨z.2.2,rfl⟩
 clear p K f6 r o;refine q7.by (m:=20) ?_;refine Fz @k d λ_ d=>?_
 refine mz λl y=>?_;replace d:=k d y;refine q7.leave2 rfl rfl func4 rfl ?_;obtain⟨c,X,hc2⟩:=d.full;refine Y (λb=>own b\/b=G.T) rd G.T l (λb q=>.inl (z.1 b q)) z.2.1 (λb q=>q.elim (d.lo1 b) λe=>by rw[e];exact(mw.1 X.1).1) d.lo2 d.lo d.sm (.inr rfl) λi hi=>?_;obtain⟨v,e1,e2⟩:=hc2 i hi;exact⟨v,by simp[World.cell?,X.1,e1],e2⟩
end
end
section
open _root_.Go.Proofs.Tryz Go.Conc Go.RowKit Go.Conc.Lib Go.ConcR.Gen Go.ConcN.Gen
open Go.ConcR (Payload DC0)
variable {D:(Np)->Wv} {own rd:Np} {G:Grp}
variable {E:Array Oper} {C:List Nat}
def jit (B:Np) (w0:Wl) (sv:Vl) (n:Nat) (tx:Nat->By):Prop:=∃b c,sv=.slice b n c/\(0<n->∃bl o,b=some (AD bl o)/\B bl/\∀j,j<n->w0.cell? (AD bl (o+j))=some (.string (tx j)))
def tB (sv:Vl) (G:Grp) (j:Vl) (i:Nat) (u:Nat->Vl):Av:=
 #[sv,U G.W,u 2,u 3,u 4,u 5,PP G.B6,PP G.B7,pWg G,u 9,u 10,u 11,u 12,u 13,u 14,u 15,u 16,u 17,u 18,u 19,u 20,u 21,u 22,u 23,u 24,u 25,u 26,U G.W,j,u 29,u 30,u 31,u 32,sv,U G.n,U i,u 36,u 37,u 38,u 39,u 40,u 41,u 42,u 43,u 44,u 45,u 46,u 47]
def jsk (t:q10 D) {sv v:Vl} (hn:G.n<=5) (P:jit B w0 sv G.n G.tx) (Q:jg3 D Ans Post A B G.n G.tx w0 F H E I C J cs):∀(d i:Nat) (u:Nat->Vl) (w:Wl),i+d=G.n->AK D A B own rd G w0 w->
 q7 PR (EE D Ans) Post true ⟨own,rd,.open_ G G.W i⟩ (Go.Conc.G ((base 4).at ⟨tB sv G v i u,[]⟩ [.code LP2,.inLoop LP2,.inBlock 2,.code RS2]) (F.at H (.inRegion E (I::C)::J)::cs)) w:=by
 letI:Payload:=⟨0⟩
 have q:∀{i:Nat} {a b:Wl},AK D A B own rd G w0 a->q9 (EE D Ans) ⟨own,rd,.open_ G G.W i⟩ a b->AK D A B own rd G w0 b:=λh r=>h.rely t rfl r;intro d
 induction d with
 |zero=>
  intro i u w R h;have e:i=G.n:=oe;subst e;have g:∀{a b:Wl},AK D A B own rd G w0 a->q9 (EE D Ans) ⟨own,rd,.open_ G G.W G.n⟩ a b->AK D A B own rd G w0 b:=λh r=>q h r
  have S:decide ((G.n:Int)<(G.n:Int))=false:=oi;refine q7.by (m:=20) ?_;simp only[LP2,RS1,f4,tB];refine Fz @g h λ_ h=>?_
  u_exit g h
  refine mz λL r=>?_;replace h:=g h r;exact js4 t sv v (λm=>match m with|33=>sv|34=>U G.n|35=>U G.n|36=>.bool false|m=>u m) h Q
 |succ d ih=>
  intro i u w R h;have x:i<G.n:=oe;have g:∀{a b:Wl},AK D A B own rd G w0 a->q9 (EE D Ans) ⟨own,rd,.open_ G G.W i⟩ a b->AK D A B own rd G w0 b:=λh r=>q h r;obtain⟨b,c,rfl,T⟩:=P;obtain⟨s,o,rfl,y,V⟩:=T oe;have S:decide ((i:Int)<(G.n:Int))=true:=decide_eq_true oe
  have l1:(i:Int)<(G.n:Int):=oe;have l0:(0:Int)<=(i:Int):=oe;refine q7.by (m:=30) ?_;simp only[LP2,RS1,f4,tB];refine Fz @g h λ_ h=>?_
  refine mz λL r=>?_;replace h:=g h r;refine q7.opM rfl rfl oj rfl λw2 z K l=>?_;replace h:=g h z;have X:w2.cell? (AD s (o+i))=some (.string (G.tx i)):=(vd (h.sm.same s (.inr y)) _).trans (V i x)
  go_simp;refine l _ _ ⟨_,vc.reads (λe p=>?_),?_⟩
  .have k:=mem_listed p;simp[go_sem, *]at k;subst k;exact .inr ⟨h.hr _ y,rfl⟩
  clear l K X r z;refine q7.by (m:=30) ?_;refine Fz @g h λ_ h=>?_
  refine mz λw3 M=>?_;replace h:=g h M;refine q7.opM rfl rfl oj rfl λw4 N K l=>?_;replace h:=g h N;have Y:=h.wk.b7
  go_simp;refine l _ _ ⟨_,vc.reads (λe p=>?_),?_⟩
  .have k:=mem_listed p;simp[go_sem, *]at k;subst k;exact .inr ⟨h.wk.r7,rfl⟩
  clear l K Y M N;refine q7.by (m:=30) ?_;refine Fz @g h λ_ h=>?_
  refine mz λw5 O=>?_;replace h:=g h O;clear O;refine q7.mk rfl λw6 Z=>.send rfl rfl x rfl (λw=>?_) ?_
  .refine(stepG_comm (cases:=#[scase G.C (jgq G i) undef]) (blocking:=true) (shape:=.send) (w':=w) rfl rfl oX ?_).trans ?_
   .simp[execOp,go_sem,chC,scase,jgq];rfl
   rw[ji5 λe p=>by
        have k:=mem_listed p;simp[go_sem, *]at k]
  replace h:=g h Z;rw[served_G];have j:∀{a b:Wl},AK D A B own rd G w0 a->q9 (EE D Ans) ⟨own,rd,.open_ G G.W (i+1)⟩ a b->AK D A B own rd G w0 b:=λh r=>q h r
  have e1:IntKind.i64.wrap ((i:Int)+1)=((i+1:Nat):Int):=mn;refine q7.by (m:=30) ?_;walk_nrm;refine Fz @j h λ_ h=>?_
  u_c stepG_inLoop j h
  refine mz λw7 r7=>?_;replace h:=j h r7
  have e2:((i:Int)+1)=((i+1:Nat):Int):=oe;rw[e2];exact ih (i+1) (λm=>match m with|9=>U i|10=>.string (G.tx i)|36=>.bool true|37=>U i|38=>.pointer (some (AD s (o+i)))|39=>.string (G.tx i)|40=>chC G|41=>U i|42=>.string (G.tx i)|43=>.agg #[U i,.string (G.tx i)]|44=>U ((i+1:Nat):Int)|m=>u m) w7 oe h
end
section
open _root_.Go.Proofs.Tryz Go.Conc Go.RowKit Go.Conc.Lib Go.ConcR.Gen Go.ConcN.Gen
open Go.ConcR (Payload DC0)
variable {E:(Np)->Wv} {z:Vl->Wv} {D own rd:Np} {G:Grp} {K:Wl}
variable {B:List Nat} {M:List Fm}
noncomputable def jub:Array Oper:=match LP1 with|.seq _ (.seq _ (.seq (.block _ (.seq (.region _ o _) _)) _))=>o|_=>#[]
noncomputable def cR9:Code:=match LP1 with|.seq _ (.seq _ (.seq (.block _ (.seq _ c)) _))=>c|_=>.skip
noncomputable def jvp:Code:=match LP1 with|.seq _ (.seq _ (.seq _ c))=>c|_=>.skip
def jtr (P:Pq) (fn:Fn) (first a:Av) (w:Wl):(Instr.makeFunc fn first a).run P w=.ok (.func fn first a) w:=rfl
def jum (P:Pq) (fn:Fn) (first a:Av) (w:Wl) (b:Array Event):(Instr.makeFunc fn first a).events P w b=b:=rfl
attribute [local go_sem] jtr jum
variable {N:Vl}
def jnr (e:q10 E) (g:G.n<=5) (i:jit D L N G.n G.tx) (j:jg3 E Ans z A D G.n G.tx L F H C I B J M) (u:Nat->Vl) (h:AK E A D own rd G L w):
 q7 PR (EE E Ans) z true ⟨own,rd,.open_ G G.W 0⟩ (Go.Conc.G ((base 4).at ⟨tA N G (U G.W) u,[]⟩ [.code LP1,.inLoop LP1,.inBlock 0,.code RS1]) (F.at H (.inRegion C (I::B)::J)::M)) w:=by
 letI:Payload:=⟨0⟩
 have d:∀{a b:Wl},AK E A D own rd G L a->q9 (EE E Ans) ⟨own,rd,.open_ G G.W 0⟩ a b->AK E A D own rd G L b:=λh r=>h.rely e rfl r
 have l:decide ((G.W:Int)<(G.W:Int))=false:=oi;obtain⟨b,c,rfl,k⟩:=i;refine q7.by (m:=40) ?_;simp only[LP1,f4,tA];refine Fz @d h λ_ h=>?_
 u_exit d h
 simp only[RS1,f4];refine Fz @d h λ_ h=>?_
 u_c stepG_loop d h
 refine mz λK r=>?_;replace h:=d h r;exact jsk e g ⟨b,c,rfl,k⟩ j G.n 0 (λm=>match m with|29=>.bool false|m=>u m) K oe h
def jl4 (i:q10 E) {j:Nat} (v:j<G.W) (u:Nat->Vl) (h:AK E A D own rd G L w)
 (k:∀u w,AK E A D own rd G L w->q7 PR (EE E Ans) z true ⟨own,rd,.open_ G (j+1) 0⟩ (Go.Conc.G ((base 4).at ⟨tA N G (U (j+1:Nat)) u,[]⟩ [.code LP1,.inLoop LP1,.inBlock 0,.code RS1]) (F.at H (.inRegion C (I::B)::J)::M)) w):
 q7 PR (EE E Ans) z true ⟨own,rd,.ready G j⟩ (Go.Conc.G ((base 4).at ⟨tA N G (U j) u,[]⟩ [.inRegion jub [],.code cR9,.inBlock 1,.code jvp,.inLoop LP1,.inBlock 0,.code RS1]) (F.at H (.inRegion C (I::B)::J)::M)) w:=by
 letI:Payload:=⟨0⟩
 have c:∀{a b:Wl},AK E A D own rd G L a->q9 (EE E Ans) ⟨own,rd,.ready G j⟩ a b->AK E A D own rd G L b:=λh r=>h.rely i rfl r;refine q7.by (m:=40) ?_;simp only[jub,cR9,jvp,LP1,f4,tA]
 refine Fz @c h λ_ h=>?_
 refine mz λK r=>?_;replace h:=c h r;refine q7.mk rfl λO l=>?_;replace h:=c h l
 refine Mov.spawn (G:=G) (j:=j) (child:=born PR (jly G)) rfl rfl ((stepG_spawn (d:=jly G) (w':=O) rfl rfl oX (by simp[execOp,go_sem,jly,pWg]) rfl).trans (by
  rw[ji5 λe n=>by
   have o:=mem_listed n;simp[go_sem, *]at o])) rfl rfl ?_ ?_
 .exact jp7 i (h.wk.same i (λ_ _=>rfl) rfl λ_ q=>q.elim)
 have g:∀{a b:Wl},AK E A D own rd G L a->q9 (EE E Ans) ⟨own,rd,.open_ G (j+1) 0⟩ a b->AK E A D own rd G L b:=λh r=>h.rely i rfl r;have x:=h.wk.W
 have y:IntKind.i64.wrap ((j:Int)+1)=((j+1:Nat):Int):=mn;refine q7.by (m:=40) ?_;walk_nrm;refine Fz @g h λ_ h=>?_
 u_c stepG_inLoop g h
 refine mz λp s=>?_;replace h:=g h s
 have t:((j:Int)+1)=((j+1:Nat):Int):=oe;rw[t];exact k (λm=>match m with|31=>.func (.func 8) #[] #[pWg G,PP G.B7,PP G.B6]|32=>U (j+1:Nat)|m=>u m) p h
end
section
open _root_.Go.Proofs.Tryz Go.Conc Go.RowKit Go.Conc.Lib Go.ConcR.Gen Go.ConcN.Gen
open Go.ConcR (Payload DC0)
variable {C:(Np)->Wv} {V:Vl->Wv} {own rd:Np} {G:Grp} {H:Wl}
variable {J:Fm} {K:Act} {F:Array Oper} {L:Nat} {M:List Item} {X:List Fm}
variable {Y:Vl}
def jq9 (g:q10 C) (l:G.n<=5) (o:jit B S Y G.n G.tx) (p:jg3 C Ans V A B G.n G.tx S J K F L D M X):∀(d j:Nat) (u:Nat->Vl) (w:Wl),j+d=G.W->AK C A B own rd G S w->
 q7 PR (EE C Ans) V true ⟨own,rd,.open_ G j 0⟩ (Go.Conc.G ((base 4).at ⟨tA Y G (U j) u,[]⟩ [.code LP1,.inLoop LP1,.inBlock 0,.code RS1]) (J.at K (.inRegion F (L::D)::M)::X)) w:=by
 letI:Payload:=⟨0⟩
 intro d;induction d with
 |zero=>
  intro j u w s h;have e:j=G.W:=oe;subst e;exact jnr g l o p u h
 |succ d ih=>
  intro j u w s h;have i:j<G.W:=oe;have N:=h.wk.W;have c:∀{a b:Wl},AK C A B own rd G S a->q9 (EE C Ans) ⟨own,rd,.open_ G j 0⟩ a b->AK C A B own rd G S b:=λh r=>h.rely g rfl r;have O:decide ((j:Int)<(G.W:Int))=true:=decide_eq_true oe;refine q7.by (m:=30) ?_;simp only[LP1,f4,tA]
  refine Fz @c h λ_ h=>?_
  refine mz λH r=>?_;replace h:=c h r;clear r;refine q7.call (f:=lnk.add) rfl rfl oX rfl jkz.f_add (nm_add lnk) (show (addFn lnk).body=some (body_add lnk)from rfl) ?_
  walk_nrm;simp only[pWg];refine jma (γ:=⟨own,rd,.open_ G j 0⟩) (γ₁:=⟨own,rd,.adds G j⟩) (G1:=G) (j:=j) jkz rfl rfl oe h.nw.1 h.nw.2 (I:=AK C A B own rd G S) (λa b r q=>c q r) (λw q=>q.wk.wg) (λt v _ k=>q7.mk t λH x=>.disA rfl rfl i (v H) k.run (k.rely (x.to rfl))) h λR P y z=>?_;replace h:=(c h y).rely g rfl z;exact jl4 g i (λm=>match m with|29=>.bool true|30=>.tuple #[]|m=>u m) h λu w h=>ih (j+1) u w oe h
structure OK8 (C:(Nat->Prop)->World->Prop) (A B:Nat->Prop) (G:Grp) (S w:Wl):Prop where
 sm:Sm A B S w
 l0:∀b,A b->b<S.heap.size
 r0:∀b,B b->b<S.heap.size
 lo:C B w
 gt:∀b,G.has b->¬A b/\¬B b
 apart:G.T<G.B6/\G.B6<G.C/\G.C<G.B7/\G.B7<G.Wg
 told:∃X,jhj E0 G w X
 chan:∃s,w.heap[G.C]?=some (.chan 0 #[] false s s false)
 wg:WgQ E0 G.Wg w 0 0
 b6:w.cell? (AD G.B6 0)=some (slT G)
 b7:w.cell? (AD G.B7 0)=some (chC G)
def jic (A:Np) (G:Grp):Np:=λb=>((((A b\/b=G.T)\/b=G.B6)\/b=G.C)\/b=G.B7)\/b=G.Wg
def OK8.rely (d:q10 C) (h:OK8 C A B G S w) (r:q9 E ⟨jic A G,B,.idle⟩ w H):OK8 C A B G S H:=by
 have m:H.heap[G.T]?=w.heap[G.T]?:=r.own _ (.inl (.inl (.inl (.inl (.inr rfl)))));have e:H.heap[G.B6]?=w.heap[G.B6]?:=r.own _ (.inl (.inl (.inl (.inr rfl))));have f:H.heap[G.C]?=w.heap[G.C]?:=r.own _ (.inl (.inl (.inr rfl)));have g:H.heap[G.B7]?=w.heap[G.B7]?:=r.own _ (.inl (.inr rfl));have i:H.heap[G.Wg]?=w.heap[G.Wg]?:=r.own _ (.inr rfl);obtain⟨c,j,k⟩:=h.told;obtain⟨s,l⟩:=h.chan;exact⟨⟨λb a=>(a.elim (λq=>r.own b (.inl (.inl (.inl (.inl (.inl q)))))) λq=>r.rd b q).trans (h.sm.same b a),r.os.trans h.sm.os,r.output.trans h.sm.output⟩,h.l0,h.r0,d _ w H r.rd r.os h.lo,h.gt,h.apart,⟨c,m.trans j,k⟩,⟨s,f.trans l⟩,i.trans h.wg,(vd e 0).trans h.b6,(vd g 0).trans h.b7⟩
def jgz (C:(Np)->Wv):Prop:=∀rd rd' w,(∀b,rd b->rd' b)->C rd w->C rd' w
def OK8.opens (r:jgz C) (j:0<G.W/\G.W<=16) (s:∀i,i<G.n->(G.tx i).size<=1500) (h:OK8 C A B G S w):AK C A B (Gam.opened ⟨jic A G,B,.idle⟩ G).own (Gam.opened ⟨jic A G,B,.idle⟩ G).rd G S w:=by
 have c:=h.gt;have N:=h.apart;have t:∀b,A b->b<w.heap.size/\b<S.heap.size:=λb a=>⟨yl (h.l0 b a) (h.sm.same b (.inl a)),h.l0 b a⟩;have u:∀b,B b->b<w.heap.size/\b<S.heap.size:=λb a=>⟨yl (h.r0 b a) (h.sm.same b (.inr a)),h.r0 b a⟩
 have v:G.B6<w.heap.size:=by
  have:=h.b6;simp only[World.cell?]at this;cases e:w.heap[G.B6]?with
  |none=>rw[e]at this;cases this
  |some o=>exact(mw.1 e).1
 have x:G.B7<w.heap.size:=by
  have:=h.b7;simp only[World.cell?]at this;cases e:w.heap[G.B7]?with
  |none=>rw[e]at this;cases this
  |some o=>exact(mw.1 e).1
 have k:∀b,(Gam.opened ⟨jic A G,B,.idle⟩ G).own b->A b:=λb ⟨q,nq⟩=>by
  obtain((((q|q)|q)|q)|q)|q:=q
  .exact q
  .exact absurd (.inl q) nq
  .exact absurd (.inr (.inr (.inr (.inl q)))) nq
  .exact absurd (.inr (.inl q)) nq
  .exact absurd (.inr (.inr (.inr (.inr q)))) nq
  exact absurd (.inr (.inr (.inl q))) nq
 have d:∀b,G.has b->b≠G.B6->b≠G.B7->¬(Gam.opened ⟨jic A G,B,.idle⟩ G).rd b:=λb f y I q=>by
  obtain q|q|q:=q
  .exact(c b f).2 q
  .exact y q
  exact I q
 have g:∀b,G.has b->¬(Gam.opened ⟨jic A G,B,.idle⟩ G).own b:=λb f q=>(c b f).1 (k b q);have l:G.has G.T:=.inl rfl;have m:G.has G.C:=.inr (.inl rfl);have p:G.has G.Wg:=.inr (.inr (.inl rfl));refine⟨⟨λb q=>(t b (k b q)).1,λb q=>?_,⟨0,0,h.wg⟩,r B _ w (λb q=>.inl q) h.lo,s,j.2,d _ l oe oe,oe,.inr (.inl rfl),.inr (.inr rfl),h.b6,h.b7⟩,h.sm,λb q=>⟨.inl (.inl (.inl (.inl (.inl q)))),λz=>?_⟩,λb q=>.inl q,⟨g _ p,d _ p oe oe⟩,j.1,g _ l,g _ m,d _ m oe oe,oe⟩
 .obtain q|rfl|rfl:=q
  .exact(u b q).1
  .exact v
  exact x
 exact(c b z).1 q
def OK8.Opens (h:OK8 C A B G S w):Opens (EE C Ans) ⟨jic A G,B,.idle⟩ G w:=by
 have d:=h.apart;obtain⟨c,a,b⟩:=h.told;exact⟨⟨.inl (.inl (.inl (.inl (.inr rfl)))),.inl (.inl (.inr rfl)),.inr rfl,.inl (.inl (.inl (.inr rfl))),.inl (.inr rfl)⟩,ou,⟨c,a,b⟩,h.chan,h.wg⟩
def jn0 (r:q9 E ⟨jic A G,B,.idle⟩ w H):q9 E (Gam.opened ⟨jic A G,B,.idle⟩ G) w H:=
 ⟨λb q=>r.own b q.1,λb q=>by
   obtain q|rfl|rfl:=q
   .exact r.rd b q
   .exact r.own _ (.inl (.inl (.inl (.inr rfl))))
   .exact r.own _ (.inl (.inr rfl)),r.os,r.output,λd q ⟨a,s,e⟩=>by
   cases q;exact⟨a,s,(r.own _ (.inr rfl)).trans e⟩,λq=>Bool.noConfusion (show false=true from q)⟩
def jq0 (e:q10 C) (g:jgz C) (s:G.n<=5) (d:0<G.W/\G.W<=16) (l:∀i,i<G.n->(G.tx i).size<=1500) (t:jit B S Y G.n G.tx) (v:jg3 C Ans V A B G.n G.tx S J K F L D M X) (u:Nat->Vl) (h:OK8 C A B G S w):
 q7 PR (EE C Ans) V true ⟨jic A G,B,.idle⟩ (Go.Conc.G ((base 4).at ⟨tA Y G (U (0:Nat)) u,[]⟩ [.code LP1,.inLoop LP1,.inBlock 0,.code RS1]) (J.at K (.inRegion F (L::D)::M)::X)) w:=by
 letI:Payload:=⟨0⟩
 have c:∀{a b:Wl},OK8 C A B G S a->q9 (EE C Ans) ⟨jic A G,B,.idle⟩ a b->OK8 C A B G S b:=λh r=>h.rely e r;have O:decide (((0:Nat):Int)<(G.W:Int))=true:=decide_eq_true oe;have P:decide ((0:Int)<(G.W:Int))=true:=decide_eq_true oe
 have Q:(0:Int)<(G.W:Int):=oe;refine q7.by (m:=30) ?_;simp only[LP1,f4,tA];refine Fz @c h λ_ h=>?_
 refine mz λH r=>?_;replace h:=c h r;clear r;refine q7.call (f:=lnk.add) rfl rfl oX rfl jkz.f_add (nm_add lnk) (show (addFn lnk).body=some (body_add lnk)from rfl) ?_
 walk_nrm;simp only[pWg];have o:=h.opens g d l;refine jma (γ:=⟨jic A G,B,.idle⟩) (γ₁:=Gam.opened ⟨jic A G,B,.idle⟩ G) (G1:=G) (j:=0) jkz rfl rfl oe o.nw.1 o.nw.2 (I:=OK8 C A B G S) (λa b r q=>c q r) (λw q=>⟨0,0,q.wg⟩) (λx y i k=>q7.mk x λH p=>.opens rfl rfl d.1 d.2 (c i p).Opens (y H) k.run (k.rely (jn0 p))) h λT R z N=>?_;replace h:=(c h z).opens g d l;replace h:=h.rely e rfl N;exact jl4 e d.1 (λm=>match m with|29=>.bool true|30=>.tuple #[]|m=>u m) h λu w h=>jq9 e s t v (G.W-1) 1 u w oe h
end
section
open _root_.Go.Proofs.Tryz Go.Conc Go.RowKit Go.Conc.Lib Go.ConcR.Gen Go.ConcN.Gen
open Go.ConcR (Payload DC0)
variable {C:(Np)->Wv} {own rd:Np}
variable {G:Fm} {F:Array Oper}
def jud:∃i,PR.info? 9=some i/\i.zero=some (.string ⟨#[]⟩)/\i.size=1/\i.bytes=16:=by
 have h:(PR.info? 9).map (λi=>(i.zero,i.size,i.bytes))=some (some (.string ⟨#[]⟩),1,16):=oh;obtain⟨i,c,a⟩:=mL.1 h;simp only[Prod.mk.injEq]at a;exact⟨i,c,a⟩
def jue:∃i,PR.info? 45=some i/\i.bytes=24:=by
 have h:(PR.info? 45).map (λi=>i.bytes)=some 24:=oh;obtain⟨i,a,c⟩:=mL.1 h;exact⟨i,a,c⟩
def jvi (n:Nat) (f:n<=5) (w:Wl):(Instr.makeSlice 22 (U n) (U n)).run PR w=.ok (.slice (PT w.heap.size) n n) (w.alloc (.cells (madeCells #[.string ⟨#[]⟩] n) 9)):=by
 obtain⟨i,c,d,a,e⟩:=jud;have:=run_makeSlice (P:=PR) w 22 9 i (.string ⟨#[]⟩) oh c d .i64 .i64 n n oe oe (by rw[a];simp;omega) (by rw[e];omega) oe;rw[a]at this;simpa[Value.cells]using this
def jvc (n:Nat) (e:n<=5) (w:Wl) (es:Array Event):(Instr.makeSlice 22 (U n) (U n)).events PR w es=es:=by
 obtain⟨i,c,d,f,a⟩:=jud;exact events_make (P:=PR) w 22 9 i (.string ⟨#[]⟩) oh c d .i64 .i64 n n oe oe (by rw[a];omega) oe (by rw[a];simp;omega) es
def jvs (w:Wl):(Instr.makeChan 31 (U 0)).run PR w=.ok (.chan (some w.heap.size)) (w.alloc (.chan 0 #[] false 0 0 false)):=by
 obtain⟨i,a,c⟩:=jue;exact run_makeChan (P:=PR) (w:=w) underlying31 a .i64 0 oe oe
def jvw (w:Wl) (es:Array Event):(Instr.makeChan 31 (U 0)).events PR w es=es:=by
 obtain⟨i,a,c⟩:=jue;exact events_makeChan (P:=PR) (w:=w) underlying31 a .i64 0 oe oe es
noncomputable def juk:Array Oper:=match f4.body with|some (.seq _ (.seq _ (.seq (.region _ o _) _)))=>o|_=>#[]
noncomputable def RS3:Code:=match f4.body with|some (.seq _ (.seq _ (.seq _ r)))=>r|_=>.skip
def tI (sv:Vl) (W n T:Nat) (u:Nat->Vl):Av:=
 #[sv,U W,u 2,u 3,u 4,u 5,u 6,u 7,u 8,u 9,u 10,u 11,u 12,u 13,u 14,u 15,u 16,u 17,u 18,u 19,u 20,u 21,u 22,u 23,u 24,.slice (PT T) n n,u 26,u 27,u 28,u 29,u 30,u 31,u 32,u 33,u 34,u 35,u 36,u 37,u 38,u 39,u 40,u 41,u 42,u 43,u 44,u 45,u 46,u 47]
structure NK (C:(Nat->Prop)->World->Prop) (A B:Nat->Prop) (w0 w:Wl):Prop where
 sm:Sm A B w0 w
 lo:C B w
 lt:∀b,A b\/B b->b<w.heap.size
def NK.rely (d:q10 C) {γ:Gam} {E:Env} (h:NK C A B w0 w) (e:∀b,A b->γ.own b) (f:γ.rd=B) (r:q9 E γ w L):NK C A B w0 L:=by
 subst f;have c:∀b,A b\/γ.rd b->L.heap[b]?=w.heap[b]?:=λb a=>a.elim (λq=>r.own b (e b q)) λq=>r.rd b q;exact⟨⟨λb a=>(c b a).trans (h.sm.same b a),r.os.trans h.sm.os,r.output.trans h.sm.output⟩,d _ w L r.rd r.os h.lo,λb a=>yl (h.lt b a) (c b a)⟩
def NK.alloc (d:q10 C) (h:NK C A B w0 w) (o:Obj):NK C A B w0 (w.alloc o):=by
 have c:∀b,A b\/B b->(w.alloc o).heap[b]?=w.heap[b]?:=λb a=>by
  have:=h.lt b a;show (w.heap.push o)[b]?=_;simp[Array.getElem?_push,show b≠w.heap.size by omega]
 exact⟨⟨λb a=>(c b a).trans (h.sm.same b a),h.sm.os,h.sm.output⟩,d _ w _ (λb q=>c b (.inr q)) rfl h.lo,λb a=>yl (h.lt b a) (c b a)⟩
def NK.chg (f:q10 C) {x:Nat} (h:NK C A B w0 w) (c:Chg (·=x) w L) (e:¬A x/\¬B x):NK C A B w0 L:=by
 have d:∀b,A b\/B b->L.heap[b]?=w.heap[b]?:=λb a=>c.out b (h.lt b a) λq=>a.elim (λz=>e.1 (q▸z)) λz=>e.2 (q▸z);exact⟨⟨λb a=>(d b a).trans (h.sm.same b a),c.os.trans h.sm.os,c.output.trans h.sm.output⟩,f _ w _ (λb q=>d b (.inr q)) c.os h.lo,λb a=>yl (h.lt b a) (d b a)⟩
def jvq (P:Pq) (w:Wl) (es:Array Event) (a:Addr) (m:Mode) (b:Oa) (l c:Nat):(store a (.slice b l c) m).events P w es=storedEv P w es a (.slice b l c) m:=events_store P w es a _ m rfl
def jve (P:Pq) (w:Wl) (es:Array Event) (a:Addr) (m:Mode) (c:Option Nat):(store a (.chan c) m).events P w es=storedEv P w es a (.chan c) m:=events_store P w es a _ m rfl
def jhf (w:Wl) (o:Obj):(w.alloc o).heap[w.heap.size]?=some o:=by show (w.heap.push o)[w.heap.size]?=_;simp
variable {b:Nat}
def z6 (o:Obj) (h:b<w.heap.size):(w.alloc o).heap[b]?=w.heap[b]?:=by
 show (w.heap.push o)[b]?=_;simp[Array.getElem?_push,show b≠w.heap.size by omega]
def q13 {o:Obj} (h:w.heap[b]?=some o):b<w.heap.size:=(mw.1 h).1
def jps {v x:Vl} {t:Tp} (h:w.heap[b]?=some (.cells #[v] t)):(w.setCell (AD b 0) x).heap[b]?=some (.cells #[x] t):=by
 simp[World.setCell,Array.getElem?_modify,h]
def jrw (o:q10 C) (hM:jgz C) {sv:Vl} {n W T:Nat} {tx:Nat->By} (hn:n<=5) (hW:0<W/\W<=16) (ht:∀i,i<n->(tx i).size<=1500) (hx:jit B w0 sv n tx) (hT:jg3 C Ans Post A B n tx w0 G H F I D J cs) (l0:∀b,A b->b<w0.heap.size) (r0:∀b,B b->b<w0.heap.size)
 (u:Nat->Vl) (h:NK C A B w0 w) (hnT:¬A T/\¬B T) (c:w.heap[T]?=some (.cells (madeCells #[.string ⟨#[]⟩] n) 9)):
 q7 PR (EE C Ans) Post true ⟨λx=>A x\/x=T,B,.idle⟩ (Go.Conc.G ((base 4).at ⟨tI sv W n T u,[]⟩ [.inRegion juk [3,4],.code RS3]) (G.at H (.inRegion F (I::D)::J)::cs)) w:=by
 letI:Payload:=⟨0⟩
 simp only[juk,RS3,f4,tI];refine q7.opM rfl rfl oj rfl λw2 V K l=>?_;replace h:=h.rely o (λ_ q=>Or.inl q) rfl V;replace c:=(V.own T (Or.inr rfl)).trans c
 go_simp;refine l _ _ ⟨_,vc.alloc (λe s=>?_),?_⟩
 .have p:=mem_listed s;simp[go_sem, *]at p
 clear l K V;have ad:¬A w2.heap.size/\¬B w2.heap.size:=⟨λq=>mM _ (h.lt _ (.inl q)),λq=>mM _ (h.lt _ (.inr q))⟩;have X:T<w2.heap.size:=q13 c;replace c:=(z6 (.cells #[.slice none 0 0] 22) X).trans c;have d:=jhf w2 (.cells #[.slice none 0 0] 22);replace h:=h.alloc o (.cells #[.slice none 0 0] 22);generalize w2.heap.size=b6 at ad X d ⊢;generalize w2.alloc (.cells #[.slice none 0 0] 22)=w3 at h c d ⊢;refine q7.opM rfl rfl oj rfl λO S K l=>?_;replace h:=h.rely o (λ_ q=>Or.inl (Or.inl q)) rfl S;replace c:=(S.own T (Or.inl (Or.inr rfl))).trans c;replace d:=(S.own b6 (Or.inr rfl)).trans d
 have Y:O.cell? (AD b6 0)=some (.slice none 0 0):=by simp[World.cell?,d]
 have Z:O.frozen? (AD b6 0)=false:=by simp[World.frozen?,d]
 go_simp;have v:Chg (·=b6) O (O.setCell (AD b6 0) (.slice (PT T) n n)):=Chg.cell (a:=AD b6 0) rfl;refine l _ _ ⟨_,vc.chg v (λb q=>Or.inr q) (λe s=>?_),?_⟩
 .have p:=mem_listed s;simp[go_sem,jvq,storedEv, *]at p;subst p;exact Or.inl (Or.inr rfl)
 clear l K Y Z S;replace h:=h.chg o v ad;replace c:=(v.out T (q13 c) oe).trans c;replace d:=jps (x:=.slice (PT T) n n) d;generalize O.setCell (AD b6 0) (.slice (PT T) n n)=w5 at h c d ⊢;clear v;have j:∀{a b:Wl},(NK C A B w0 a/\a.heap[T]?=some (.cells (madeCells #[.string ⟨#[]⟩] n) 9)/\a.heap[b6]?=some (.cells #[.slice (PT T) n n] 22))->q9 (EE C Ans) (Gam.grow ⟨λx=>A x\/x=T,B,.idle⟩ b6) a b->(NK C A B w0 b/\b.heap[T]?=some (.cells (madeCells #[.string ⟨#[]⟩] n) 9)/\b.heap[b6]?=some (.cells #[.slice (PT T) n n] 22)):=λh r=>⟨h.1.rely o (λ_ q=>Or.inl (Or.inl q)) rfl r,(r.own T (Or.inl (Or.inr rfl))).trans h.2.1,(r.own b6 (Or.inr rfl)).trans h.2.2⟩;replace h:=And.intro h (And.intro c d);clear c d;refine q7.by (m:=20) ?_
 refine Fz @j h λ_ h=>?_
 refine mz λw6 r6=>?_;replace h:=j h r6;clear r6;refine q7.opM rfl rfl oj rfl λz r7 K l=>?_;obtain⟨h,c,d⟩:=j h r7;have m1:=jvs;have m2:=jvw
 go_simp;refine l _ _ ⟨_,vc.alloc (λe s=>?_),?_⟩
 .have p:=mem_listed s;simp[go_sem, *]at p
 clear l K r7 m1 m2 j;have hnC:¬A z.heap.size/\¬B z.heap.size:=⟨λq=>mM _ (h.lt _ (.inl q)),λq=>mM _ (h.lt _ (.inr q))⟩;have aa:b6<z.heap.size:=q13 d;replace c:=(z6 (.chan 0 #[] false 0 0 false) oe).trans c;replace d:=(z6 (.chan 0 #[] false 0 0 false) aa).trans d;have g:=jhf z (.chan 0 #[] false 0 0 false);replace h:=h.alloc o (.chan 0 #[] false 0 0 false);generalize z.heap.size=bC at hnC aa g ⊢;generalize z.alloc (.chan 0 #[] false 0 0 false)=w8 at h c d g ⊢;refine q7.opM rfl rfl oj rfl λE Q K l=>?_;replace h:=h.rely o (λ_ q=>Or.inl (Or.inl (Or.inl q))) rfl Q;replace c:=(Q.own T (Or.inl (Or.inl (Or.inr rfl)))).trans c;replace d:=(Q.own b6 (Or.inl (Or.inr rfl))).trans d;replace g:=(Q.own bC (Or.inr rfl)).trans g
 go_simp;refine l _ _ ⟨_,vc.alloc (λe s=>?_),?_⟩
 .have p:=mem_listed s;simp[go_sem, *]at p
 clear l K Q;have hn7:¬A E.heap.size/\¬B E.heap.size:=⟨λq=>mM _ (h.lt _ (.inl q)),λq=>mM _ (h.lt _ (.inr q))⟩;have ab:bC<E.heap.size:=q13 g;replace c:=(z6 (.cells #[.chan none] 31) oe).trans c;replace d:=(z6 (.cells #[.chan none] 31) oe).trans d;replace g:=(z6 (.cells #[.chan none] 31) ab).trans g;have k:=jhf E (.cells #[.chan none] 31);replace h:=h.alloc o (.cells #[.chan none] 31);generalize E.heap.size=b7 at hn7 ab k ⊢;generalize E.alloc (.cells #[.chan none] 31)=wA at h c d g k ⊢;refine q7.opM rfl rfl oj rfl λR M K l=>?_;replace h:=h.rely o (λ_ q=>Or.inl (Or.inl (Or.inl (Or.inl q)))) rfl M;replace c:=(M.own T (Or.inl (Or.inl (Or.inl (Or.inr rfl))))).trans c;replace d:=(M.own b6 (Or.inl (Or.inl (Or.inr rfl)))).trans d;replace g:=(M.own bC (Or.inl (Or.inr rfl))).trans g;replace k:=(M.own b7 (Or.inr rfl)).trans k
 have Y:R.cell? (AD b7 0)=some (.chan none):=by simp[World.cell?,k]
 have Z:R.frozen? (AD b7 0)=false:=by simp[World.frozen?,k]
 go_simp;have v:Chg (·=b7) R (R.setCell (AD b7 0) (.chan (some bC))):=Chg.cell (a:=AD b7 0) rfl;refine l _ _ ⟨_,vc.chg v (λb q=>Or.inr q) (λe s=>?_),?_⟩
 .have p:=mem_listed s;simp[go_sem,jve,storedEv, *]at p;subst p;exact Or.inl (Or.inr rfl)
 clear l K Y Z M;replace h:=h.chg o v hn7;replace c:=(v.out T (q13 c) oe).trans c;replace d:=(v.out b6 (q13 d) oe).trans d;replace g:=(v.out bC (q13 g) oe).trans g;replace k:=jps (x:=.chan (some bC)) k;generalize R.setCell (AD b7 0) (.chan (some bC))=wC at h c d g k ⊢;clear v;have j:∀{a b:Wl},(NK C A B w0 a/\a.heap[T]?=some (.cells (madeCells #[.string ⟨#[]⟩] n) 9)/\a.heap[b6]?=some (.cells #[.slice (PT T) n n] 22)/\a.heap[bC]?=some (.chan 0 #[] false 0 0 false)/\a.heap[b7]?=some (.cells #[.chan (some bC)] 31))->q9 (EE C Ans) (Gam.grow (Gam.grow (Gam.grow ⟨λx=>A x\/x=T,B,.idle⟩ b6) bC) b7) a b->
  (NK C A B w0 b/\b.heap[T]?=some (.cells (madeCells #[.string ⟨#[]⟩] n) 9)/\b.heap[b6]?=some (.cells #[.slice (PT T) n n] 22)/\b.heap[bC]?=some (.chan 0 #[] false 0 0 false)/\b.heap[b7]?=some (.cells #[.chan (some bC)] 31)):=λh r=>⟨h.1.rely o (λ_ q=>Or.inl (Or.inl (Or.inl (Or.inl q)))) rfl r,(r.own T (Or.inl (Or.inl (Or.inl (Or.inr rfl))))).trans h.2.1,(r.own b6 (Or.inl (Or.inl (Or.inr rfl)))).trans h.2.2.1,(r.own bC (Or.inl (Or.inr rfl))).trans h.2.2.2.1,(r.own b7 (Or.inr rfl)).trans h.2.2.2.2⟩
 replace h:=And.intro h (And.intro c (And.intro d (And.intro g k)));clear c d g k;refine q7.by (m:=20) ?_;refine Fz @j h λ_ h=>?_
 refine mz λwD rD=>?_;replace h:=j h rD;clear rD;refine q7.opM rfl rfl oj rfl λN rE K l=>?_;obtain⟨h,c,d,g,k⟩:=j h rE
 go_simp;refine l _ _ ⟨_,vc.alloc (λe s=>?_),?_⟩
 .have p:=mem_listed s;simp[go_sem, *]at p
 clear l K rE j;have hnW:¬A N.heap.size/\¬B N.heap.size:=⟨λq=>mM _ (h.lt _ (.inl q)),λq=>mM _ (h.lt _ (.inr q))⟩;have ac:b7<N.heap.size:=q13 k;replace c:=(z6 (.cells #[.int .u64 0,.int .u32 0] 41) oe).trans c;replace d:=(z6 (.cells #[.int .u64 0,.int .u32 0] 41) oe).trans d;replace g:=(z6 (.cells #[.int .u64 0,.int .u32 0] 41) oe).trans g;replace k:=(z6 (.cells #[.int .u64 0,.int .u32 0] 41) ac).trans k;have U:=jhf N (.cells #[.int .u64 0,.int .u32 0] 41);replace h:=h.alloc o (.cells #[.int .u64 0,.int .u32 0] 41);generalize N.heap.size=bW at hnW ac U ⊢;generalize N.alloc (.cells #[.int .u64 0,.int .u32 0] 41)=wF at h c d g k U ⊢;have ok:OK8 C A B ⟨T,bC,bW,b6,b7,W,n,tx⟩ w0 wF:=⟨h.sm,l0,r0,h.lo,λb hb=>by obtain rfl|rfl|rfl|rfl|rfl:=hb<;>assumption,⟨X,aa,ab,ac⟩,⟨_,c,size_madeCells _ _⟩,⟨0,g⟩,U,by simp[World.cell?,d,slT],by simp[World.cell?,k,chC]⟩;clear h c d g k U;have y:∀{a b:Wl},OK8 C A B ⟨T,bC,bW,b6,b7,W,n,tx⟩ w0 a->q9 (EE C Ans) ⟨jic A ⟨T,bC,bW,b6,b7,W,n,tx⟩,B,.idle⟩ a b->OK8 C A B ⟨T,bC,bW,b6,b7,W,n,tx⟩ w0 b:=λh r=>h.rely o r;refine q7.by (γ:=⟨jic A ⟨T,bC,bW,b6,b7,W,n,tx⟩,B,.idle⟩) (m:=20) ?_
 refine Fz @y ok λ_ ok=>?_
 u_c stepG_loop y ok
 refine mz λwG rG=>?_;replace ok:=y ok rG;exact jq0 o hM hn hW ht hx hT (λm=>match m with|25=>.slice (PT T) n n|26=>.chan (some bC)|m=>u m) ok
end
section
open _root_.Go.Proofs.Tryz Go.Conc Go.RowKit Go.Conc.Lib Go.ConcR.Gen Go.ConcN.Gen
open Go.ConcR (Payload DC0)
variable {E:(Np)->Wv} {T:Vl->Wv} {own rd:Np} {J:Wl}
variable {G:Act} {D:Array Oper} {H:Nat} {C:List Nat} {I:List Item} {V:List Fm}
def jnk (g:q10 E) (s:jgz E) {X:Vl} {n W:Nat} {tx:Nat->By} (j:n<=5) (t:0<W/\W<=16) (u:∀i,i<n->(tx i).size<=1500) (v:jit B S X n tx) (x:jg3 E Ans T A B n tx S F G D H C I V) (k:∀b,A b->b<S.heap.size) (l:∀b,B b->b<S.heap.size) (y:E B S):
 q7 PR (EE E Ans) T true ⟨A,B,.idle⟩ (Go.Conc.G ((base 4).at ⟨#[X,U W]++Array.replicate (f4.ntmps-2) undef,[]⟩ [.code (f4.body.getD .skip)]) (F.at G (.inRegion D (H::C)::I)::V)) S:=by
 letI:Payload:=⟨0⟩
 obtain⟨b,c,rfl,z⟩:=v;have h:NK E A B S S:=⟨⟨λ_ _=>rfl,rfl,rfl⟩,y,λb q=>q.elim (k b) (l b)⟩;have d:∀{a b:Wl},NK E A B S a->q9 (EE E Ans) ⟨A,B,.idle⟩ a b->NK E A B S b:=λh r=>h.rely g (λ_ q=>q) rfl r;have P:decide ((50:Int)<(n:Int))=false:=decide_eq_false oe;have Q:decide ((W:Int)<1)=false:=decide_eq_false oe;have R:decide ((16:Int)<(W:Int))=false:=decide_eq_false oe;refine q7.by (m:=60) ?_;simp only[f4,Option.getD_some]
 walk_nrm;refine Fz @d h λ_ h=>?_
 refine mz λJ r=>?_;replace h:=d h r;clear r;refine q7.opM rfl rfl oj rfl λY o K p=>?_;replace h:=d h o;have L:=jvi n j;have Z:=jvc n j
 go_simp;refine p _ _ ⟨_,vc.alloc (λe M=>?_),?_⟩
 .have N:=mem_listed M;simp[go_sem, *]at N
 clear p K L Z o;have O:¬A Y.heap.size/\¬B Y.heap.size:=⟨λq=>mM _ (h.lt _ (.inl q)),λq=>mM _ (h.lt _ (.inr q))⟩;exact jrw g s j t u ⟨b,c,rfl,z⟩ x k l (λm=>match m with|4=>.slice none 0 0|5=>.nilIface|11=>.slice b n c|12=>U n|13=>.bool false|14=>.bool false|15=>U W|16=>.bool false|17=>.bool false|18=>.bool false|19=>U W|20=>.bool false|21=>.bool false|23=>.slice b n c|24=>U n|_=>undef) (h.alloc g _) O (jhf _ _)
end
open _root_.Go.Proofs.Tryz Go.Conc Go.RowKit Go.Conc.Lib Go.ConcR.Gen Go.ConcN.Gen
open Go.ConcR (Payload DC0)
variable {A:(Np)->Wv} {H own rd:Np} {F:Wl}
noncomputable def LQ2:Code:=match f3.body with|some (.seq _ (.seq _ (.seq _ (.seq _ (.seq _ (.seq _ (.seq (.seq _ (.block _ (.loop c))) _)))))))=>c|_=>.skip
noncomputable def RQ2:Code:=match f3.body with|some (.seq _ (.seq _ (.seq _ (.seq _ (.seq _ (.seq _ (.seq _ r)))))))=>r|_=>.skip
def jgc (w0:Wl) (v:Vl) (w:Wl):Prop:=v=.bool true/\(∀b,b<w0.heap.size->w.heap[b]?=w0.heap[b]?)/\w.os=w0.os/\w.output=w0.output
structure LK (A:(Nat->Prop)->World->Prop) (Ans:By->By->Prop) (n:Nat) (tx:Nat->By) (D:List Nat) (own rd:Nat->Prop) (w0 w:Wl):Prop where
 sm:Sm (λ_=>False) (·<w0.heap.size) w0 w
 lo1:∀b,own b->b<w.heap.size
 lo2:∀b,rd b->b<w.heap.size
 hr:∀b,b<w0.heap.size->rd b
 lo:A rd w
 ts:∀T,T∈D->own T/\∀i,i<n->∃v,w.cell? (AD T i)=some (.string v)/\Ans (tx i) v
def LK.rely (d:q10 A) {n:Nat} {tx:Nat->By} {E:Env} {j:Ph} (h:LK A Ans n tx D own rd w0 w) (r:q9 E ⟨own,rd,j⟩ w F):LK A Ans n tx D own rd w0 F:=
 ⟨h.sm.rely (λ_ q=>q.elim) h.hr r,λb q=>yl (h.lo1 b q) (r.own b q),λb q=>yl (h.lo2 b q) (r.rd b q),h.hr,d _ w F r.rd r.os h.lo,λT c=>⟨(h.ts T c).1,λi e=>by
   obtain⟨v,f,g⟩:=(h.ts T c).2 i e;exact⟨v,(vd (r.own T (h.ts T c).1) i).trans f,g⟩⟩⟩
def LK.more {n:Nat} {tx:Nat->By} {c:Np} (h:LK A Ans n tx D own rd w0 w) (e:∀b,own b->c b) (f:∀b,c b->b<w.heap.size):LK A Ans n tx D c rd w0 w:=⟨h.sm,f,h.lo2,h.hr,h.lo,λT d=>⟨e T (h.ts T d).1,(h.ts T d).2⟩⟩
def LK.kept {n:Nat} {tx:Nat->By} (h:LK A Ans n tx D own rd w0 w):jkd (EE A Ans) own rd .idle w:=⟨h.lo1,h.lo2,λG q=>oA⟩
def tQ (sv:Vl) (a b:Int) (n B C i:Nat) (u:Nat->Vl):Av:=
 List.toArray (sv::U a::U b::u 3::u 4::u 5::u 6::u 7::.slice (PT B) n n::.nilIface::.slice (PT C) n n::.nilIface::U i::u 13::u 14::u 15::u 16::u 17::u 18::u 19::u 20::u 21::u 22::u 23::u 24::u 25::u 26::u 27::u 28::u 29::u 30::u 31::u 32::u 33::u 34::u 35::u 36::u 37::u 38::u 39::u 40::u 41::u 42::u 43::u 44::u 45::u 46::u 47::u 48::u 49::u 50::u 51::u 52::u 53::u 54::u 55::u 56::u 57::u 58::u 59::u 60::u 61::u 62::u 63::u 64::u 65::u 66::u 67::u 68::u 69::u 70::u 71::u 72::u 73::u 74::u 75::u 76::u 77::u 78::u 79::u 80::u 81::u 82::u 83::u 84::u 85::u 86::u 87::u 88::u 89::u 90::u 91::u 92::u 93::[])
def jk0 {P:Pq} {fn:Func} {t:Tmp} {b:Fm} {a:Act} {todo:List Item} (d:b.kind=.normal) (e:a.defers=[]) (f:P.funcs[b.fn]?=some fn) (c:fn.results=#[.tmp t]) (g:P.inits.idxOf? b.fn=none) (w:Wl):stepG P true (Go.Conc.G {b.at a todo with mode:=.returning} []) w=.ended (.done (a.tmps.getD t undef)) w #[]:=by
 have h:=results_tmp c a.tmps P w;have i:=events_results_tmp (P:=P) (w:=w) c a.tmps #[];simp[Go.Conc.G,stepG,unwind,Frame.at,e,doReturn,f,d,h,i,g,seen_none,GStep.after]
section
variable {sv:Vl} {n B C:Nat} {tx:Nat->By} {a b:Int}
def jtv (d:q10 A) (u:Nat->Vl) {i:Nat} (h:LK A Ans n tx [B,C] own rd w0 w):
 q7 PR (EE A Ans) (jgc w0) true ⟨own,rd,.idle⟩ (Go.Conc.G ((base 3).at ⟨tQ sv a b n B C i u,[]⟩ [.code RQ2]) []) w:=by
 letI:Payload:=⟨0⟩
 have c:∀{x y:Wl},LK A Ans n tx [B,C] own rd w0 x->q9 (EE A Ans) ⟨own,rd,.idle⟩ x y->LK A Ans n tx [B,C] own rd w0 y:=λh r=>h.rely d r;refine q7.by (m:=20) ?_;simp only[RQ2,f3,tQ]
 refine Fz @c h λ_ h=>?_
 refine mz λF r=>?_;replace h:=c h r;refine q7.mk rfl λo g=>?_;replace h:=c h g;refine .fin (v:=.bool true) (es:=#[]) rfl rfl ?_ (λe j=>by simp at j) ⟨rfl,λb k=>h.sm.same b (.inr k),h.sm.os,h.sm.output⟩;exact jk0 (fn:=f3) (t:=6) rfl rfl func3 rfl oh o
structure jk9 (Ans:By->By->Prop):Prop where
 one:∀s v v',Ans s v->Ans s v'->v=v'
 err:∀v,Ans ⟨#[120,10]⟩ v->v=⟨#[101,114,114,111,114,32,51,10]⟩
def jsg (N:q10 A) (O:jk9 Ans) (hS:jgh A Ans (jgc w0)) (hn:n<=5) (ht:∀i,i<n->(tx i).size<=1500) (hx:jit (·<w0.heap.size) w0 sv n tx):∀(d i:Nat) (own:Nat->Prop) (u:Nat->Vl) (w:Wl),i+d=n->LK A Ans n tx [B,C] own rd w0 w->
 q7 PR (EE A Ans) (jgc w0) true ⟨own,rd,.idle⟩ (Go.Conc.G ((base 3).at ⟨tQ sv a b n B C i u,[]⟩ [.code LQ2,.inLoop LQ2,.inBlock 2,.code RQ2]) []) w:=by
 letI:Payload:=⟨0⟩
 have J:∀{own:Nat->Prop} {x y:Wl},LK A Ans n tx [B,C] own rd w0 x->q9 (EE A Ans) ⟨own,rd,.idle⟩ x y->LK A Ans n tx [B,C] own rd w0 y:=λh r=>h.rely N r;obtain⟨P,Q,rfl,hx1⟩:=hx;intro d
 induction d with
 |zero=>
  intro i own u w hd h;have e:i=n:=oe;subst e;have j:∀{x y:Wl},LK A Ans i tx [B,C] own rd w0 x->q9 (EE A Ans) ⟨own,rd,.idle⟩ x y->LK A Ans i tx [B,C] own rd w0 y:=λh r=>J h r
  have q1:decide ((i:Int)<(i:Int))=false:=oi;refine q7.by (m:=20) ?_;simp only[LQ2,f3,tQ];refine Fz @j h λ_ h=>?_
  u_exit j h
  refine mz λF r=>?_;replace h:=j h r;exact jtv (sv:=.slice P i Q) (a:=a) (b:=b) (i:=i) N (λm=>match m with|69=>U i|70=>.slice P i Q|71=>U i|72=>.bool false|m=>u m) h
 |succ d ih=>
  intro i own u w hd h;have z:i<n:=oe;have j:∀{x y:Wl},LK A Ans n tx [B,C] own rd w0 x->q9 (EE A Ans) ⟨own,rd,.idle⟩ x y->LK A Ans n tx [B,C] own rd w0 y:=λh r=>J h r;obtain⟨R,o,rfl,S,hcell⟩:=hx1 oe;have q1:decide ((i:Int)<(n:Int))=true:=decide_eq_true oe
  have l1:(i:Int)<(n:Int):=oe;have l0:(0:Int)<=(i:Int):=oe;refine q7.by (m:=30) ?_;simp only[LQ2,f3,tQ];refine Fz @j h λ_ h=>?_
  refine mz λF r=>?_;replace h:=j h r;refine q7.opM rfl rfl oj rfl λw2 E K p=>?_;replace h:=j h E;have L:w2.cell? (AD R (o+i))=some (.string (tx i)):=(vd (h.sm.same R (.inr S)) _).trans (hcell i z)
  go_simp;refine p _ _ ⟨_,vc.reads (λe t=>?_),?_⟩
  .have q:=mem_listed t;simp[go_sem, *]at q;subst q;exact Or.inr ⟨h.hr _ S,rfl⟩
  clear p K L r E;refine q7.callS (hS (tx i) (ht i z)) rfl rfl oX rfl func6 oh rfl oQ rfl (λc T l k e=>?_) h.kept (λw2 E=>(j h E).lo) λI w3 v g V W X=>?_
  .simp only[List.mem_cons,List.not_mem_nil,or_false]at T;subst T;simp[Frame.at]at e
  obtain⟨s,rfl,Y⟩:=g;replace h:=(j h X).more V W;clear X V W j;have j:∀{x y:Wl},LK A Ans n tx [B,C] I rd w0 x->q9 (EE A Ans) ⟨I,rd,.idle⟩ x y->LK A Ans n tx [B,C] I rd w0 y:=λh r=>J h r;refine q7.by (m:=30) ?_
  walk_nrm;refine Fz @j h λ_ h=>?_
  refine mz λw4 Z=>?_;replace h:=j h Z;refine q7.opM rfl rfl oj rfl λw5 r5 K p=>?_;replace h:=j h r5;obtain⟨v1,L,a1⟩:=(h.ts B oi).2 i z;have e1:=O.one _ _ _ a1 Y;subst e1
  go_simp;refine p _ _ ⟨_,vc.reads (λe t=>?_),?_⟩
  .have q:=mem_listed t;simp[go_sem, *]at q;subst q;exact Or.inl (h.ts B oi).1
  clear p K L Z r5;refine q7.by (m:=30) ?_;refine Fz @j h λ_ h=>?_
  refine mz λw6 r6=>?_;replace h:=j h r6;refine q7.opM rfl rfl oj rfl λw7 r7 K p=>?_;replace h:=j h r7;obtain⟨v2,f2,a2⟩:=(h.ts C oi).2 i z;have M:=O.one _ _ _ a2 Y;subst M
  go_simp;refine p _ _ ⟨_,vc.reads (λe t=>?_),?_⟩
  .have q:=mem_listed t;simp[go_sem, *]at q;subst q;exact Or.inl (h.ts C oi).1
  clear p K f2 r6 r7;have e1:IntKind.i64.wrap ((i:Int)+1)=((i+1:Nat):Int):=mn;refine q7.by (m:=40) ?_;refine Fz @j h λ_ h=>?_
  u_c stepG_inLoop j h
  refine mz λw8 r8=>?_;replace h:=j h r8
  have M:((i:Int)+1)=((i+1:Nat):Int):=oe;rw[M];exact ih (i+1) I (λm=>List.getD [undef,undef,undef,_,_,_,_,_,undef,undef,undef,undef,undef,_,_,_,_,_,_,_,_,_,_,_,_,_,_,_,_,_,_,_,_,_,_,_,_,_,_,_,_,_,_,_,_,_,_,_,_,_,_,_,_,_,_,_,_,_,_,_,_,_,_,_,_,_,_,_,_,_,_,_,_,_,_,_,_,_,_,_,_,_,_,_,_,_,_,_,_,_,_,_,_,_] m undef) w8 oe h
end
end Go.Proofs.YtbfkeoagmajcpaaGreatDoor
