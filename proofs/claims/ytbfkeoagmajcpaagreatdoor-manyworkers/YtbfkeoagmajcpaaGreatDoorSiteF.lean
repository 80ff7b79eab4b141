import Derived.Test.YtbfkeoagmajcpaaGreatDoorSiteA
import Derived.Conc.CrowdComm
import Derived.Test.YtbfkeoagmajcpaaGreatDoorSiteE
import Derived.Conc.WgGenN3
set_option maxHeartbeats 8000000
set_option maxRecDepth 100000
set_option linter.defProp false
set_option linter.unusedSectionVars false
set_option linter.unusedSimpArgs false
set_option linter.unusedVariables false
namespace Go.Proofs.YtbfkeoagmajcpaaGreatDoor
open Go.Conc
variable {A B i j k n:Nat} {F Post:Vl->Wv} {P:Pq} {a:Act} {b:Fm} {e:Event} {es:Array Event} {g g' x:Gn} {go' sl:Option (Nat×Nat)} {gs gs':Array Gn} {o:Oper} {pf:Nat->Nat} {rest:List Nat} {t u:Trace} {w w':Wl}
section
structure Grp where
 T:Nat
 C:Nat
 Wg:Nat
 B6:Nat
 B7:Nat
 W:Nat
 n:Nat
 tx:Nat->By
inductive Ph where
 |idle
 |open_ (G:Grp) (j i:Nat)
 |adds (G:Grp) (j:Nat)
 |added (G:Grp) (j:Nat)
 |ready (G:Grp) (j:Nat)
 |shut (G:Grp)
 |waits (G:Grp)
 |seen (G:Grp) (v:Nat)
 |sema (G:Grp)
 |sem4 (G:Grp)
 |over (G:Grp)
 |heard (G:Grp)
 |work (G:Grp)
 |job (G:Grp) (i:Nat)
 |drained (G:Grp)
 |rel (G:Grp)
 |deaf (G:Grp)
 |last (G:Grp) (k:Nat)
def Ph.grp:Ph->Option Grp
 |.idle=>none
 |.open_ G _ _|.adds G _|.added G _|.ready G _|.shut G|.waits G|.seen G _|.sema G|.sem4 G|.over G|.heard G|.work G|.job G _|.drained G|.rel G|.deaf G|.last G _=>some G
def Ph.said:Ph->Bool
 |.rel _|.deaf _|.last _ _=>true
 |_=>false
def Ph.wt:Ph->Bool
 |.waits _|.seen _ _=>true
 |_=>false
structure Gam where
 own:Nat->Prop
 rd:Nat->Prop
 ph:Ph
structure Env where
 tyWg:Tp
 tyS:Tp
 Ans:By->By->Prop
 Jb:Gam->Gn->World->Prop
def KQ:Int:=4294967296
def stQ (Wg:Nat):Addr:=(AD Wg 0)
def smQ (Wg:Nat):Addr:=(AD Wg 1)
def WgQ (E:Env) (Wg:Nat) (w:Wl) (st sm:Int):Prop:=w.heap[Wg]?=some (.cells #[.int .u64 st,.int .u32 sm] E.tyWg (0,0))
def WgL (E:Env) (Wg:Nat) (w:Wl):Prop:=∃st sm,WgQ E Wg w st sm
def evR (a:Addr):Event:=⟨.cell a,false,true⟩
def evW (a:Addr):Event:=⟨.cell a,true,true⟩
def evM (m:Mark):Event:=⟨.mark m,false,true⟩
def jgq (G:Grp) (i:Nat):Vl:=.agg #[U i,.string (G.tx i)]
def zR:Vl:=.agg #[U 0,.string .empty]
def jhj (E:Env) (G:Grp) (w:Wl) (cs:Av):Prop:=w.heap[G.T]?=some (.cells cs E.tyS (0,0))/\cs.size=G.n
def jkl (E:Env) (G:Grp) (w:Wl):Prop:=∃cs,jhj E G w cs/\∀i,i<G.n->∃v,cs[i]?=some (.string v)/\E.Ans (G.tx i) v
def jp5 (E:Env) (Wg:Nat) (w A:Wl):Prop:=∀v:Nat,WgQ E Wg w (v*KQ) 0->∃v',v'<=v/\WgQ E Wg A ((v':Nat)*KQ) 0
variable {A:Wl}
def jp5.same {E:Env} {a:Nat} (h:A.heap[a]?=w.heap[a]?):jp5 E a w A:=λv q=>⟨v,mC _,h.trans q⟩
structure q9 (E:Env) (γ:Gam) (w A:Wl):Prop where
 own:∀b,γ.own b->A.heap[b]?=w.heap[b]?
 rd:∀b,γ.rd b->A.heap[b]?=w.heap[b]?
 os:A.os=w.os
 output:A.output=w.output
 wg:∀G,γ.ph.grp=some G->WgL E G.Wg w->WgL E G.Wg A
 down:γ.ph.wt=true->∀G,γ.ph.grp=some G->jp5 E G.Wg w A
def q9.refl (E:Env) (γ:Gam) (w:Wl):q9 E γ w w:=⟨λ_ _=>rfl,λ_ _=>rfl,rfl,rfl,λ_ _ h=>h,λ_ _ _=>.same rfl⟩
def q9.trans {E:Env} {γ:Gam} {m:Wl} (a:q9 E γ w A) (b:q9 E γ A m):q9 E γ w m:=
 ⟨λx h=>(b.own x h).trans (a.own x h),λx h=>(b.rd x h).trans (a.rd x h),b.os.trans a.os,b.output.trans a.output,λG h l=>b.wg G h (a.wg G h l),λq G h v e=>by
   obtain⟨c,d,f⟩:=a.down q G h v e;obtain⟨i,j,k⟩:=b.down q G h c f;exact⟨i,Nat.le_trans j d,k⟩⟩
def EvG (own rd:Nat->Prop) (e:Event):Prop:=
 match e.loc with
 |.cell a=>own a.block\/(rd a.block/\e.write=false)
 |.obj s=>own s/\e.sync=false
 |.output=>True
 |.goroutines=>False
 |.mark m=>jhu m
structure vc (γ:Gam) (w w':Wl) (es:Array Event) (γ':Gam):Prop where
 size:w.heap.size<=w'.heap.size
 out:∀b,b<w.heap.size->¬γ.own b->w'.heap[b]?=w.heap[b]?
 more:∀b,γ.own b->γ'.own b
 fresh:∀b,γ'.own b->γ.own b\/(w.heap.size<=b/\b<w'.heap.size)
 rd:γ'.rd=γ.rd
 ph:γ'.ph=γ.ph
 os:w'.os=w.os
 output:w'.output=w.output
 evs:∀e∈es,EvG γ'.own γ.rd e
structure Opens (E:Env) (γ:Gam) (G:Grp) (w:Wl):Prop where
 own:γ.own G.T/\γ.own G.C/\γ.own G.Wg/\γ.own G.B6/\γ.own G.B7
 apart:[G.T,G.C,G.Wg,G.B6,G.B7].Nodup
 told:∃cs,jhj E G w cs
 chan:∃s,w.heap[G.C]?=some (.chan 0 #[] false s s false)
 wg:WgQ E G.Wg w 0 0
def Grp.has (G:Grp) (b:Nat):Prop:=b=G.T\/b=G.C\/b=G.Wg\/b=G.B6\/b=G.B7
def Gam.opened (γ:Gam) (G:Grp):Gam:=⟨λb=>γ.own b/\¬G.has b,λb=>γ.rd b\/b=G.B6\/b=G.B7,.adds G 0⟩
def Gam.to (γ:Gam) (ph:Ph):Gam:=⟨γ.own,γ.rd,ph⟩
def Gam.back (γ:Gam) (G:Grp):Gam:=⟨λb=>γ.own b\/b=G.T,γ.rd,.idle⟩
section
variable (P:Pq) (E:Env) (D:Vl->Wv)
inductive Mov (Kid:Gam->Gn->World->Prop) (B:Bool) (γ:Gam) (g:Gn) (w:Wl) (K:Gam->Gn->World->Prop):Prop
 |ord {g':Gn} {w':Wl} {es:Array Event} {γ':Gam}:stepG P B g w=.go g' w' es->g'.status=.running->(γ.ph.said=true->es=#[])->vc γ w w' es γ'->K γ' g' w'->Mov Kid B γ g w K
 |said {g':Gn} {G:Grp} {m:Mark} {a:Addr}:B=true->γ.ph.grp=some G->(m=.read a\/m=.write a)->a.block=G.Wg->stepG P B g w=.go g' w #[evM m]->g'.status=.running->K γ g' w->Mov Kid B γ g w K
 |opens {g':Gn} {G:Grp}:B=true->γ.ph=.idle->0<G.W->G.W<=16->Opens E γ G w->stepG P B g w=.go g' w #[evM .disable]->g'.status=.running->K (γ.opened G) g' w->Mov Kid B γ g w K
 |disA {g':Gn} {G:Grp} {j:Nat}:B=true->γ.ph=.open_ G j 0->j<G.W->stepG P B g w=.go g' w #[evM .disable]->g'.status=.running->K (γ.to (.adds G j)) g' w->Mov Kid B γ g w K
 |addA {G:Grp} {j:Nat}:B=true->γ.ph=.adds G j->(∀v:Nat,v<=j->WgQ E G.Wg w (v*KQ) 0->∃g',stepG P B g w=.go g' (w.setCell (stQ G.Wg) (.int .u64 ((v+1)*KQ))) #[evR (stQ G.Wg),evW (stQ G.Wg)]/\g'.status=.running/\K (γ.to (.added G j)) g' (w.setCell (stQ G.Wg) (.int .u64 ((v+1)*KQ))))->Mov Kid B γ g w K
 |enA {g':Gn} {G:Grp} {j:Nat}:B=true->γ.ph=.added G j->stepG P B g w=.go g' w #[evM .enable]->g'.status=.running->K (γ.to (.ready G j)) g' w->Mov Kid B γ g w K
 |spawn {g' child:Gn} {G:Grp} {j:Nat}:B=true->γ.ph=.ready G j->stepG P B g w=.spawn g' child w #[]->g'.status=.running->child.status=.running->Kid ⟨λ_=>False,γ.rd,.work G⟩ child w->K (γ.to (.open_ G (j+1) 0)) g' w->Mov Kid B γ g w K
 |send {G:Grp} {i:Nat} {z:Vl}:B=true->γ.ph=.open_ G G.W i->i<G.n->z=undef->(∀w,stepG P B g w=.comm g #[scase G.C (jgq G i) z] true .send w #[])->K (γ.to (.open_ G G.W (i+1))) (Go.Conc.served g undef) w->Mov Kid B γ g w K
 |close {G:Grp}:B=true->γ.ph=.open_ G G.W G.n->(∀s r tm,w.heap[G.C]?=some (.chan 0 #[] false s r tm)->∃g',stepG P B g w=.go g' {w with heap:=w.heap.setIfInBounds G.C (.chan 0 #[] true s r tm)} #[⟨.obj G.C,false,true⟩,⟨.obj G.C,true,true⟩]/\g'.status=.running/\K (γ.to (.shut G)) g' {w with heap:=w.heap.setIfInBounds G.C (.chan 0 #[] true s r tm)})->mayWake P g=true->Mov Kid B γ g w K
 |disW {g':Gn} {G:Grp}:B=true->γ.ph=.shut G->stepG P B g w=.go g' w #[evM .disable]->g'.status=.running->K (γ.to (.waits G)) g' w->Mov Kid B γ g w K
 |loadW {G:Grp}:B=true->γ.ph=.waits G->(∀v:Nat,v<=G.W->WgQ E G.Wg w (v*KQ) 0->∃g',stepG P B g w=.go g' w #[evR (stQ G.Wg)]/\g'.status=.running/\(v=0->K (γ.to (.over G)) g' w)/\(v≠0->K (γ.to (.seen G v)) g' w))->Mov Kid B γ g w K
 |casW {G:Grp} {vs:Nat}:B=true->γ.ph=.seen G vs->(∀v:Nat,v<=G.W->WgQ E G.Wg w (v*KQ) 0->(v=vs->∃g',stepG P B g w=.go g' (w.setCell (stQ G.Wg) (.int .u64 (v*KQ+1))) #[evR (stQ G.Wg),evW (stQ G.Wg)]/\g'.status=.running/\K (γ.to (.sema G)) g' (w.setCell (stQ G.Wg) (.int .u64 (v*KQ+1))))/\
  (v≠vs->∃g',stepG P B g w=.go g' w #[evR (stQ G.Wg)]/\g'.status=.running/\K (γ.to (.waits G)) g' w))->Mov Kid B γ g w K
 |semW {G:Grp}:B=true->γ.ph=.sema G->g.offers=none->(∀st,WgQ E G.Wg w st 0->stepG P B g w=.go {g with status:=.blocked} w #[])->(WgQ E G.Wg w 0 1->∃g',stepG P B g w=.go g' (w.setCell (smQ G.Wg) (.int .u32 0)) (semEvents (smQ G.Wg))/\g'.status=.running/\K (γ.to (.sem4 G)) g' (w.setCell (smQ G.Wg) (.int .u32 0)))->Mov Kid B γ g w K
 |load4 {G:Grp}:B=true->γ.ph=.sem4 G->(WgQ E G.Wg w 0 0->∃g',stepG P B g w=.go g' w #[evR (stQ G.Wg)]/\g'.status=.running/\K (γ.to (.over G)) g' w)->Mov Kid B γ g w K
 |enW {g':Gn} {G:Grp}:B=true->γ.ph=.over G->stepG P B g w=.go g' w #[evM .enable]->g'.status=.running->K (γ.to (.heard G)) g' w->Mov Kid B γ g w K
 |acq {G:Grp}:B=true->γ.ph=.heard G->(jkl E G w->∃g',stepG P B g w=.go g' w #[evM (.acquire (stQ G.Wg))]/\g'.status=.running/\K (γ.back G) g' w)->Mov Kid B γ g w K
 |fin {v:Vl} {es:Array Event}:B=true->γ.ph=.idle->stepG P B g w=.ended (.done v) w es->(∀e∈es,EvG γ.own γ.rd e)->D v w->Mov Kid B γ g w K
 |recv {G:Grp}:B=false->γ.ph=.work G->(∀w,stepG P B g w=.comm g #[rcase G.C zR] true (.recv true) w #[])->(∀i,i<G.n->E.Jb (γ.to (.job G i)) (Go.Conc.served g (.tuple #[jgq G i,.bool true])) w)->K (γ.to (.drained G)) (Go.Conc.served g (.tuple #[zR,.bool false])) w->Mov Kid B γ g w K
 |told {G:Grp} {i:Nat}:B=false->γ.ph=.job G i->(∀cs,jhj E G w cs->∃g' v,E.Ans (G.tx i) v/\stepG P B g w=.go g' (w.setCell (AD G.T i) (.string v)) #[⟨.cell (AD G.T i),true,false⟩]/\g'.status=.running/\K (γ.to (.work G)) g' (w.setCell (AD G.T i) (.string v)))->Mov Kid B γ g w K
 |rel {g':Gn} {G:Grp}:B=false->γ.ph=.drained G->stepG P B g w=.go g' w #[evM (.releaseMerge (stQ G.Wg))]->g'.status=.running->K (γ.to (.rel G)) g' w->Mov Kid B γ g w K
 |disD {g':Gn} {G:Grp}:B=false->γ.ph=.rel G->stepG P B g w=.go g' w #[evM .disable]->g'.status=.running->K (γ.to (.deaf G)) g' w->Mov Kid B γ g w K
 |addD {G:Grp}:B=false->γ.ph=.deaf G->(∀v wt:Nat,wt<=1->v<G.W->WgQ E G.Wg w ((v+1:Nat)*KQ+wt) 0->∃g',stepG P B g w=.go g' (w.setCell (stQ G.Wg) (.int .u64 (v*KQ+wt))) #[evR (stQ G.Wg),evW (stQ G.Wg)]/\g'.status=.running/\
  ((v=0/\wt=1)->K (γ.to (.last G 0)) g' (w.setCell (stQ G.Wg) (.int .u64 (v*KQ+wt))))/\(¬(v=0/\wt=1)->∃q,QuitsD P q 1 g'))->Mov Kid B γ g w K
 |last0 {G:Grp}:B=false->γ.ph=.last G 0->(WgQ E G.Wg w 1 0->∃g',stepG P B g w=.go g' w #[evR (stQ G.Wg)]/\g'.status=.running/\K (γ.to (.last G 1)) g' w)->Mov Kid B γ g w K
 |last1 {G:Grp}:B=false->γ.ph=.last G 1->(WgQ E G.Wg w 1 0->∃g',stepG P B g w=.go g' (w.setCell (stQ G.Wg) (.int .u64 0)) #[evW (stQ G.Wg)]/\g'.status=.running/\K (γ.to (.last G 2)) g' (w.setCell (stQ G.Wg) (.int .u64 0)))->Mov Kid B γ g w K
 |last2 {G:Grp}:B=false->γ.ph=.last G 2->mayWake P g=true->(WgQ E G.Wg w 0 0->∃g',stepG P B g w=.go g' (w.setCell (smQ G.Wg) (.int .u32 1)) (semEvents (smQ G.Wg))/\∃q,QuitsD P q 1 g')->Mov Kid B γ g w K
end
inductive Rk where
 |z
 |s (f:Gam->Gn->Wl->Rk)
theorem jvy:Nonempty Rk:=⟨.z⟩
def Rk.Lt (a b:Rk):Prop:=∃f,b=.s f/\(a=.z\/∃x g w,a=f x g w)
def Rk.wf:WellFounded Rk.Lt:=by
 have z:Acc Rk.Lt .z:=⟨_,λa ⟨f,e,_⟩=>oJ⟩;refine⟨λb=>?_⟩;induction b with
 |z=>exact z
 |s f ih=>
  refine⟨_,λa ⟨g,e,h⟩=>?_⟩;cases e;obtain rfl|⟨x,y,w,rfl⟩:=h
  .exact z
  exact ih x y w
section
variable (P:Pq) (E:Env) (D:Vl->Wv)
def TrK:Rk->Gam->Gn->World->Prop
 |.z,_,_,_=>False
 |.s f,γ,g,w=>g.status=.running/\∀A,q9 E γ w A->Mov P E D (λ_ _ _=>False) false γ g A λγ' g' w'=>TrK (f γ' g' w') γ' g' w'
def TrM:Rk->Gam->Gn->World->Prop
 |.z,_,_,_=>False
 |.s f,γ,g,w=>g.status=.running/\∀A,q9 E γ w A->Mov P E D (λγ g w=>∃r,TrK P E D r γ g w) true γ g A λγ' g' w'=>TrM (f γ' g' w') γ' g' w'
def Tr (B:Bool) (r:Rk) (γ:Gam) (g:Gn) (w:Wl):Prop:=match B with|true=>TrM P E D r γ g w|false=>TrK P E D r γ g w
def q7 (B:Bool) (γ:Gam) (g:Gn) (w:Wl):Prop:=∃r,Tr P E D B r γ g w
def jvo (B:Bool) (γ:Gam) (g:Gn) (w:Wl):Prop:=match B with|true=>q7 P E D false γ g w|false=>False
end
variable {P:Pq} {E:Env} {D:Vl->Wv} {B:Bool} {γ:Gam}
def Mov.mono {t:Gam->Gn->World->Prop} {K L:Gam->Gn->World->Prop} (h:Mov P E D t B γ g w K) (i:∀γ' z w',K γ' z w'->L γ' z w'):Mov P E D t B γ g w L:=by
 cases h with
 |ord a b q c d=>exact .ord a b q c (i _ _ _ d)
 |said a b c d e f k=>exact .said a b c d e f (i _ _ _ k)
 |opens a b c d e f s k=>exact .opens a b c d e f s (i _ _ _ k)
 |disA a b c d e k=>exact .disA a b c d e (i _ _ _ k)
 |addA a b c=>exact .addA a b λv o n=>by obtain⟨z,j,l,m⟩:=c v o n;exact⟨z,j,l,i _ _ _ m⟩
 |enA a b c d k=>exact .enA a b c d (i _ _ _ k)
 |spawn a b c d e f k=>exact .spawn a b c d e f (i _ _ _ k)
 |send a b c d e k=>exact .send a b c d e (i _ _ _ k)
 |close a b c d=>exact .close a b (λs r u n=>by obtain⟨z,j,l,m⟩:=c s r u n;exact⟨z,j,l,i _ _ _ m⟩) d
 |disW a b c d k=>exact .disW a b c d (i _ _ _ k)
 |loadW a b c=>exact .loadW a b λv o n=>by obtain⟨z,j,l,m,p⟩:=c v o n;exact⟨z,j,l,λe=>i _ _ _ (m e),λe=>i _ _ _ (p e)⟩
 |casW a b c=>exact .casW a b λv o n=>⟨λe=>by obtain⟨z,j,l,m⟩:=(c v o n).1 e;exact⟨z,j,l,i _ _ _ m⟩,λe=>by obtain⟨z,j,l,m⟩:=(c v o n).2 e;exact⟨z,j,l,i _ _ _ m⟩⟩
 |semW a b c d e=>exact .semW a b c d λn=>by obtain⟨z,j,l,m⟩:=e n;exact⟨z,j,l,i _ _ _ m⟩
 |load4 a b c=>exact .load4 a b λn=>by obtain⟨z,j,l,m⟩:=c n;exact⟨z,j,l,i _ _ _ m⟩
 |enW a b c d k=>exact .enW a b c d (i _ _ _ k)
 |acq a b c=>exact .acq a b λn=>by obtain⟨z,j,l,m⟩:=c n;exact⟨z,j,l,i _ _ _ m⟩
 |fin a b c d e=>exact .fin a b c d e
 |recv a b c d e=>exact .recv a b c d (i _ _ _ e)
 |told a b c=>exact .told a b λC n=>by obtain⟨z,v,x,j,l,m⟩:=c C n;exact⟨z,v,x,j,l,i _ _ _ m⟩
 |rel a b c d k=>exact .rel a b c d (i _ _ _ k)
 |disD a b c d k=>exact .disD a b c d (i _ _ _ k)
 |addD a b c=>exact .addD a b λv y j l n=>by obtain⟨z,j,l,m,p⟩:=c v y j l n;exact⟨z,j,l,λe=>i _ _ _ (m e),p⟩
 |last0 a b c=>exact .last0 a b λn=>by obtain⟨z,j,l,m⟩:=c n;exact⟨z,j,l,i _ _ _ m⟩
 |last1 a b c=>exact .last1 a b λn=>by obtain⟨z,j,l,m⟩:=c n;exact⟨z,j,l,i _ _ _ m⟩
 |last2 a b c d=>exact .last2 a b c d
variable {r:Rk}
def Tr.run (h:Tr P E D B r γ g w):g.status=.running:=by
 cases B<;>cases r<;>first|exact h.elim|exact h.1
def Tr.rely (h:Tr P E D B r γ g w) (a:q9 E γ w A):Tr P E D B r γ g A:=by
 cases B<;>cases r<;>first|exact h.elim|exact⟨h.1,λd b=>h.2 d (a.trans b)⟩
def q7.rely (h:q7 P E D B γ g w) (a:q9 E γ w A):q7 P E D B γ g A:=let ⟨r,h⟩:=h;⟨r,h.rely a⟩
def Tr.move {f:Gam->Gn->Wl->Rk} (h:Tr P E D B (.s f) γ g w):Mov P E D (jvo P E D B) B γ g w λγ' a w'=>Tr P E D B (f γ' a w') γ' a w':=by
 cases B with
 |false=>exact h.2 w (q9.refl _ _ _)
 |true=>exact h.2 w (q9.refl _ _ _)
def q7.mk (b:g.status=.running) (h:∀A,q9 E γ w A->Mov P E D (jvo P E D B) B γ g A λγ' d w'=>q7 P E D B γ' d w'):q7 P E D B γ g w:=by
 haveI:=jvy;refine⟨.s λγ' d w'=>Classical.epsilon λr=>Tr P E D B r γ' d w',?_⟩;have c:∀γ' d w',q7 P E D B γ' d w'->Tr P E D B (Classical.epsilon λr=>Tr P E D B r γ' d w') γ' d w':=λγ' d w' h=>Classical.epsilon_spec h;cases B with
 |false=>exact⟨b,λA a=>(h A a).mono c⟩
 |true=>exact⟨b,λA a=>(h A a).mono c⟩
end
section
def blk:Loc->Nat
 |.cell a=>a.block
 |.obj s=>s
 |_=>0
structure TI (own rd:Nat->Nat->Prop) (n B:Nat) (t:Trace):Prop where
 bnd:∀i a,touchAt t i=some a->a.loc.isMemory=true->blk a.loc<B
 own:∀g i a,touchAt t i=some a->a.loc.isMemory=true->own g (blk a.loc)->Knows t g i
 rd:∀g i a,touchAt t i=some a->a.loc.isMemory=true->rd g (blk a.loc)->a.write=true->Knows t g i
 nr:∀said,¬Race said t
 gm:∀i g,t.g? i=some g->g<n
 nor:∀i a,t.act? i≠some (.mark (.release a))
variable {a:Touch}
def vn {t u:Trace} {i:Nat} (h:touchAt (t++u) i=some a):(i<t.size/\touchAt t i=some a)\/∃b∈u,(t++u)[i]?=some b/\b.act.touch?=some a:=by
 obtain⟨x,c,d⟩:=touch_of h;obtain⟨f,j⟩|⟨_,k⟩:=getElem?_append_cases c
 .exact .inl ⟨f,by rw[touchAt_of j];exact d⟩
 exact .inr ⟨x,k,c,d⟩
variable {own rd:Nat->Np}
variable {g B':Nat}
def TI.app (h:TI own rd n B t) (x:g<n) (y:B<=B') (o:∀c∈u,c.g=g/\∀a,c.act≠.mark (.release a))
 (z:∀c∈u,∀a,c.act.touch?=some a->a.loc.isMemory=true->blk a.loc<B')
 (A:∀c∈u,∀a,c.act.touch?=some a->a.loc.isMemory=true->∀G,own G (blk a.loc)->G=g)
 (D:∀c∈u,∀a,c.act.touch?=some a->a.loc.isMemory=true->a.write=true->∀G,¬rd G (blk a.loc))
 (E:∀p i a,touchAt t i=some a->∀c∈u,∀b,c.act.touch?=some b->a.conflicts p b->Knows t g i):TI own rd n B' (t++u):=by
 have H:∀c∈u,∀i,(t++u)[i]?=some c->Knows (t++u) g i:=λc j i e=>by
  have:=knows_own e;rwa [(o c j).1]at this
 refine⟨λi a k f=>?_,λG i a k f l=>?_,λG i a k f l s=>?_,λp=>noRace_append (h.nr p) (λc j=>(o c j).1) (E p),λi G e=>?_,λi a e=>?_⟩
 .obtain⟨_,d⟩|⟨c,d,_,m⟩:=vn k
  .exact mN (h.bnd i a d f) y
  exact z c d a m f
 .obtain⟨_,d⟩|⟨c,d,v,m⟩:=vn k
  .exact(h.own G i a d f l).app u
  rw[A c d a m f G l];exact H c d i v
 .obtain⟨_,d⟩|⟨c,d,v,m⟩:=vn k
  .exact(h.rd G i a d f l s).app u
  exact absurd l (D c d a m f s G)
 .simp only[Trace.g?,Option.map_eq_some_iff]at e;obtain⟨c,q,rfl⟩:=e;obtain⟨F,r⟩|⟨_,j⟩:=getElem?_append_cases q
  .exact h.gm i _ (by simp[Trace.g?,r])
  rw[(o c j).1];exact x
 simp only[Trace.act?,Option.map_eq_some_iff]at e;obtain⟨c,q,w⟩:=e;obtain⟨F,r⟩|⟨_,j⟩:=getElem?_append_cases q
 .exact h.nor i a (by simp[Trace.act?,r,w])
 exact(o c j).2 a w
def TI.still (h:TI own rd n B t) (i:g<n) (f:∀c∈u,c.g=g/\c.act.touch?=none/\∀a,c.act≠.mark (.release a)):TI own rd n B (t++u):=
 h.app i (mC _) (λc d=>⟨(f c d).1,(f c d).2.2⟩) (λc d a e=>by rw[(f c d).2.1]at e;cases e) (λc d a e=>by rw[(f c d).2.1]at e;cases e) (λc d a e=>by rw[(f c d).2.1]at e;cases e) (λ_ _ _ _ c d b e=>by rw[(f c d).2.1]at e;cases e)
def TI.turn (h:TI own rd n B t) {own' rd':Nat->Np} {n':Nat} (l:n<=n') (m:B<=B') (o:∀g b,own' g b->own g b\/B<=b\/∀i a,touchAt t i=some a->a.loc.isMemory=true->blk a.loc=b->Knows t g i) (p:∀g b,rd' g b->rd g b\/∀i a,touchAt t i=some a->a.loc.isMemory=true->blk a.loc=b->a.write=true->Knows t g i):TI own' rd' n' B' t:=by
 refine⟨λi a d f=>mN (h.bnd i a d f) m,λg i a d f j=>?_,λg i a d f j k=>?_,h.nr,λi g e=>mN (h.gm i g e) l,h.nor⟩
 .obtain c|c|c:=o g _ j
  .exact h.own g i a d f c
  .exact absurd c (Nat.not_le.2 (h.bnd i a d f))
  exact c i a d f rfl
 obtain c|c:=p g _ j
 .exact h.rd g i a d f c k
 exact c i a d f rfl k
variable {C:Np}
def jm8 {c:Nat->Prop} (b:EvG C c e) (h:(MemAct.ofEvent e).touch?=some a) (d:a.loc.isMemory=true):a.loc=e.loc/\a.write=e.write/\(C (blk a.loc)\/(c (blk a.loc)/\a.write=false)):=by
 obtain⟨f,wr,k⟩:=e;unfold EvG at b;cases f with
 |cell x=>
  simp only[MemAct.ofEvent,MemAct.touch?,Option.some.injEq]at h;subst h;exact⟨rfl,rfl,b⟩
 |obj s=>
  simp only at b;obtain⟨i,j⟩:=b;subst j
  have:MemAct.ofEvent ⟨.obj s,wr,false⟩=.access ⟨.obj s,wr,false⟩:=by cases wr<;>rfl
  rw[this]at h;simp only[MemAct.touch?,Option.some.injEq]at h;subst h;exact⟨rfl,rfl,.inl i⟩
 |output=>simp only[MemAct.ofEvent,MemAct.touch?,Option.some.injEq]at h;subst h;cases d
 |goroutines=>exact b.elim
 |mark m=>
  simp only at b;cases m<;>first|(exact b.elim)|(simp[MemAct.ofEvent,MemAct.touch?]at h)
def jr6 {c:Nat->Prop} (b:EvG C c e) (a:Addr):MemAct.ofEvent e≠.mark (.release a):=λh=>by
 obtain⟨d,wr,i⟩:=e;unfold EvG at b;cases d with
 |obj s=>simp only at b;obtain⟨_,f⟩:=b;subst f;cases wr<;>cases h
 |mark m=>simp only[MemAct.ofEvent,MemAct.mark.injEq]at h;subst h;exact b.elim
 |_=>cases h
def j9 {fn:Fi} {pos:String} {b:MemOp} (h:b∈MemOp.ofEvents g fn pos es):b.g=g/\∃e∈es,b.act=.ofEvent e:=by
 rw[ofEvents_eq]at h;rw[Array.mem_map]at h;obtain⟨e,c,rfl⟩:=h;exact⟨rfl,e,c,rfl⟩
structure jjb (own rd:Nat->Nat->Prop) (B:Nat):Prop where
 one:∀g g' b,own g b->own g' b->g=g'
 two:∀g g' b,own g b->¬rd g' b
 lo:∀g b,own g b->b<B
 lr:∀g b,rd g b->b<B
def TI.ord (h:TI own rd n B' t) (A:jjb own rd B') (v:g<n) (fn:Fi) (pos:String) (s:∀e∈es,EvG (own g) (rd g) e):TI own rd n B' (t++MemOp.ofEvents g fn pos es):=by
 have m:∀d∈MemOp.ofEvents g fn pos es,∀a,d.act.touch?=some a->a.loc.isMemory=true->own g (blk a.loc)\/(rd g (blk a.loc)/\a.write=false):=λd f a j k=>by
  obtain⟨_,e,c,l⟩:=j9 f;rw[l]at j;exact(jm8 (s e c) j k).2.2
 refine h.app v (mC _) (λd f=>?_) (λd f a j k=>?_) (λd f a j k G o=>?_) (λd f a j k w G o=>?_) (λE i a j d f b x y=>?_)
 .obtain⟨z,e,c,l⟩:=j9 f;exact⟨z,λa=>by rw[l];exact jr6 (s e c) a⟩
 .obtain c|⟨c,_⟩:=m d f a j k
  .exact A.lo g _ c
  exact A.lr g _ c
 .obtain c|⟨c,_⟩:=m d f a j k
  .exact A.one _ _ _ o c
  exact absurd c (A.two G g _ o)
 .obtain c|⟨_,c⟩:=m d f a j k
  .exact A.two g G _ c o
  rw[w]at c;cases c
 obtain⟨p,r,D,F⟩:=y;have k:b.loc.isMemory=true:=p▸r;obtain c|⟨c,l⟩:=m d f b x k
 .exact h.own g i a j r (p▸c)
 exact h.rd g i a j r (p▸c) (D.resolve_right λq=>by rw[l]at q;cases q)
def TI.aside (h:TI own rd n B' t) {Q:Nat} (l:g<n) (m:Q<B') (o:∀g,¬own g Q) (p:∀g,¬rd g Q) (f:∀c∈u,c.g=g/\(∀a,c.act≠.mark (.release a))/\∀a,c.act.touch?=some a->a.loc.isMemory=true->blk a.loc=Q)
 (q:∀r i a,touchAt t i=some a->∀c∈u,∀b,c.act.touch?=some b->a.conflicts r b->Knows t g i):TI own rd n B' (t++u):=
 h.app l (mC _) (λc d=>⟨(f c d).1,(f c d).2.1⟩) (λc d a e j=>by rw[(f c d).2.2 a e j];exact m) (λc d a e j s k=>by rw[(f c d).2.2 a e j]at k;exact absurd k (o s)) (λc d a e j _ s k=>by rw[(f c d).2.2 a e j]at k;exact p s k) q
end
section
def jg7 (p:Nat->Bool):Nat->Nat
 |0=>0
 |n+1=>jg7 p n+(if p n then 1 else 0)
variable {p q:Nat->Bool}
def ji2 (h:∀k,k<n->p k=q k):jg7 p n=jg7 q n:=by
 induction n with
 |zero=>rfl
 |succ n ih=>simp only[jg7,ih λk a=>h k oe,h n oe]
def jn5 (c:k<n) (a:p k=true) (b:q k=false) (h:∀i,i≠k->p i=q i):jg7 q n+1=jg7 p n:=by
 induction n with
 |zero=>omega
 |succ n ih=>
  simp only[jg7];by_cases e:k=n
  .subst e;rw[a,b,ji2 (p:=p) (q:=q) λi d=>h i oe];simp
  have:=ih oe;rw[h n λq=>e q.symm];omega
def jne (h:jg7 p n=0):∀k,k<n->p k=false:=by
 induction n with
 |zero=>intro k a;omega
 |succ n ih=>
  simp only[jg7]at h;intro k a;by_cases e:k=n
  .subst e;cases hp:p k with
   |false=>rfl
   |true=>rw[hp]at h;simp at h
  exact ih oe k oe
def jpc (h:0<jg7 p n):∃k,k<n/\p k=true:=by
 apply mP;intro a
 have:∀m,m<=n->jg7 p m=0:=by
  intro m;induction m with
  |zero=>intro _;rfl
  |succ m ih=>
   intro b;simp only[jg7,ih oe];cases hp:p m with
   |false=>rfl
   |true=>exact absurd ⟨m,oe,hp⟩ a
 rw[this n (mC _)]at h;omega
section
variable {A:Type}
inductive LL (lt:A->A->Prop):List A->List A->Prop
 |hd {x y:A} {l:List A}:lt x y->LL lt (x::l) (y::l)
 |tl {x:A} {l m:List A}:LL lt l m->LL lt (x::l) (x::m)
def LL.wf {a:A->A->Prop} (h:WellFounded a):WellFounded (LL a):=by
 have step:∀y,Acc a y->∀l,Acc (LL a) l->Acc (LL a) (y::l):=by
  intro y d;induction d with
  |intro y _ f=>
   intro l b;induction b with
   |intro l b g=>
    refine⟨_,λm c=>?_⟩;cases c with
    |hd e=>exact f _ e l ⟨l,b⟩
    |tl e=>exact g _ e
 refine⟨λl=>?_⟩;induction l with
 |nil=>exact⟨_,λm c=>by cases c⟩
 |cons y l ih=>exact step y (h.apply y) l ih
def LL.map {b:A->A->Prop} {f g:Nat->A}:∀{l:List Nat} {k:Nat},k∈l->l.Nodup->b (f k) (g k)->(∀i,i≠k->f i=g i)->LL b (l.map f) (l.map g)
 |[],k,hk,_,_,_=>by cases hk
 |a::l,k,hk,hn,hlt,he=>by
  by_cases e:a=k
  .subst e;have:l.map f=l.map g:=List.map_congr_left λi c=>he i λq=>(List.nodup_cons.1 hn).1 (q▸c);simp only[List.map_cons,this];exact .hd hlt
  simp only[List.map_cons,he a e];exact .tl (LL.map ((List.mem_cons.1 hk).resolve_left λq=>e q.symm) (List.nodup_cons.1 hn).2 hlt he)
end
def Ph.spawned:Ph->Nat
 |.open_ _ j _|.adds _ j|.added _ j|.ready _ j=>j
 |.shut G|.waits G|.seen G _|.sema G|.sem4 G|.over G|.heard G=>G.W
 |_=>0
def Ph.more:Ph->Nat
 |.added _ _|.ready _ _=>1
 |_=>0
def Ph.sent:Ph->Nat
 |.open_ _ _ i=>i
 |.shut G|.waits G|.seen G _|.sema G|.sem4 G|.over G|.heard G=>G.n
 |_=>0
def Ph.closed:Ph->Bool
 |.shut _|.waits _|.seen _ _|.sema _|.sem4 _|.over _|.heard _=>true
 |_=>false
def Ph.fits:Ph->Prop
 |.idle=>True
 |.open_ G j i=>j<=G.W/\i<=G.n/\(0<i->j=G.W)
 |.adds G j|.added G j|.ready G j=>j<G.W
 |.seen G v=>0<v
 |.shut _|.waits _|.sema _|.sem4 _|.over _|.heard _=>True
 |_=>False
def Ph.deafs:Ph->Nat
 |.adds _ _|.added _ _|.waits _|.seen _ _|.sema _|.sem4 _|.over _|.deaf _|.last _ _=>1
 |_=>0
def Ph.kid:Ph->Bool
 |.work _|.job _ _|.drained _|.rel _|.deaf _|.last _ _=>true
 |_=>false
def Ph.alive:Ph->Bool
 |.work _|.job _ _|.drained _|.rel _|.deaf _=>true
 |_=>false
structure Gh where
 y:Nat->Gam
 g:Nat->Gn
 r:Nat->Rk
 gone:Nat->Option (Nat×Nat)
 pk:Nat->Nat
 first:Nat
def Gh.own (h:Gh) (n:Nat):Nat->Np:=λk b=>k<n/\h.gone k=none/\(h.y k).own b
def Gh.rd (h:Gh) (n:Nat):Nat->Np:=λk b=>k<n/\h.gone k=none/\(h.y k).rd b
def Sit (pk k:Nat) (ph:Ph) (g x:Gn):Prop:=match pk with
 |0=>x=g
 |1=>(0<k/\∃G,ph=.work G/\x=parked g #[rcase G.C zR] (.recv true))\/(k=0/\∃G i,ph=.open_ G G.W i/\i<G.n/\x=parked g #[scase G.C (jgq G i) undef] .send)\/(k=0/\∃G,ph=.sema G/\x={g with status:=.blocked}/\g.offers=none)
 |_=>0<k/\∃G,ph=.work G/\x={parked g #[rcase G.C zR] (.recv true)with status:=.running}
def jme (P:Pq) (main:Bool) (g:Gn) (cs:Array CommCase) (sh:CommShape):Prop:=∀w,stepG P main g w=.comm g cs true sh w #[]
def jmx (P:Pq) (ph:Ph) (g:Gn):Prop:=(∀G,ph=.work G->jme P false g #[rcase G.C zR] (.recv true))/\∀G i,ph=.open_ G G.W i->jme P true g #[scase G.C (jgq G i) undef] .send
section
variable (P:Pq) (E:Env) (o:Vl->Wv)
def Gh.live (h:Gh) (n:Nat):Nat:=jg7 (λk=>decide (h.first<=k)&&(h.gone k).isNone&&(h.y k).ph.alive) n
def zb (h:Gh) (n:Nat):Prop:=∀k,h.first<=k->k<n->h.gone k=none->∀G i,(h.y k).ph≠.last G i
def WgS (h:Gh) (n:Nat) (w:Wl) (G:Grp):Prop:=match (h.y 0).ph with
 |.sema _=>(∃v,h.live n=v+1/\WgQ E G.Wg w ((v+1:Nat)*KQ+1) 0/\zb h n)\/
  (h.live n=0/\∃k i,h.first<=k/\k<n/\h.gone k=none/\(h.y k).ph=.last G i/\(i<=1->WgQ E G.Wg w 1 0)/\(i=2->WgQ E G.Wg w 0 0)/\i<=2/\∀k' G' i',h.first<=k'->k'<n->h.gone k'=none->(h.y k').ph=.last G' i'->k'=k)\/
  (h.live n=0/\WgQ E G.Wg w 0 1/\zb h n/\h.pk 0=0)
 |.sem4 _|.over _|.heard _=>h.live n=0/\WgQ E G.Wg w 0 0/\zb h n
 |ph=>WgQ E G.Wg w ((h.live n+ph.more:Nat)*KQ) 0/\zb h n
def jhk (h:Gh) (n:Nat) (t:Trace) (j:Nat):Prop:=∀k,(k=0\/(h.first<=k/\k<n/\h.gone k=none))->Knows t k j
structure GO (h:Gh) (n:Nat) (w:Wl) (t:Trace) (G:Grp):Prop where
 f1:1<=h.first
 size:n=h.first+(h.y 0).ph.spawned
 old:∀k,0<k->k<h.first->(h.gone k).isSome=true
 W:0<G.W/\G.W<=16
 ne:G.T≠G.C/\G.T≠G.Wg/\G.C≠G.Wg
 free:∀b,(b=G.T\/b=G.C\/b=G.Wg)->∀k,¬h.own n k b/\¬h.rd n k b
 kid:∀k,h.first<=k->k<n->h.gone k=none->(h.y k).ph.kid=true/\(h.y k).ph.grp=some G
 told:∃cs,jhj E G w cs/\∀i,i<(h.y 0).ph.sent->(∃k,h.first<=k/\k<n/\h.gone k=none/\(h.y k).ph=.job G i)\/∃v,cs[i]?=some (.string v)/\E.Ans (G.tx i) v
 job:∀k i,h.first<=k->k<n->h.gone k=none->(h.y k).ph=.job G i->i<(h.y 0).ph.sent/\i<G.n
 uniq:∀k k' i,h.first<=k->k<n->h.gone k=none->(h.y k).ph=.job G i->h.first<=k'->k'<n->h.gone k'=none->(h.y k').ph=.job G i->k=k'
 chan:∃s r,w.heap[G.C]?=some (.chan 0 #[] (h.y 0).ph.closed s r false)
 opn:(h.y 0).ph.closed=false->∀k,h.first<=k->k<n->h.gone k=none/\((h.y k).ph=.work G\/∃i,(h.y k).ph=.job G i)
 wg:WgS E h n w G
 excl:h.pk 0=1->(h.y 0).ph.closed=false->∀k,h.first<=k->k<n->h.pk k≠1
 rcv:∀k,h.first<=k->k<n->h.gone k=none->h.pk k=1->(h.y 0).ph.closed=false
 tt:∀i a,touchAt t i=some a->a.loc.isMemory=true->blk a.loc=G.T->jhk h n t i\/(∃k,t.g? i=some k/\h.first<=k)/\a.kind=.plain/\∃m,a.loc=.cell (AD G.T m)/\m<(h.y 0).ph.sent/\∀k,h.first<=k->k<n->h.gone k=none->(h.y k).ph≠.job G m
 tw:∀i a,touchAt t i=some a->a.loc.isMemory=true->(blk a.loc=G.Wg\/blk a.loc=G.C)->jhk h n t i\/a.kind=.atomic\/(a.kind=.said/\t.g? i=some 0)
 rel:∀k,h.first<=k->k<n->((h.gone k).isSome=true\/(h.y k).ph.said=true)->∃r,Go.ConcN.RelBy (stQ G.Wg) t k r
structure MI (h:Gh) (gs:Array Gn) (w:Wl) (t:Trace):Prop where
 n0:0<gs.size
 m0:h.gone 0=none
 tree:∀k,k<gs.size->h.gone k=none->Tr P E o (k==0) (h.r k) (h.y k) (h.g k) w
 quit:∀k q d,k<gs.size->h.gone k=some (q,d)->∃x,gs[k]?=some x/\QuitsD P q d x
 sit:∀k x,gs[k]?=some x->h.gone k=none->Sit (h.pk k) k (h.y k).ph (h.g k) x
 apart:jjb (h.own gs.size) (h.rd gs.size) w.heap.size
 fits:(h.y 0).ph.fits
 idle:(h.y 0).ph=.idle->h.first=gs.size/\∀k,0<k->k<gs.size->(h.gone k).isSome=true
 grp:∀G,(h.y 0).ph.grp=some G->GO E h gs.size w t G
 ti:TI (h.own gs.size) (h.rd gs.size) gs.size w.heap.size t
 deaf:∀k,k<gs.size->Deaf t k=match h.gone k with|none=>(h.y k).ph.deafs|some (_,d)=>d
 hand:∀k i,0<k->k<h.first->t.g? i=some k->t.counts i->Knows t 0 i
 comm:∀k,k<gs.size->h.gone k=none->h.pk k=1->jmx P (h.y k).ph (h.g k)
end
def Gh.far (h:Gh) (k:Nat):Rk×Nat:=match h.gone k with
 |none=>(h.r k,0)
 |some (q,_)=>(.z,q)
abbrev Mu:=Rk×List (Rk×Nat)×Nat
def Gh.mu (h:Gh) (gs:Array Gn):Mu:=(h.r 0,(List.range gs.size).map h.far,jg7 (λk=>(gs[k]?).any (·.status==.running)) gs.size)
def jot:Mu->Mu->Prop:=Prod.Lex Rk.Lt (Prod.Lex (LL (Prod.Lex Rk.Lt Nat.lt)) Nat.lt)
def jot.wf:WellFounded jot:=(Prod.lex ⟨_,Rk.wf⟩ (Prod.lex ⟨_,LL.wf (Prod.lex ⟨_,Rk.wf⟩ ⟨_,Nat.lt_wfRel.wf⟩).wf⟩ ⟨_,Nat.lt_wfRel.wf⟩)).wf
end
section
variable {E:Env} {h:Gh}
def j8 {A:Type} (f:Nat->A) (i:Nat) (v:A):Nat->A:=λk=>if k=i then v else f k
variable {A:Type}
def ya (f:Nat->A) (i:Nat) (v:A):j8 f i v i=v:=by simp[j8]
def jl (f:Nat->A) {i:Nat} (v:A) (e:k≠i):j8 f i v k=f k:=by simp[j8,e]
structure Chg (S:Nat->Prop) (w w':Wl):Prop where
 size:w.heap.size<=w'.heap.size
 out:∀b,b<w.heap.size->¬S b->w'.heap[b]?=w.heap[b]?
 os:w'.os=w.os
 output:w'.output=w.output
def Chg.same (S:Np) (w:Wl):Chg S w w:=⟨mC _,λ_ _ _=>rfl,rfl,rfl⟩
variable {S:Np}
def Chg.cell {a:Addr} {v:Vl} (c:S a.block):Chg S w (w.setCell a v):=by
 refine⟨oF,λb e d=>?_,rfl,rfl⟩;have:a.block≠b:=λq=>d (q▸c);simp[World.setCell,Array.getElem?_modify,this]
def Chg.set {b:Nat} {o:Obj} (a:S b):Chg S w {w with heap:=w.heap.setIfInBounds b o}:=by
 refine⟨oi,λx d c=>?_,rfl,rfl⟩;have:b≠x:=λq=>c (q▸a);simp[Array.getElem?_setIfInBounds,this]
def MI.rely (m:MI P E F h gs w t) (c:Chg S w w') (d:k<gs.size) (e:h.gone k=none) (f:∀b,S b->¬(h.y k).own b/\¬(h.y k).rd b) (i:∀G,(h.y k).ph.grp=some G->WgL E G.Wg w->WgL E G.Wg w') (j:(h.y k).ph.wt=true->∀G,(h.y k).ph.grp=some G->jp5 E G.Wg w w'):q9 E (h.y k) w w':=
 ⟨λb a=>c.out b (m.apart.lo k b ⟨d,e,a⟩) λs=>(f b s).1 a,λb a=>c.out b (m.apart.lr k b ⟨d,e,a⟩) λs=>(f b s).2 a,c.os,c.output,i,j⟩
variable {G:Grp}
def GO.wgl {n:Nat} (g:GO E h n w t G):WgL E G.Wg w:=by
 have:=g.wg;unfold WgS at this;split at this
 .obtain⟨v,_,a,_⟩|⟨_,k,i,_,_,_,_,a,b,c,_⟩|⟨_,a,_⟩:=this
  .exact⟨_,_,a⟩
  .by_cases e:i<=1
   .exact⟨_,_,a e⟩
   exact⟨_,_,b oe⟩
  exact⟨_,_,a⟩
 .exact⟨_,_,this.2.1⟩
 .exact⟨_,_,this.2.1⟩
 .exact⟨_,_,this.2.1⟩
 exact⟨_,_,this.1⟩
def MI.grpOf (m:MI P E F h gs w t) (b:k<gs.size) (a:h.gone k=none) (c:(h.y k).ph.grp=some G):(h.y 0).ph.grp=some G:=by
 by_cases e:k=0
 .subst e;exact c
 cases e0:(h.y 0).ph.grp with
 |none=>
  have d:(h.y 0).ph=.idle:=by
   cases e1:(h.y 0).ph<;>rw[e1]at e0<;>first|rfl|cases e0
  have:=(m.idle d).2 k oe b;rw[a]at this;cases this
 |some G0=>
  have g:=m.grp G0 e0;have f:h.first<=k:=Nat.le_of_not_lt λq=>by have:=g.old k oe q;rw[a]at this;cases this
  have:=(g.kid k f b a).2;rw[c]at this;exact this.symm
def MI.lives (m:MI P E F h gs w t) (b:k<gs.size) (c:0<k) (a:h.gone k=none):∃G,(h.y 0).ph.grp=some G/\GO E h gs.size w t G/\h.first<=k/\(h.y k).ph.kid=true/\(h.y k).ph.grp=some G:=by
 cases e0:(h.y 0).ph.grp with
 |none=>
  have e:(h.y 0).ph=.idle:=by
   cases e1:(h.y 0).ph<;>rw[e1]at e0<;>first|rfl|cases e0
  have:=(m.idle e).2 k c b;rw[a]at this;cases this
 |some G0=>
  have g:=m.grp G0 e0;have d:h.first<=k:=Nat.le_of_not_lt λq=>by have:=g.old k c q;rw[a]at this;cases this
  exact⟨G0,rfl,g,d,g.kid k d b a⟩
variable {H:Ph}
def Ph.kid_wt (h:H.kid=true):H.wt=false:=by cases H<;>first|rfl|cases h
def MI.wt0 (m:MI P E F h gs w t) (b:k<gs.size) (c:h.gone k=none) (a:(h.y k).ph.wt=true):k=0:=by
 by_cases e:k=0
 .exact e
 obtain⟨_,_,_,_,q,_⟩:=m.lives b oe c;rw[Ph.kid_wt q]at a;cases a
variable {pk:Nat}
def Sit.run (s:Sit pk k H g x) (b:x.status=.running) (a:g.status=.running):pk≠1/\∀(d:Bool) w,stepG P d x w=stepG P d g w:=by
 match pk,s with
 |0,s=>exact⟨oe,λ_ _=>by rw[show x=g from s]⟩
 |1,s=>
  obtain⟨_,G,_,rfl⟩|⟨_,G,i,_,_,rfl⟩|⟨_,G,_,rfl,_⟩:=s<;>cases b
 |n+2,s=>
  obtain⟨_,G,_,rfl⟩:=s;refine⟨oe,λd w=>?_⟩;rw[stepG_tries]
  have:{g with status:=.running}=g:=by cases g;simp only at a;subst a;rfl
  rw[this]
def jl1 (w:Wl) (a:x.status=.running):x.again w=x:=by
 unfold Goroutine.again;rw[a]
def Sit.woken (s:Sit pk k H g x) (v:g.status=.running) (a I:Gn) (y:∀G,H.grp=some G->pk=1->(∀J,H≠.sema J)->∃l m o s r p,w'.heap[G.C]?=some (.chan l m o s r p)/\(k=0->o=false)):
 ∃j,Sit j k H g (woken P a I w' x)/\(j=pk\/(pk=1/\(k=0->j=0)/\j≠1))/\((mayWake P a&&I.status !=.blocked&&I.status !=.waiting)=true->0<k->(∀G,H.grp=some G->∃l m s r p,w'.heap[G.C]?=some (.chan l m true s r p))->j≠1)/\((mayWake P a&&I.status !=.blocked&&I.status !=.waiting)=true->k=0->(∃G,H=.sema G)->j=0):=by
 by_cases d:(mayWake P a&&I.status !=.blocked&&I.status !=.waiting)=true;rotate_left
 .exact⟨pk,by unfold Go.Conc.woken;rw[if_neg d];exact s,.inl rfl,λq=>absurd q d,λq=>absurd q d⟩
 match pk,s with
 |0,s=>exact⟨0,by unfold Go.Conc.woken;rw[if_pos d,show x=g from s,jl1 _ v];rfl,.inl rfl,(λ_ _ _=>oe),λ_ _ _=>rfl⟩
 |n+2,s=>
  obtain⟨c,G,b,rfl⟩:=s;exact⟨n+2,by unfold Go.Conc.woken;rw[if_pos d,jl1 _ rfl];exact⟨c,G,b,rfl⟩,.inl rfl,(λ_ _ _=>oe),λ_ q=>oe⟩
 |1,s=>
  obtain⟨c,G,b,rfl⟩|⟨c,G,i,b,u,rfl⟩|⟨c,G,b,rfl,u⟩:=s
  .obtain⟨l,m,o,s,r,p,e,_⟩:=y G (by rw[b];rfl) rfl (λJ q=>by rw[b]at q;cases q);cases o with
   |false=>exact⟨1,by rw[woken_recv_open a I e];exact .inl ⟨c,G,b,rfl⟩,.inl rfl,(λ_ _ q=>by
    obtain⟨_,_,_,_,_,q⟩:=q G (by rw[b];rfl);rw[e]at q;cases q),λ_ q=>oe⟩
   |true=>
    refine⟨2,?_,.inr ⟨rfl,λq=>oe,oe⟩,(λ_ _ _=>oe),λ_ q=>oe⟩;unfold Go.Conc.woken;rw[if_pos d,again_recv_closed e];exact⟨c,G,b,rfl⟩
  .obtain⟨l,m,o,s,r,p,e,z⟩:=y G (by rw[b];rfl) rfl (λJ q=>by rw[b]at q;cases q);rw[z c]at e;exact⟨1,by rw[woken_send_open a I e];exact .inr (.inl ⟨c,G,i,b,u,rfl⟩),.inl rfl,(λ_ q=>oe),λ_ _ ⟨K,q⟩=>by rw[b]at q;cases q⟩
  refine⟨0,?_,.inr ⟨rfl,λ_=>rfl,oe⟩,(λ_ _ _=>oe),λ_ _ _=>rfl⟩;unfold Go.Conc.woken;rw[if_pos d];unfold Goroutine.again;simp only[u];obtain⟨f,L,B,D,off⟩:=g;simp only at v u;subst v u;rfl
def MI.at (m:MI P E F h gs w t) (d:Nat):MI P E F h gs (w.at d) t:=by
 refine⟨m.n0,m.m0,λk a b=>(m.tree k a b).rely ⟨λ_ _=>rfl,λ_ _=>rfl,rfl,rfl,λ_ _ h=>h,λ_ _ _=>.same rfl⟩,m.quit,m.sit,m.apart,m.fits,m.idle,λG c=>?_,m.ti,m.deaf,m.hand,m.comm⟩;have g:=m.grp G c;exact⟨g.f1,g.size,g.old,g.W,g.ne,g.free,g.kid,g.told,g.job,g.uniq,g.chan,g.opn,g.wg,g.excl,g.rcv,g.tt,g.tw,g.rel⟩
end
section
variable {E:Env} {h:Gh}
structure MR (E:Env) (h:Gh) (n:Nat) (w:Wl) (t:Trace):Prop where
 apart:jjb (h.own n) (h.rd n) w.heap.size
 fits:(h.y 0).ph.fits
 idle:(h.y 0).ph=.idle->h.first=n/\∀k,0<k->k<n->(h.gone k).isSome=true
 grp:∀G,(h.y 0).ph.grp=some G->GO E h n w t G
 ti:TI (h.own n) (h.rd n) n w.heap.size t
 deaf:∀k,k<n->Deaf t k=match h.gone k with|none=>(h.y k).ph.deafs|some (_,d)=>d
 hand:∀k i,0<k->k<h.first->t.g? i=some k->t.counts i->Knows t 0 i
def MI.mr (m:MI P E Post h gs w t):MR E h gs.size w t:=⟨m.apart,m.fits,m.idle,m.grp,m.ti,m.deaf,m.hand⟩
def jji {f:Gn->Gn} {k:Nat} (a:k≠i):((gs.map f).setIfInBounds i g')[k]?=(gs[k]?).map f:=by
 rw[mD (λe=>a e.symm),Array.getElem?_map]
def MI.others (m:MI P E Post h gs w t) (J:∀k G,k≠i->k<gs.size->h.gone k=none->(h.y k).ph.grp=some G->h.pk k=1->(∀T,(h.y k).ph≠.sema T)->∃l n H s r o,w'.heap[G.C]?=some (.chan l n H s r o)/\(k=0->H=false)):
 ∃R:Nat->Nat,R i=0/\(∀k y,k≠i->((gs.map (woken P x g' w')).setIfInBounds i g')[k]?=some y->h.gone k=none->Sit (R k) k (h.y k).ph (h.g k) y)/\
  (∀k,k≠i->k<gs.size->h.gone k=none->R k=h.pk k\/(h.pk k=1/\(k=0->R k=0)/\R k≠1))/\
  (∀k q d,k≠i->k<gs.size->h.gone k=some (q,d)->∃y,((gs.map (woken P x g' w')).setIfInBounds i g')[k]?=some y/\QuitsD P q d y)/\
  ((mayWake P x&&g'.status !=.blocked&&g'.status !=.waiting)=true->∀k,k≠i->0<k->k<gs.size->h.gone k=none->(∀G,(h.y k).ph.grp=some G->∃l n s r o,w'.heap[G.C]?=some (.chan l n true s r o))->R k≠1)/\
  ((mayWake P x&&g'.status !=.blocked&&g'.status !=.waiting)=true->0≠i->(∃G,(h.y 0).ph=.sema G)->R 0=0):=by
 have K:∀k,∃p,(k≠i->k<gs.size->h.gone k=none->(∀y,gs[k]?=some y->Sit p k (h.y k).ph (h.g k) (woken P x g' w' y))/\(p=h.pk k\/(h.pk k=1/\(k=0->p=0)/\p≠1))/\((mayWake P x&&g'.status !=.blocked&&g'.status !=.waiting)=true->0<k->(∀G,(h.y k).ph.grp=some G->∃l n s r o,w'.heap[G.C]?=some (.chan l n true s r o))->p≠1)/\((mayWake P x&&g'.status !=.blocked&&g'.status !=.waiting)=true->k=0->(∃G,(h.y k).ph=.sema G)->p=0))/\(k=i->p=0):=λk=>by
  by_cases e:k=i
  .exact⟨0,λq=>absurd e q,λ_=>rfl⟩
  by_cases c:k<gs.size/\h.gone k=none
  .obtain⟨c,f⟩:=c;obtain⟨y,j⟩:∃y,gs[k]?=some y:=⟨_,my c⟩;obtain⟨p,A,B,D,L⟩:=(m.sit k y j f).woken (P:=P) (w':=w') (m.tree k c f).run x g' λG A B D=>J k G e c f A B D;exact⟨p,λ_ _ _=>⟨λz u=>by rw[j]at u;cases u;exact A,B,D,L⟩,λq=>absurd q e⟩
  exact⟨0,λ_ a b=>absurd ⟨a,b⟩ c,λ_=>rfl⟩
 obtain⟨R,v⟩:=Classical.axiomOfChoice K;refine⟨R,(v i).2 rfl,λk y e j f=>?_,λk e c f=>?_,λk q d e c M=>?_,λF k e N c f=>((v k).1 e c f).2.2.1 F N,λF e O=>((v 0).1 e m.n0 m.m0).2.2.2 F rfl O⟩
 .rw[jji e,mL]at j;obtain⟨z,u,rfl⟩:=j;exact((v k).1 e (mw.1 u).1 f).1 z u
 .exact((v k).1 e c f).2.1
 obtain⟨y,j,I⟩:=m.quit k q d c M;exact⟨y,by rw[jji e,j,Option.map_some,woken_quitsD I],I⟩
def Gh.turn (h:Gh) (i:Nat) (γ':Gam) (g':Gn) (r':Rk) (go':Option (Nat×Nat)) (pf:Nat->Nat):Gh:=⟨j8 h.y i γ',j8 h.g i g',j8 h.r i r',j8 h.gone i go',pf,h.first⟩
def jlp (h:Gh) (n i:Nat) (pf:Nat->Nat):Prop:=pf i=0/\∀k,k≠i->k<n->h.gone k=none->pf k=h.pk k\/(h.pk k=1/\(k=0->pf k=0)/\pf k≠1)
def MI.stepGo (m:MI P E Post h gs w t) {sl:Option (Nat×Nat)} (z:gs[i]?=some x) (A:h.gone i=none) (hx:x.status=.running) {es:Array Event} (st:stepG P (i==0) (h.g i) w=.go g' w' es)
 {S:Nat->Prop} (c:Chg S w w') (hS:∀k,k≠i->k<gs.size->h.gone k=none->∀b,S b->¬(h.y k).own b/\¬(h.y k).rd b) (hwg:∀G,(h.y 0).ph.grp=some G->WgL E G.Wg w->WgL E G.Wg w') (hdn:i≠0->(h.y 0).ph.wt=true->∀G,(h.y 0).ph.grp=some G->jp5 E G.Wg w w')
 (hc:∀G,(h.y 0).ph.grp=some G->(h.y 0).ph.closed=false->∃B D cl s r F,w'.heap[G.C]?=some (.chan B D cl s r F)/\(0≠i->cl=false))
 {γ':Gam} {r':Rk} {go':Option (Nat×Nat)} (p:Nat) (ht:go'=none->Tr P E Post (i==0) r' γ' g' w') (hlt:go'=none->Rk.Lt r' (h.r i)) (H:∀q d,go'=some (q,d)->0<i/\QuitsD P q d g') (hnz:∃f,h.r i=.s f)
 (mr:∀pf,jlp h gs.size i pf->((mayWake P x&&g'.status !=.blocked&&g'.status !=.waiting)=true->∀k,k≠i->0<k->k<gs.size->h.gone k=none->(∀G,(h.y k).ph.grp=some G->∃B D s r F,w'.heap[G.C]?=some (.chan B D true s r F))->pf k≠1)->((mayWake P x&&g'.status !=.blocked&&g'.status !=.waiting)=true->0≠i->(∃G,(h.y 0).ph=.sema G)->pf 0=0)->MR E {h.turn i γ' g' r' go' pf with first:=p} gs.size w' (t++MemOp.ofEvents i x.frame.fn x.frame.place es)):
 ∃m' ops h' gs',runT P (crowd gs w sl) i=(.next (crowd gs' w' sl),ops)/\m'=crowd gs' w' sl/\MI P E Post h' gs' w' (t++ops)/\jot (h'.mu gs') (h.mu gs):=by
 have I:i<gs.size:=(mw.1 z).1;have st':stepG P (i==0) x w=.go g' w' es:=by rw[((m.sit i x z A).run (P:=P) hx (m.tree i I A).run).2];exact st
 obtain⟨pf,J,p1,p2,p3,p4,p5⟩:=m.others (w':=w') (i:=i) (x:=x) (g':=g') λk G e n K L u hs=>by
  have v:=m.grpOf n K L;have g:=m.grp G v;by_cases e0:k=0
  .subst e0;have:=m.sit 0 _ (my m.n0) m.m0;rw[u]at this;obtain⟨M,_⟩|⟨_,G1,j,N,_⟩|⟨_,G1,N,_⟩:=this
   .omega
   .obtain⟨O,Q,T,U,V,W,X,a8⟩:=hc G v (by rw[N];rfl);exact⟨O,Q,T,U,V,W,X,λ_=>a8 e⟩
   exact absurd N (hs G1)
  obtain⟨G1,M,g1,Y,_⟩:=m.lives n oe K;rw[v]at M;cases M;obtain⟨O,Q,T,U,V,W,X,a8⟩:=hc G v (g.rcv k Y n K u);exact⟨O,Q,T,U,V,W,X,λq=>absurd q e0⟩
 have o:((gs.map (woken P x g' w')).setIfInBounds i g').size=gs.size:=oi;have pk:jlp h gs.size i pf:=⟨J,p2⟩;have R:=mr pf pk p4 p5;refine⟨_,_,{h.turn i γ' g' r' go' pf with first:=p},_,runT_crowd_go z st',rfl,⟨by rw[o];exact m.n0,?_,λk n l=>?_,λk q d n l=>?_,λk y Z l=>?_,by rw[o];exact R.apart,R.fits,by rw[o];exact R.idle,by rw[o];exact R.grp,by rw[o];exact R.ti,by rw[o];exact R.deaf,R.hand,λk n l u=>?_⟩,?_⟩
 .by_cases e:(0:Nat)=i
  .subst e;cases hgo:go' with
   |none=>show j8 h.gone 0 none 0=none;rw[ya]
   |some qd=>obtain⟨q,d⟩:=qd;have:=(H q d hgo).1;omega
  show j8 h.gone i go' 0=none;rw[jl _ _ e];exact m.m0
 .rw[o]at n;by_cases e:k=i
  .subst e;have l:j8 h.gone k go' k=none:=l;rw[ya]at l;show Tr P E Post (k==0) (j8 h.r k r' k) (j8 h.y k γ' k) (j8 h.g k g' k) w';rw[ya,ya,ya];exact ht l
  have l:j8 h.gone i go' k=none:=l;rw[jl _ _ e]at l;show Tr P E Post (k==0) (j8 h.r i r' k) (j8 h.y i γ' k) (j8 h.g i g' k) w';rw[jl _ _ e,jl _ _ e,jl _ _ e];exact(m.tree k n l).rely (m.rely c n l (hS k e n l) (λG L=>hwg G (m.grpOf n l L)) λhw=>by
   have:=m.wt0 n l hw;subst this;exact hdn (λq=>e q.symm) hw)
 .rw[o]at n;by_cases e:k=i
  .subst e;have l:j8 h.gone k go' k=some (q,d):=l;rw[ya]at l;exact⟨g',by rw[mB (by simpa using n)],(H q d l).2⟩
  have l:j8 h.gone i go' k=some (q,d):=l;rw[jl _ _ e]at l;exact p3 k q d e n l
 .by_cases e:k=i
  .subst e;rw[mB (by simpa using I)]at Z;cases Z;show Sit (pf k) k (j8 h.y k γ' k).ph (j8 h.g k g' k) g';rw[ya,ya,J];rfl
  have l:j8 h.gone i go' k=none:=l;rw[jl _ _ e]at l;show Sit (pf k) k (j8 h.y i γ' k).ph (j8 h.g i g' k) y;rw[jl _ _ e,jl _ _ e];exact p1 k y e Z l
 .rw[o]at n;have u:pf k=1:=u;have e:k≠i:=λe=>by rw[e,J]at u;omega
  have l:j8 h.gone i go' k=none:=l;rw[jl _ _ e]at l;show jmx P (j8 h.y i γ' k).ph (j8 h.g i g' k);rw[jl _ _ e,jl _ _ e];refine m.comm k n l ?_;obtain a|⟨a,_⟩:=p2 k e n l
  .rw[<-a];exact u
  exact a
 unfold Gh.mu;rw[o];by_cases e:i=0
 .subst e;refine .left _ _ ?_;cases hgo:go' with
  |none=>show Rk.Lt (j8 h.r 0 r' 0) _;rw[ya];exact hlt hgo
  |some qd=>obtain⟨q,d⟩:=qd;have:=(H q d hgo).1;omega
 have e1:({h.turn i γ' g' r' go' pf with first:=p}:Gh).r 0=h.r 0:=jl _ _ λq=>e q.symm;rw[e1];refine .right _ (.left _ _ (LL.map (k:=i) (mT.2 I) List.nodup_range ?_ λk n=>?_))
 .unfold Gh.far;have e2:({h.turn i γ' g' r' go' pf with first:=p}:Gh).gone i=go':=ya _ _ _;have e3:({h.turn i γ' g' r' go' pf with first:=p}:Gh).r i=r':=ya _ _ _;rw[e2,e3,A];cases hgo:go' with
  |none=>exact .left _ _ (hlt hgo)
  |some qd=>
   obtain⟨f,Y⟩:=hnz;obtain⟨q,d⟩:=qd;rw[Y];exact .left _ _ ⟨f,rfl,.inl rfl⟩
 unfold Gh.far;have e2:({h.turn i γ' g' r' go' pf with first:=p}:Gh).gone k=h.gone k:=jl _ _ n;have e3:({h.turn i γ' g' r' go' pf with first:=p}:Gh).r k=h.r k:=jl _ _ n;rw[e2,e3]
end
section
variable {E:Env} {h:Gh} {γ':Gam} {r':Rk}
def jjb.turn (A:jjb (h.own n) (h.rd n) w.heap.size) (r:w.heap.size<=w'.heap.size) (B:i<n) (s:h.gone i=none) (x:go'=none->∀b,γ'.own b->(h.y i).own b\/(w.heap.size<=b/\b<w'.heap.size)) (y:go'=none->∀b,γ'.rd b->(h.y i).rd b):jjb ((h.turn i γ' g' r' go' pf).own n) ((h.turn i γ' g' r' go' pf).rd n) w'.heap.size:=by
 have o:∀k b,(h.turn i γ' g' r' go' pf).own n k b->h.own n k b\/(k=i/\w.heap.size<=b/\b<w'.heap.size):=λk b ⟨g,d,f⟩=>by
  by_cases e:k=i
  .subst e;have d:j8 h.gone k go' k=none:=d;have f:(j8 h.y k γ' k).own b:=f;rw[ya]at d f;obtain q|q:=x d b f
   .exact .inl ⟨g,s,q⟩
   exact .inr ⟨rfl,q⟩
  have d:j8 h.gone i go' k=none:=d;have f:(j8 h.y i γ' k).own b:=f;rw[jl _ _ e]at d f;exact .inl ⟨g,d,f⟩
 have l:∀k b,(h.turn i γ' g' r' go' pf).rd n k b->h.rd n k b:=λk b ⟨g,d,f⟩=>by
  by_cases e:k=i
  .subst e;have d:j8 h.gone k go' k=none:=d;have f:(j8 h.y k γ' k).rd b:=f;rw[ya]at d f;exact⟨g,s,y d b f⟩
  have d:j8 h.gone i go' k=none:=d;have f:(j8 h.y i γ' k).rd b:=f;rw[jl _ _ e]at d f;exact⟨g,d,f⟩
 refine⟨λk j b g d=>?_,λk j b g d=>?_,λk b g=>?_,λk b g=>mN (A.lr k b (l k b g)) r⟩
 .obtain a|⟨m,v,p⟩:=o k b g<;>obtain c|⟨z,C,D⟩:=o j b d
  .exact A.one k j b a c
  .have:=A.lo k b a;omega
  .have:=A.lo j b c;omega
  rw[m,z]
 .obtain a|⟨m,v,p⟩:=o k b g
  .exact A.two k j b a (l j b d)
  have:=A.lr j b (l j b d);omega
 obtain a|⟨m,v,p⟩:=o k b g
 .exact mN (A.lo k b a) r
 exact p
def jm7 (f:h.gone i=none) (g:go'=none->∀b,γ'.own b->(h.y i).own b\/(w.heap.size<=b/\b<w'.heap.size)) (k b:Nat) (j:(h.turn i γ' g' r' go' pf).own n k b):h.own n k b\/w.heap.size<=b:=by
 obtain⟨d,a,c⟩:=j;by_cases e:k=i
 .subst e;have a:j8 h.gone k go' k=none:=a;have c:(j8 h.y k γ' k).own b:=c;rw[ya]at a c;obtain q|q:=g a b c
  .exact .inl ⟨d,f,q⟩
  exact .inr q.1
 have a:j8 h.gone i go' k=none:=a;have c:(j8 h.y i γ' k).own b:=c;rw[jl _ _ e]at a c;exact .inl ⟨d,a,c⟩
def jmh (f:h.gone i=none) (g:go'=none->∀b,γ'.rd b->(h.y i).rd b) (k b:Nat) (j:(h.turn i γ' g' r' go' pf).rd n k b):h.rd n k b:=by
 obtain⟨d,a,c⟩:=j;by_cases e:k=i
 .subst e;have a:j8 h.gone k go' k=none:=a;have c:(j8 h.y k γ' k).rd b:=c;rw[ya]at a c;exact⟨d,f,g a b c⟩
 have a:j8 h.gone i go' k=none:=a;have c:(j8 h.y i γ' k).rd b:=c;rw[jl _ _ e]at a c;exact⟨d,a,c⟩
def TI.turnG (T:TI (h.own n) (h.rd n) n w.heap.size t) (d:w.heap.size<=w'.heap.size) (c:h.gone i=none) (e:go'=none->∀b,γ'.own b->(h.y i).own b\/(w.heap.size<=b/\b<w'.heap.size)) (f:go'=none->∀b,γ'.rd b->(h.y i).rd b):TI ((h.turn i γ' g' r' go' pf).own n) ((h.turn i γ' g' r' go' pf).rd n) n w'.heap.size t:=
 T.turn (mC _) d (λk b a=>(jm7 c e k b a).imp id .inl) λk b a=>.inl (jmh c f k b a)
def jku {j:Nat} (a:j<t.size):(t++u).counts j↔t.counts j:=by rw[counts_old a]
def jfd (l:∀k j,0<k->k<h.first->t.g? j=some k->t.counts j->Knows t 0 j) (m:∀a∈u,h.first<=a.g\/a.g=0\/a.act.touch?=none):∀k j,0<k->k<h.first->(t++u).g? j=some k->(t++u).counts j->Knows (t++u) 0 j:=λk j o p b d=>by
 obtain c|c:=Nat.lt_or_ge j t.size
 .rw[g?_old c]at b;exact(l k j o p b ((jku c).1 d)).app u
 obtain⟨x,r,_⟩:=d;obtain⟨a,e,f⟩:=touch_of r;obtain⟨v,_⟩|⟨_,s⟩:=getElem?_append_cases e
 .omega
 simp only[Trace.g?,e,Option.map_some,Option.some.injEq]at b;obtain q|q|q:=m a s
 .omega
 .omega
 rw[q]at f;cases f
end
section
variable {E:Env} {h H:Gh} {γ':Gam} {r':Rk} {G:Grp}
def GO.core (g:GO E h n w t G) (l:H.first=h.first) (es:(H.y 0).ph.spawned=(h.y 0).ph.spawned) (K:(H.y 0).ph.sent=(h.y 0).ph.sent) (D:(H.y 0).ph.closed=(h.y 0).ph.closed) (Q:∀k,(h.gone k).isSome=true->(H.gone k).isSome=true)
 (hkid:∀k,h.first<=k->k<n->H.gone k=none->(H.y k).ph.kid=true/\(H.y k).ph.grp=some G) (F:∀k m,h.first<=k->k<n->((H.gone k=none/\(H.y k).ph=.job G m)↔(h.gone k=none/\(h.y k).ph=.job G m)))
 (R:(h.y 0).ph.closed=false->∀k,h.first<=k->k<n->H.gone k=none/\(H.y k).ph=(h.y k).ph) (hfree:∀b,(b=G.T\/b=G.C\/b=G.Wg)->∀k,¬H.own n k b/\¬H.rd n k b)
 (hT:w'.heap[G.T]?=w.heap[G.T]?) (hC:w'.heap[G.C]?=w.heap[G.C]?) (hwg:WgS E H n w' G) (hp0:H.pk 0=1->(h.y 0).ph.closed=false->h.pk 0=1) (S:∀k,h.first<=k->k<n->H.gone k=none->H.pk k=1->h.gone k=none/\h.pk k=1)
 (U:∀B∈u,∀a,B.act.touch?=some a->a.loc.isMemory=true->blk a.loc≠G.T/\((blk a.loc=G.Wg\/blk a.loc=G.C)->a.kind=.atomic\/(a.kind=.said/\B.g=0)))
 (hrel:∀k,h.first<=k->k<n->((H.gone k).isSome=true\/(H.y k).ph.said=true)->∃r,Go.ConcN.RelBy (stQ G.Wg) (t++u) k r):GO E H n w' (t++u) G:=by
 have V:∀{j:Nat},jhk h n t j->jhk H n (t++u) j:=λ{j} L k f=>(L k (f.imp id λ⟨a,b,c⟩=>⟨l▸a,b,by
  cases e:h.gone k with
  |none=>rfl
  |some q=>have:=Q k mi;rw[c]at this;cases this⟩)).app u
 refine⟨by rw[l];exact g.f1,by rw[l,es];exact g.size,λk h0 f=>Q k (g.old k h0 (l▸f)),g.W,g.ne,hfree,λk o f v=>hkid k (l▸o) f v,?_,λk m o f v y=>?_,λk X m o f v y Y Z hl' hp'=>?_,?_,λhc k o f=>?_,hwg,λp z k o f x=>?_,λk o f v y=>?_,λj a M A I=>?_,λj a M A I=>?_,λk o f hs=>hrel k (l▸o) f hs⟩
 .obtain⟨cs,p,z⟩:=g.told;refine⟨cs,⟨hT.trans p.1,p.2⟩,λm A=>?_⟩;rcases z m (K▸A)with ⟨k,J,k2,k3,k4⟩|x
  .obtain⟨a,b⟩:=(F k m J k2).2 ⟨k3,k4⟩;exact .inl ⟨k,l.symm▸J,k2,a,b⟩
  exact .inr x
 .obtain⟨a,b⟩:=(F k m (l▸o) f).1 ⟨v,y⟩;rw[K];exact g.job k m (l▸o) f a b
 .obtain⟨a,b⟩:=(F k m (l▸o) f).1 ⟨v,y⟩;obtain⟨c,d⟩:=(F X m (l▸Y) Z).1 ⟨hl',hp'⟩;exact g.uniq k X m (l▸o) f a b (l▸Y) Z c d
 .obtain⟨s,r,p⟩:=g.chan;exact⟨s,r,by rw[D];exact hC.trans p⟩
 .obtain⟨a,b⟩:=R (D▸hc) k (l▸o) f;rw[b];exact⟨a,(g.opn (D▸hc) k (l▸o) f).2⟩
 .have N:=D▸z;have:=R N k (l▸o) f;exact g.excl (hp0 p N) N k (l▸o) f (S k (l▸o) f this.1 x).2
 .rw[D];obtain⟨a,b⟩:=S k (l▸o) f v y;exact g.rcv k (l▸o) f a b
 .obtain⟨O,p⟩|⟨B,p,_,x⟩:=vn M
  .obtain L|⟨⟨k,J,k2⟩,z,m,x,h4,h5⟩:=g.tt j a p A I
   .exact .inl (V L)
   exact .inr ⟨⟨k,by rw[g?_old O];exact J,l.symm▸k2⟩,z,m,x,K.symm▸h4,λk o f v y=>by
        obtain⟨a,b⟩:=(F k m (l▸o) f).1 ⟨v,y⟩;exact h5 k (l▸o) f a b⟩
  exact absurd I (U B p a x A).1
 obtain⟨O,p⟩|⟨B,p,z,x⟩:=vn M
 .rw[g?_old O];exact(g.tw j a p A I).imp V id
 have:=(U B p a x A).2 I;refine .inr ?_;simpa only[Trace.g?,z,Option.map_some,Option.some.injEq]using this
def jf0 (a:H.first=h.first) (b:∀k,k<n->h.first<=k->((H.gone k).isNone&&(H.y k).ph.alive)=((h.gone k).isNone&&(h.y k).ph.alive)):H.live n=h.live n:=by
 unfold Gh.live;refine ji2 λk c=>?_;rw[a];by_cases e:h.first<=k
 .simp only[decide_eq_true e,Bool.true_and];exact b k c e
 simp[e]
def WgS.congr (s:WgS E h n w G) (g:H.first=h.first) (C:(H.y 0).ph=(h.y 0).ph) (l:∀k,k<n->h.first<=k->H.gone k=h.gone k/\(H.y k).ph=(h.y k).ph) (D:h.pk 0=0->H.pk 0=0) (F:w'.heap[G.Wg]?=w.heap[G.Wg]?):WgS E H n w' G:=by
 have e:H.live n=h.live n:=jf0 g λk o p=>by rw[(l k o p).1,(l k o p).2]
 have m:zb h n->zb H n:=λa k p o e G i=>by
  have:=l k o (g▸p);rw[this.2];exact a k (g▸p) o (this.1▸e) G i
 have f:∀z A,WgQ E G.Wg w z A->WgQ E G.Wg w' z A:=λ_ _ a=>F.trans a;unfold WgS at s ⊢;rw[C];split at s
 .obtain⟨v,q,r,x⟩|⟨q,k,j,y,R,I,J,K,L,M,N⟩|⟨q,r,x,O⟩:=s
  .exact .inl ⟨v,e.trans q,f _ _ r,m x⟩
  .refine .inr (.inl ⟨e.trans q,k,j,g.symm▸y,R,(l k R y).1.trans I,(l k R y).2.trans J,λa=>f _ _ (K a),λa=>f _ _ (L a),M,λB T Q a b c d=>?_⟩);have:=l B b (g▸a);exact N B T Q (g▸a) b (this.1▸c) (this.2▸d)
  exact .inr (.inr ⟨e.trans q,f _ _ r,m x,D O⟩)
 .exact⟨e.trans s.1,f _ _ s.2.1,m s.2.2⟩
 .exact⟨e.trans s.1,f _ _ s.2.1,m s.2.2⟩
 .exact⟨e.trans s.1,f _ _ s.2.1,m s.2.2⟩
 rw[e];exact⟨f _ _ s.1,m s.2⟩
def z4 (a:h.gone i=none) (k:Nat):(h.turn i γ' g' r' none pf).gone k=h.gone k:=by
 show j8 h.gone i none k=h.gone k;by_cases e:k=i
 .rw[e,ya,a]
 rw[jl _ _ e]
def js8 (a:γ'.ph=(h.y i).ph) (k:Nat):((h.turn i γ' g' r' go' pf).y k).ph=(h.y k).ph:=by
 show (j8 h.y i γ' k).ph=(h.y k).ph;by_cases e:k=i
 .rw[e,ya,a]
 rw[jl _ _ e]
def jou {b c:Nat->Prop} (a:∀e∈es,EvG b c e) (d:Nat):deafBehind d es=d:=by
 obtain⟨l⟩:=es;unfold deafBehind;simp only[List.foldl_toArray'];have a:∀e∈l,EvG b c e:=λe h=>a e oM
 induction l generalizing d with
 |nil=>rfl
 |cons e l ih=>
  rw[List.foldl_cons];have f:=a e oi;refine(congrArg (λz=>List.foldl _ z l) (?_:_=d)).trans (ih d (λe h=>a e (by simp at h;simp[h])) λe h=>a e (by simp[h]));obtain⟨g,wr,j⟩:=e;unfold EvG at f;cases g with
  |mark m=>cases m<;>first|rfl|exact f.elim
  |_=>rfl
def jfy (a:∀k,k<n->Deaf t k=match h.gone k with|none=>(h.y k).ph.deafs|some (_,d)=>d) (l:i<n) (b:∀c∈u,c.g=i) (f:Deaf (t++u) i=match go' with|none=>γ'.ph.deafs|some (_,d)=>d):
 ∀k,k<n->Deaf (t++u) k=match (h.turn i γ' g' r' go' pf).gone k with|none=>((h.turn i γ' g' r' go' pf).y k).ph.deafs|some (_,d)=>d:=λk j=>by
 by_cases e:k=i
 .subst e;show _=match j8 h.gone k go' k with|none=>(j8 h.y k γ' k).ph.deafs|some (_,d)=>d
  rw[ya,ya];exact f
 show _=match j8 h.gone i go' k with|none=>(j8 h.y i γ' k).ph.deafs|some (_,d)=>d
 rw[jl _ _ e,jl _ _ e,Deaf_other t (λq=>e q.symm) u b];exact a k j
def z5 {a:Addr} {k r:Nat} (h:Go.ConcN.RelBy a t k r) (f:∀b∈u,b.g≠k\/b.act.touch?=none):Go.ConcN.RelBy a (t++u) k r:=by
 refine h.app λj p c l=>?_;obtain⟨x,m,_⟩:=l;obtain⟨b,d,e⟩:=touch_of m;obtain⟨s,_⟩|⟨_,o⟩:=getElem?_append_cases d
 .omega
 simp only[Trace.g?,d,Option.map_some,Option.some.injEq]at c;obtain q|q:=f b o
 .exact q c
 rw[q]at e;cases e
def MR.ord (m:MR E h n w t) (x:i<n) (f:h.gone i=none) (W:i=0\/h.first<=i) (y:jlp h n i pf) (hpi:h.pk i≠1) (fn:Fi) (pos:String) (X:(h.y i).ph.said=true->es=#[]) (j:vc (h.y i) w w' es γ') (N:h.gone 0=none) (O:0<n):MR E (h.turn i γ' g' r' none pf) n w' (t++MemOp.ofEvents i fn pos es):=by
 have I:none=(none:Option (Nat×Nat))->∀b,γ'.own b->(h.y i).own b\/(w.heap.size<=b/\b<w'.heap.size):=λ_ b=>j.fresh b
 have J:none=(none:Option (Nat×Nat))->∀b,γ'.rd b->(h.y i).rd b:=λ_ b c=>by rw[<-j.rd];exact c
 have A:=m.apart.turn (g':=g') (r':=r') (pf:=pf) j.size x f I J;have ph:∀k,((h.turn i γ' g' r' none pf).y k).ph=(h.y k).ph:=js8 j.ph;have l:∀k,(h.turn i γ' g' r' none pf).gone k=h.gone k:=z4 f;have K:∀v∈MemOp.ofEvents i fn pos es,v.g=i:=λv p=>(j9 p).1
 have evs:∀e∈es,EvG ((h.turn i γ' g' r' none pf).own n i) ((h.turn i γ' g' r' none pf).rd n i) e:=λe Y=>by
  have:=j.evs e Y;have Q:∀b,γ'.own b->(h.turn i γ' g' r' none pf).own n i b:=λb c=>⟨x,by rw[l];exact f,by show (j8 h.y i γ' i).own b;rw[ya];exact c⟩;have Z:∀b,(h.y i).rd b->(h.turn i γ' g' r' none pf).rd n i b:=λb c=>⟨x,by rw[l];exact f,by show (j8 h.y i γ' i).rd b;rw[ya,j.rd];exact c⟩;unfold EvG at this ⊢;cases hloc:e.loc with
  |cell a=>simp only[hloc]at this ⊢;exact this.imp (Q _) (And.imp_left (Z _))
  |obj s=>simp only[hloc]at this ⊢;exact⟨Q _ this.1,this.2⟩
  |output=>trivial
  |goroutines=>simp only[hloc]at this
  |mark mm=>simpa only[hloc]using this
 have T:=(m.ti.turnG (g':=g') (r':=r') (pf:=pf) j.size f I J).ord A x fn pos evs;refine⟨A,by rw[ph];exact m.fits,λR=>?_,λG S=>?_,T,jfy m.deaf x K ?_,jfd m.hand λv p=>?_⟩
 .rw[ph]at R;obtain⟨a,b⟩:=m.idle R;exact⟨a,λk h0 d=>by rw[l];exact b k h0 d⟩
 .rw[ph]at S;have g:=m.grp G S;have L:∀b,(b=G.T\/b=G.C\/b=G.Wg)->b<w.heap.size->w'.heap[b]?=w.heap[b]?:=λb c hlt=>j.out b hlt λhx=>(g.free b c i).1 ⟨x,f,hx⟩;obtain⟨cs,hT,_⟩:=g.told;obtain⟨s,r,hC⟩:=g.chan;obtain⟨st,sm,hW⟩:=g.wgl;have lT:=(mw.1 hT.1).1;have lC:=(mw.1 hC).1;have lW:=(mw.1 hW).1
  have D:∀b,(b=G.T\/b=G.C\/b=G.Wg)->∀k,¬(h.turn i γ' g' r' none pf).own n k b/\¬(h.turn i γ' g' r' none pf).rd n k b:=λb c k=>by
   refine⟨λq=>?_,λq=>(g.free b c k).2 (jmh f J k b q)⟩;obtain a|a:=jm7 f I k b q
   .exact(g.free b c k).1 a
   obtain rfl|rfl|rfl:=c<;>omega
  refine g.core rfl (by rw[ph]) (by rw[ph]) (by rw[ph]) (λk d=>by rw[l];exact d) (λk B d F=>by rw[ph];exact g.kid k B d (l k▸F)) (λk mm _ _=>by rw[ph,l]) (λhc k B d=>⟨by rw[l];exact(g.opn hc k B d).1,ph k⟩) D (L _ (.inl rfl) lT) (L _ (.inr (.inl rfl)) lC)
   (g.wg.congr rfl (ph 0) (λk _ _=>⟨l k,ph k⟩) (λo=>?_) (L _ (.inr (.inr rfl)) lW)) (λo hcl=>?_) (λk B d F o=>?_) (λv p a U hm=>?_) (λk B d M=>?_)
  .show pf 0=0;by_cases e:(0:Nat)=i
   .have:=y.1;rw[<-e]at this;exact this
   obtain a|⟨a,b,_⟩:=y.2 0 e O N
   .rw[a];exact o
   exact b rfl
  .have o:pf 0=1:=o;by_cases e:(0:Nat)=i
   .have:=y.1;rw[<-e]at this;omega
   obtain a|⟨a,b,_⟩:=y.2 0 e O N
   .rw[<-a];exact o
   exact a
  .have o:pf k=1:=o;rw[l]at F;refine⟨F,?_⟩;by_cases e:k=i
   .rw[e,y.1]at o;omega
   obtain a|⟨a,b,_⟩:=y.2 k e d F
   .rw[<-a];exact o
   exact a
  .obtain⟨_,e,h1,h2⟩:=j9 p;rw[h2]at U;rcases(jm8 (evs e h1) U hm).2.2 with q|⟨q,_⟩
   .exact⟨λz=>(D _ (.inl z) i).1 q,λz=>absurd q (D _ (.inr z.symm) i).1⟩
   exact⟨λz=>(D _ (.inl z) i).2 q,λz=>absurd q (D _ (.inr z.symm) i).2⟩
  rw[l,ph]at M;obtain⟨r,V⟩:=g.rel k B d M;by_cases e:k=i
  .subst e;have hes:es=#[]:=X (M.resolve_left λq=>by rw[f]at q;cases q);subst hes;exact⟨r,z5 V λv p=>by simp[MemOp.ofEvents]at p⟩
  exact⟨r,z5 V λv p=>.inl (by rw[K v p];exact λq=>e q.symm)⟩
 .rw[Deaf_own,jou j.evs,m.deaf i x,f];show _=γ'.ph.deafs;rw[j.ph]
 rw[K v p];obtain e|e:=W
 .exact .inr (.inl e)
 exact .inl e
end
section
variable {E:Env} {h H:Gh} {γ':Gam} {r':Rk} {G:Grp}
def EvQ (B:Nat) (main:Bool) (e:Event):Prop:=match e.loc with
 |.cell a=>a.block=B/\e.sync=true
 |.mark (.read a)|.mark (.write a)=>a.block=B/\main=true
 |.mark (.release _)=>False
 |.mark _=>True
 |_=>False
def jqk {main:Bool} (b:EvQ B main e) {a:Touch} (c:(MemAct.ofEvent e).touch?=some a):blk a.loc=B/\a.loc.isMemory=true/\(a.kind=.atomic\/(a.kind=.said/\main=true)):=by
 obtain⟨d,wr,j⟩:=e;unfold EvQ at b;cases d with
 |cell x=>
  simp only at b;obtain⟨f,g⟩:=b;subst g;simp only[MemAct.ofEvent,MemAct.touch?,Option.some.injEq]at c;subst c;exact⟨f,rfl,.inl rfl⟩
 |mark m=>
  cases m with
  |read x=>
   simp only at b;simp only[MemAct.ofEvent,MemAct.touch?,Option.some.injEq]at c;subst c;exact⟨b.1,rfl,.inr ⟨rfl,b.2⟩⟩
  |write x=>
   simp only at b;simp only[MemAct.ofEvent,MemAct.touch?,Option.some.injEq]at c;subst c;exact⟨b.1,rfl,.inr ⟨rfl,b.2⟩⟩
  |_=>simp[MemAct.ofEvent,MemAct.touch?]at c
 |_=>exact b.elim
def jq1 {main:Bool} (b:EvQ B main e) (a:Addr):MemAct.ofEvent e≠.mark (.release a):=λq=>by
 obtain⟨c,wr,d⟩:=e;unfold EvQ at b;cases c with
 |mark m=>simp only[MemAct.ofEvent,MemAct.mark.injEq]at q;subst q;exact b.elim
 |cell=>cases q
 |_=>exact b.elim
def MR.side (m:MR E h n w t) (v:i<n) (r:h.gone i=none) (O:i=0\/h.first<=i) (Y:(h.y 0).ph.grp=some G) (fn:Fi) (pos:String) (Q:∀e∈es,EvQ G.Wg (i==0) e) (z:w'.heap.size=w.heap.size) {ph':Ph}
 (Z:deafBehind (h.y i).ph.deafs es=match go' with|none=>ph'.deafs|some (_,d)=>d) (aa:((h.turn i ((h.y i).to ph') g' r' go' pf).y 0).ph.fits) (D:((h.turn i ((h.y i).to ph') g' r' go' pf).y 0).ph.grp=some G)
 (ab:(∀b,(b=G.T\/b=G.C\/b=G.Wg)->∀k,¬(h.turn i ((h.y i).to ph') g' r' go' pf).own n k b/\¬(h.turn i ((h.y i).to ph') g' r' go' pf).rd n k b)->(∀c∈MemOp.ofEvents i fn pos es,∀a,c.act.touch?=some a->a.loc.isMemory=true->blk a.loc≠G.T/\((blk a.loc=G.Wg\/blk a.loc=G.C)->a.kind=.atomic\/(a.kind=.said/\c.g=0)))->GO E (h.turn i ((h.y i).to ph') g' r' go' pf) n w' (t++MemOp.ofEvents i fn pos es) G):MR E (h.turn i ((h.y i).to ph') g' r' go' pf) n w' (t++MemOp.ofEvents i fn pos es):=by
 have g:=m.grp G Y;have R:go'=none->∀b,((h.y i).to ph').own b->(h.y i).own b\/(w.heap.size<=b/\b<w'.heap.size):=λ_ b l=>.inl l;have F:go'=none->∀b,((h.y i).to ph').rd b->(h.y i).rd b:=λ_ b l=>l;have A:=m.apart.turn (g':=g') (r':=r') (pf:=pf) (nk z.symm) v r R F;have x:∀c∈MemOp.ofEvents i fn pos es,c.g=i:=λc f=>(j9 f).1
 have I:∀b,(b=G.T\/b=G.C\/b=G.Wg)->∀k,¬(h.turn i ((h.y i).to ph') g' r' go' pf).own n k b/\¬(h.turn i ((h.y i).to ph') g' r' go' pf).rd n k b:=λb l k=>by
  refine⟨λq=>?_,λq=>(g.free b l k).2 (jmh r F k b q)⟩;obtain⟨S,y,p⟩:=q;by_cases e:k=i
  .subst e;have p:(j8 h.y k ((h.y k).to ph') k).own b:=p;rw[ya]at p;exact(g.free b l k).1 ⟨S,r,p⟩
  have y:j8 h.gone i go' k=none:=y;have p:(j8 h.y i ((h.y i).to ph') k).own b:=p;rw[jl _ _ e]at y p;exact(g.free b l k).1 ⟨S,y,p⟩
 have J:∀c∈MemOp.ofEvents i fn pos es,∀a,c.act.touch?=some a->blk a.loc=G.Wg/\a.loc.isMemory=true/\(a.kind=.atomic\/(a.kind=.said/\i=0)):=λc f a o=>by
  obtain⟨_,e,K,L⟩:=j9 f;rw[L]at o;obtain⟨M,U,N⟩:=jqk (Q e K) o;exact⟨M,U,N.imp id λq=>⟨q.1,by simpa using q.2⟩⟩
 have lW:G.Wg<w'.heap.size:=by obtain⟨_,_,hW⟩:=g.wgl;rw[z];exact(mw.1 hW).1
 have T0:=m.ti.turnG (g':=g') (r':=r') (pf:=pf) (w':=w') (nk z.symm) r R F;have T:=T0.aside (u:=MemOp.ofEvents i fn pos es) v lW (λk=>(I _ (.inr (.inr rfl)) k).1) (λk=>(I _ (.inr (.inr rfl)) k).2) (λc f=>⟨x c f,λa=>by
  obtain⟨_,e,K,L⟩:=j9 f;rw[L];exact jq1 (Q e K) a,λa o _=>(J c f a o).1⟩) λsaid j a o c f b l hc=>by
  obtain⟨c1,c2,c3,s⟩:=hc;obtain⟨b1,b2,b3⟩:=J c f b l;have ka:=g.tw j a o c2 (.inl (by rw[c1];exact b1));obtain ka|ka|⟨ka,V⟩:=ka
  .exact ka i (O.imp id λq=>⟨q,v,r⟩)
  all_goals obtain kb|⟨kb,ki⟩:=b3
  .rw[ka,kb]at s;simp at s
  .rw[ka,kb]at s;simp at s
  .rw[ka,kb]at s;simp at s
  obtain⟨op',W,e2⟩:=touch_of o;have:=knows_own W;simp only[Trace.g?,W,Option.map_some,Option.some.injEq]at V;rw[V]at this;rw[ki];exact this
 refine⟨A,aa,λhi=>(by rw[hi]at D;cases D),λG' X=>?_,T,jfy m.deaf v x ?_,jfd m.hand λc f=>?_⟩
 .rw[D]at X;cases X;exact ab I λc f a o hm=>by
   obtain⟨M,U,N⟩:=J c f a o;exact⟨λq=>g.ne.2.1 (q.symm.trans M),λ_=>N.imp id λq=>⟨q.1,by rw[x c f];exact q.2⟩⟩
 .rw[Deaf_own,m.deaf i v,r];exact Z
 rw[x c f];obtain e|e:=O
 .exact .inr (.inl e)
 exact .inl e
def GO.mainPh (g:GO E h n w t G) (x:h.gone 0=none) {ph':Ph} (es:ph'.spawned=(h.y 0).ph.spawned) (y:ph'.sent=(h.y 0).ph.sent) (z:ph'.closed=(h.y 0).ph.closed) (q:jlp h n 0 pf) (c:Chg (·=G.Wg) w w')
 (A:WgS E (h.turn 0 ((h.y 0).to ph') g' r' none pf) n w' G) (D:∀l∈u,l.g=0) (F:∀b,(b=G.T\/b=G.C\/b=G.Wg)->∀k,¬(h.turn 0 ((h.y 0).to ph') g' r' none pf).own n k b/\¬(h.turn 0 ((h.y 0).to ph') g' r' none pf).rd n k b)
 (I:∀l∈u,∀a,l.act.touch?=some a->a.loc.isMemory=true->blk a.loc≠G.T/\((blk a.loc=G.Wg\/blk a.loc=G.C)->a.kind=.atomic\/(a.kind=.said/\l.g=0))):GO E (h.turn 0 ((h.y 0).to ph') g' r' none pf) n w' (t++u) G:=by
 have m:∀k,(h.turn 0 ((h.y 0).to ph') g' r' none pf).gone k=h.gone k:=z4 x;have p:((h.turn 0 ((h.y 0).to ph') g' r' none pf).y 0).ph=ph':=by show (j8 h.y 0 _ 0).ph=ph';rw[ya];rfl
 have gk:∀k,h.first<=k->((h.turn 0 ((h.y 0).to ph') g' r' none pf).y k)=h.y k:=λk f=>jl _ _ (by have:=g.f1;omega);obtain⟨cs,J,_⟩:=g.told;obtain⟨s,r,K⟩:=g.chan
 refine g.core rfl (by rw[p];exact es) (by rw[p];exact y) (by rw[p];exact z) (λk f=>by rw[m];exact f) (λk d f o=>by rw[gk k d];exact g.kid k d f (m k▸o)) (λk O d _=>by rw[gk k d,m]) (λL k d f=>⟨by rw[m];exact(g.opn L k d f).1,by rw[gk k d]⟩) F
  (c.out _ (mw.1 J.1).1 g.ne.2.1) (c.out _ (mw.1 K).1 g.ne.2.2) A (λj _=>by have j:pf 0=1:=j;rw[q.1]at j;omega) (λk d f o j=>?_) I λk d f v=>?_
 .have j:pf k=1:=j;rw[m]at o;refine⟨o,?_⟩;obtain a|⟨a,_⟩:=q.2 k (by have:=g.f1;omega) f o
  .rw[<-a];exact j
  exact a
 rw[m,gk k d]at v;obtain⟨r,M⟩:=g.rel k d f v;exact⟨r,z5 M λl N=>.inl (by rw[D l N];have:=g.f1;omega)⟩
def jqn (fn:Fi) (pos:String) (r:∀k (d:k<es.size),(MemAct.ofEvent es[k]).touch?=none\/(es[k].sync=true/\(∃a,es[k].loc=.cell a)/\0<deafBehind (Deaf t i) (es.extract 0 k))):
 ∀j,t.size<=j->(t++MemOp.ofEvents i fn pos es).g? j=some i->¬(t++MemOp.ofEvents i fn pos es).counts j:=λj s v y=>by
 obtain⟨x,z,J,d⟩:=y;have A:(MemOp.ofEvents i fn pos es).size=es.size:=by rw[ofEvents_eq];simp
 obtain⟨C,f,b⟩:=touch_of z;have o:j-t.size<es.size:=by
  have:=(mw.1 f).1;simp[A]at this;omega
 have D:C={g:=i,fn,pos,act:=.ofEvent es[j-t.size]}:=by
  rw[Array.getElem?_append_right s,ofEvents_eq,Array.getElem?_map,my o]at f;simpa using f.symm
 subst D;obtain c|⟨c,⟨a,l⟩,K⟩:=r (j-t.size) o
 .simp only at b;rw[c]at b;cases b
 have F:x.kind=.atomic:=by
  generalize es[j-t.size]=e at b c l;obtain⟨L,wr,M⟩:=e;simp only at c l;subst c l;simp only[MemAct.ofEvent,MemAct.touch?,Option.some.injEq]at b;rw[<-b];rfl
 obtain d|⟨g,p,m⟩:=d
 .exact d F
 rw[v]at p;cases p;have I:t++MemOp.ofEvents i fn pos es=(t++MemOp.ofEvents i fn pos (es.extract 0 (j-t.size)))++MemOp.ofEvents i fn pos (es.extract (j-t.size) es.size):=by
  rw[ofEvents_eq,ofEvents_eq,ofEvents_eq,Array.append_assoc,<-Array.map_append]
  have:es.extract 0 (j-t.size)++es.extract (j-t.size) es.size=es:=by
   rw[Array.extract_append_extract];simp;omega
  rw[this]
 rw[I]at m;have q:(t++MemOp.ofEvents i fn pos (es.extract 0 (j-t.size))).size=j:=by rw[ofEvents_eq];simp;omega
 rw[deaf_old (by rw[q];exact mC _)]at m
 have:Deaf (t++MemOp.ofEvents i fn pos (es.extract 0 (j-t.size))) i=0:=by unfold Deaf;rw[q];exact m
 rw[Deaf_own]at this;omega
end
section
variable {E:Env} {h H:Gh} {r':Rk} {G:Grp}
def yv (P:Pq) (E:Env) (Post:Vl->Wv) (h:Gh) (gs:Array Gn) (w:Wl) (t:Trace) (sl:Option (Nat×Nat)) (i:Nat):Prop:=
 ∃ops h' gs' w',runT P (crowd gs w sl) i=(.next (crowd gs' w' sl),ops)/\MI P E Post h' gs' w' (t++ops)/\jot (h'.mu gs') (h.mu gs)
def jnd (q:Nat->Bool) (f:Nat):∀n,jg7 (λk=>decide (f<=k)&&q k) n<=n-f
 |0=>by simp[jg7]
 |n+1=>by
  have:=jnd q f n;simp only[jg7];by_cases e:f<=n
  .split<;>omega
  simp[e];omega
def GO.live_le (g:GO E h n w t G):h.live n<=(h.y 0).ph.spawned:=by
 unfold Gh.live;have:=jnd (λk=>(h.gone k).isNone&&(h.y k).ph.alive) h.first n;have e:(λk=>decide (h.first<=k)&&(h.gone k).isNone&&(h.y k).ph.alive)=λk=>decide (h.first<=k)&&((h.gone k).isNone&&(h.y k).ph.alive):=by funext k;rw[Bool.and_assoc]
 rw[e];have:=g.size;omega
def GO.live_W (g:GO E h n w t G) (a:(h.y 0).ph.grp=some G) (b:(h.y 0).ph.fits):h.live n<=G.W:=by
 have:=g.live_le;refine Nat.le_trans this ?_;cases e:(h.y 0).ph<;>rw[e]at a b<;>simp[Ph.grp,Ph.fits]at a b<;>simp only[Ph.spawned]<;>(try omega)<;>(subst a;omega)
variable {γ':Gam}
def vb (g:GO E h n w t G) (e:h.gone 0=none):(h.turn 0 γ' g' r' none pf).live n=h.live n/\(zb h n->zb (h.turn 0 γ' g' r' none pf) n):=by
 have d:∀k,(h.turn 0 γ' g' r' none pf).gone k=h.gone k:=z4 e;have gk:∀k,h.first<=k->((h.turn 0 γ' g' r' none pf).y k)=h.y k:=λk c=>jl _ _ (by have:=g.f1;omega);refine⟨jf0 rfl λk c b=>by rw[d,gk k b],λa k b c l G i=>?_⟩;rw[gk k b];exact a k b c (d k▸l) G i
variable {A C:Int}
def setSt {x:Int} (a:WgQ E B w A C):WgQ E B (w.setCell (stQ B) (.int .u64 x)) x C:=by
 unfold WgQ at*;simp[World.setCell,stQ,Array.getElem?_modify,a]
def setSm {x:Int} (a:WgQ E B w A C):WgQ E B (w.setCell (smQ B) (.int .u32 x)) A x:=by
 unfold WgQ at*;simp[World.setCell,smQ,Array.getElem?_modify,a]
def y5 (w:Wl) (a:Addr) (v:Vl):(w.setCell a v).heap.size=w.heap.size:=oF
def MI.mainQ (m:MI P E Post h gs w t) (I:gs[0]?=some x) (J:x.status=.running) (o:(h.y 0).ph.grp=some G) {es:Array Event} (A:stepG P true (h.g 0) w=.go g' w' es) (K:∀e∈es,EvQ G.Wg true e) (c:Chg (·=G.Wg) w w') (L:w'.heap.size=w.heap.size) (M:WgL E G.Wg w') {ph':Ph} (N:ph'.grp=some G) (O:ph'.fits)
 (Q:ph'.spawned=(h.y 0).ph.spawned) (R:ph'.sent=(h.y 0).ph.sent) (S:ph'.closed=(h.y 0).ph.closed) (T:deafBehind (h.y 0).ph.deafs es=ph'.deafs) (U:Tr P E Post true r' ((h.y 0).to ph') g' w') (v:Rk.Lt r' (h.r 0)) (V:∀pf,jlp h gs.size 0 pf->WgS E (h.turn 0 ((h.y 0).to ph') g' r' none pf) gs.size w' G):yv P E Post h gs w t sl 0:=by
 have g:=m.grp G o;obtain⟨s,r,p⟩:=g.chan;have W:=(mw.1 p).1;obtain⟨_,X,Y,gs',a,_,b,d⟩:=m.stepGo (sl:=sl) (hdn:=λe=>absurd rfl e) I m.m0 J A c (λk _ y z b Z=>by subst Z;exact⟨λq=>(g.free _ (.inr (.inr rfl)) k).1 ⟨y,z,q⟩,λq=>(g.free _ (.inr (.inr rfl)) k).2 ⟨y,z,q⟩⟩)
  (λG1 l _=>by rw[o]at l;cases l;exact M) (λG1 l aa=>by rw[o]at l;cases l;rw[aa]at p;exact⟨_,_,_,_,_,_,(c.out _ W g.ne.2.2).trans p,λ_=>rfl⟩) (γ':=(h.y 0).to ph') (r':=r') (go':=none) h.first (λ_=>U) (λ_=>v) (λ_ _ e=>oJ) (by obtain⟨f,e,_⟩:=v;exact⟨f,e⟩)
  λpf D _ _=>by
   show MR E (h.turn 0 ((h.y 0).to ph') g' r' none pf) gs.size w' _;have F:((h.turn 0 ((h.y 0).to ph') g' r' none pf).y 0).ph=ph':=by show (j8 h.y 0 _ 0).ph=ph';rw[ya];rfl
   exact m.mr.side (i:=0) m.n0 m.m0 (.inl rfl) o _ _ K L (go':=none) T (by rw[F];exact O) (by rw[F];exact N) λab hu=>g.mainPh m.m0 Q R S D c (V pf D) (λop hop=>(j9 hop).1) ab hu
 exact⟨X,Y,gs',w',a,b,d⟩
def yy {a:Ph}:((h.turn 0 ((h.y 0).to a) g' r' none pf).y 0).ph=a:=by show (j8 h.y 0 _ 0).ph=a;rw[ya];rfl
def Ph.plain:Ph->Bool
 |.sema _|.sem4 _|.over _|.heard _=>false
 |_=>true
variable {Hh:Gh}
def WgS.of_plain (a:(Hh.y 0).ph.plain=true) (b:WgQ E G.Wg w' ((Hh.live n+(Hh.y 0).ph.more:Nat)*KQ) 0) (c:zb Hh n):WgS E Hh n w' G:=by
 unfold WgS;cases e:(Hh.y 0).ph<;>rw[e]at a b<;>first|exact⟨b,c⟩|cases a
def WgS.plain (s:WgS E Hh n w' G) (a:(Hh.y 0).ph.plain=true):WgQ E G.Wg w' ((Hh.live n+(Hh.y 0).ph.more:Nat)*KQ) 0/\zb Hh n:=by
 unfold WgS at s;cases e:(Hh.y 0).ph<;>rw[e]at a s<;>first|exact s|cases a
variable {G':Grp}
def WgS.last (s:WgS E Hh n w' G) (a:(Hh.y 0).ph=.sem4 G'\/(Hh.y 0).ph=.over G'\/(Hh.y 0).ph=.heard G'):Hh.live n=0/\WgQ E G.Wg w' 0 0/\zb Hh n:=by
 unfold WgS at s;obtain e|e|e:=a<;>rw[e]at s<;>exact s
def WgS.of_last (a:(Hh.y 0).ph=.sem4 G'\/(Hh.y 0).ph=.over G'\/(Hh.y 0).ph=.heard G') (s:Hh.live n=0/\WgQ E G.Wg w' 0 0/\zb Hh n):WgS E Hh n w' G:=by
 unfold WgS;obtain e|e|e:=a<;>rw[e]<;>exact s
def jgm {d:Bool} {m:Mark} (c:m=.disable\/m=.enable\/(∃a,m=.acquire a)\/∃a,m=.releaseMerge a):∀e∈#[evM m],EvQ B d e:=λe b=>by
 simp at b;subst b;obtain rfl|rfl|⟨a,rfl⟩|⟨a,rfl⟩:=c<;>trivial
def jft {b:Bool}:(∀e∈#[evR (stQ B),evW (stQ B)],EvQ B b e)/\(∀e∈#[evR (stQ B)],EvQ B b e)/\(∀e∈#[evW (stQ B)],EvQ B b e)/\∀e∈semEvents (smQ B),EvQ B b e:=by
 refine⟨λe a=>?_,λe a=>?_,λe a=>?_,λe a=>?_⟩
 .simp at a;obtain rfl|rfl:=a<;>exact⟨rfl,rfl⟩
 .simp at a;subst a;exact⟨rfl,rfl⟩
 .simp at a;subst a;exact⟨rfl,rfl⟩
 simp[semEvents]at a;obtain rfl|rfl|rfl|rfl:=a<;>first|trivial|exact⟨rfl,rfl⟩
def zp {f:Gam->Gn->Wl->Rk} {a:Gn} {b:Wl} (c:h.r i=.s f):Rk.Lt (f γ' a b) (h.r i):=⟨f,c,.inr ⟨_,_,_,rfl⟩⟩
section
variable {f:Gam->Gn->Wl->Rk}
def MI.disA (m:MI P E Post h gs w t) (e:gs[0]?=some x) (l:x.status=.running) (o:h.r 0=.s f) (c:(h.y 0).ph=.open_ G j 0) (p:j<G.W) (A:stepG P true (h.g 0) w=.go g' w #[evM .disable]) (k:Tr P E Post true (f ((h.y 0).to (.adds G j)) g' w) ((h.y 0).to (.adds G j)) g' w):yv P E Post h gs w t sl 0:=by
 have d:(h.y 0).ph.grp=some G:=o6;have g:=m.grp G d;refine m.mainQ e l d A (jgm (.inl rfl)) (Chg.same _ _) rfl g.wgl (ph':=.adds G j) rfl p o6 o6 o6 o6 k (zp o) λpf _=>?_;obtain⟨a,b⟩:=g.wg.plain o6;obtain⟨q,v⟩:=vb (g':=g') (r':=f ((h.y 0).to (.adds G j)) g' w) (pf:=pf) (γ':=(h.y 0).to (.adds G j)) g m.m0;exact WgS.of_plain (by rw[yy];rfl) (by rw[q,yy];rw[c]at a;exact a) (v b)
def MI.addA (m:MI P E Post h gs w t) (o:gs[0]?=some x) (p:x.status=.running) (q:h.r 0=.s f) (c:(h.y 0).ph=.adds G j) (k:∀v:Nat,v<=j->WgQ E G.Wg w (v*KQ) 0->∃g',stepG P true (h.g 0) w=.go g' (w.setCell (stQ G.Wg) (.int .u64 ((v+1)*KQ))) #[evR (stQ G.Wg),evW (stQ G.Wg)]/\g'.status=.running/\Tr P E Post true (f ((h.y 0).to (.added G j)) g' (w.setCell (stQ G.Wg) (.int .u64 ((v+1)*KQ)))) ((h.y 0).to (.added G j)) g' (w.setCell (stQ G.Wg) (.int .u64 ((v+1)*KQ)))):yv P E Post h gs w t sl 0:=by
 have d:(h.y 0).ph.grp=some G:=o6;have g:=m.grp G d;obtain⟨a,b⟩:=g.wg.plain o6;have e:=g.live_le;rw[c]at a e;obtain⟨g',A,_,y⟩:=k (h.live gs.size) e a;have l:=setSt (x:=(((h.live gs.size:Nat):Int)+1)*KQ) a;refine m.mainQ o p d A jft.1 (Chg.cell rfl) (y5 _ _ _) ⟨_,_,l⟩ (ph':=.added G j) rfl (by have:=m.fits;rw[c]at this;exact this) o6 o6 o6 o6 y (zp q) λpf _=>?_;obtain⟨z,D⟩:=vb (g':=g') (r':=f ((h.y 0).to (.added G j)) g' (w.setCell (stQ G.Wg) (.int .u64 ((((h.live gs.size:Nat):Int)+1)*KQ)))) (pf:=pf) (γ':=(h.y 0).to (.added G j)) g m.m0;exact WgS.of_plain (by rw[yy];rfl) (by rw[z,yy];exact l) (D b)
def MI.enA (m:MI P E Post h gs w t) (e:gs[0]?=some x) (l:x.status=.running) (o:h.r 0=.s f) (c:(h.y 0).ph=.added G j) (A:stepG P true (h.g 0) w=.go g' w #[evM .enable]) (k:Tr P E Post true (f ((h.y 0).to (.ready G j)) g' w) ((h.y 0).to (.ready G j)) g' w):yv P E Post h gs w t sl 0:=by
 have d:(h.y 0).ph.grp=some G:=o6;have g:=m.grp G d;refine m.mainQ e l d A (jgm (.inr (.inl rfl))) (Chg.same _ _) rfl g.wgl (ph':=.ready G j) rfl (by have:=m.fits;rw[c]at this;exact this) o6 o6 o6 o6 k (zp o) λpf _=>?_;obtain⟨a,b⟩:=g.wg.plain o6;obtain⟨p,q⟩:=vb (g':=g') (r':=f ((h.y 0).to (.ready G j)) g' w) (pf:=pf) (γ':=(h.y 0).to (.ready G j)) g m.m0;exact WgS.of_plain (by rw[yy];rfl) (by rw[p,yy];rw[c]at a;exact a) (q b)
def MI.disW (m:MI P E Post h gs w t) (e:gs[0]?=some x) (l:x.status=.running) (o:h.r 0=.s f) (c:(h.y 0).ph=.shut G) (A:stepG P true (h.g 0) w=.go g' w #[evM .disable]) (k:Tr P E Post true (f ((h.y 0).to (.waits G)) g' w) ((h.y 0).to (.waits G)) g' w):yv P E Post h gs w t sl 0:=by
 have d:(h.y 0).ph.grp=some G:=o6;have g:=m.grp G d;refine m.mainQ e l d A (jgm (.inl rfl)) (Chg.same _ _) rfl g.wgl (ph':=.waits G) rfl trivial o6 o6 o6 o6 k (zp o) λpf _=>?_;obtain⟨a,b⟩:=g.wg.plain o6;obtain⟨p,q⟩:=vb (g':=g') (r':=f ((h.y 0).to (.waits G)) g' w) (pf:=pf) (γ':=(h.y 0).to (.waits G)) g m.m0;exact WgS.of_plain (by rw[yy];rfl) (by rw[p,yy];rw[c]at a;exact a) (q b)
def MI.loadW (m:MI P E Post h gs w t) (p:gs[0]?=some x) (q:x.status=.running) (y:h.r 0=.s f) (c:(h.y 0).ph=.waits G) (k:∀v:Nat,v<=G.W->WgQ E G.Wg w (v*KQ) 0->∃g',stepG P true (h.g 0) w=.go g' w #[evR (stQ G.Wg)]/\g'.status=.running/\(v=0->Tr P E Post true (f ((h.y 0).to (.over G)) g' w) ((h.y 0).to (.over G)) g' w)/\(v≠0->Tr P E Post true (f ((h.y 0).to (.seen G v)) g' w) ((h.y 0).to (.seen G v)) g' w)):yv P E Post h gs w t sl 0:=by
 have d:(h.y 0).ph.grp=some G:=o6;have g:=m.grp G d;obtain⟨a,b⟩:=g.wg.plain o6;rw[c]at a;obtain⟨g',A,_,z,D⟩:=k (h.live gs.size) (g.live_W d m.fits) a;by_cases e:h.live gs.size=0
 .refine m.mainQ p q d A jft.2.1 (Chg.same _ _) rfl g.wgl (ph':=.over G) rfl trivial o6 o6 o6 o6 (z e) (zp y) λpf _=>?_;obtain⟨l,o⟩:=vb (g':=g') (r':=f ((h.y 0).to (.over G)) g' w) (pf:=pf) (γ':=(h.y 0).to (.over G)) g m.m0;exact WgS.of_last (G':=G) (.inr (.inl yy)) ⟨l.trans e,by rw[e]at a;simpa[Ph.more]using a,o b⟩
 refine m.mainQ p q d A jft.2.1 (Chg.same _ _) rfl g.wgl (ph':=.seen G (h.live gs.size)) rfl (by show 0<_;omega) o6 o6 o6 o6 (D e) (zp y) λpf _=>?_;obtain⟨l,o⟩:=vb (g':=g') (r':=f ((h.y 0).to (.seen G (h.live gs.size))) g' w) (pf:=pf) (γ':=(h.y 0).to (.seen G (h.live gs.size))) g m.m0;exact WgS.of_plain (by rw[yy];rfl) (by rw[l,yy];exact a) (o b)
def MI.casW (m:MI P E Post h gs w t) (y:gs[0]?=some x) (z:x.status=.running) (D:h.r 0=.s f) {d:Nat} (c:(h.y 0).ph=.seen G d) (k:∀v:Nat,v<=G.W->WgQ E G.Wg w (v*KQ) 0->(v=d->∃g',stepG P true (h.g 0) w=.go g' (w.setCell (stQ G.Wg) (.int .u64 (v*KQ+1))) #[evR (stQ G.Wg),evW (stQ G.Wg)]/\g'.status=.running/\Tr P E Post true (f ((h.y 0).to (.sema G)) g' (w.setCell (stQ G.Wg) (.int .u64 (v*KQ+1)))) ((h.y 0).to (.sema G)) g' (w.setCell (stQ G.Wg) (.int .u64 (v*KQ+1))))/\(v≠d->∃g',stepG P true (h.g 0) w=.go g' w #[evR (stQ G.Wg)]/\g'.status=.running/\Tr P E Post true (f ((h.y 0).to (.waits G)) g' w) ((h.y 0).to (.waits G)) g' w)):yv P E Post h gs w t sl 0:=by
 have l:(h.y 0).ph.grp=some G:=o6;have g:=m.grp G l;obtain⟨a,b⟩:=g.wg.plain o6;rw[c]at a;have K:0<d:=by have:=m.fits;rw[c]at this;exact this
 obtain⟨J,L⟩:=k (h.live gs.size) (g.live_W l m.fits) a;by_cases e:h.live gs.size=d
 .obtain⟨g',A,_,o⟩:=J e;have F:=setSt (x:=((h.live gs.size:Nat):Int)*KQ+1) a;refine m.mainQ y z l A jft.1 (Chg.cell rfl) (y5 _ _ _) ⟨_,_,F⟩ (ph':=.sema G) rfl trivial o6 o6 o6 o6 o (zp D) λpf _=>?_;obtain⟨p,q⟩:=vb (g':=g') (r':=f ((h.y 0).to (.sema G)) g' (w.setCell (stQ G.Wg) (.int .u64 (((h.live gs.size:Nat):Int)*KQ+1)))) (pf:=pf) (γ':=(h.y 0).to (.sema G)) g m.m0;unfold WgS;rw[yy];obtain⟨v,I⟩:∃v,h.live gs.size=v+1:=⟨h.live gs.size-1,oe⟩;exact .inl ⟨v,p.trans I,by rw[<-I];exact F,q b⟩
 obtain⟨g',A,_,o⟩:=L e;refine m.mainQ y z l A jft.2.1 (Chg.same _ _) rfl g.wgl (ph':=.waits G) rfl trivial o6 o6 o6 o6 o (zp D) λpf _=>?_;obtain⟨p,q⟩:=vb (g':=g') (r':=f ((h.y 0).to (.waits G)) g' w) (pf:=pf) (γ':=(h.y 0).to (.waits G)) g m.m0;exact WgS.of_plain (by rw[yy];rfl) (by rw[p,yy];exact a) (q b)
def MI.load4 (m:MI P E Post h gs w t) (l:gs[0]?=some x) (o:x.status=.running) (p:h.r 0=.s f) (c:(h.y 0).ph=.sem4 G) (k:WgQ E G.Wg w 0 0->∃g',stepG P true (h.g 0) w=.go g' w #[evR (stQ G.Wg)]/\g'.status=.running/\Tr P E Post true (f ((h.y 0).to (.over G)) g' w) ((h.y 0).to (.over G)) g' w):yv P E Post h gs w t sl 0:=by
 have e:(h.y 0).ph.grp=some G:=o6;have g:=m.grp G e;obtain⟨a,b,d⟩:=g.wg.last (.inl c);obtain⟨g',A,_,q⟩:=k b;refine m.mainQ l o e A jft.2.1 (Chg.same _ _) rfl g.wgl (ph':=.over G) rfl trivial o6 o6 o6 o6 q (zp p) λpf _=>?_;obtain⟨v,y⟩:=vb (g':=g') (r':=f ((h.y 0).to (.over G)) g' w) (pf:=pf) (γ':=(h.y 0).to (.over G)) g m.m0;exact WgS.of_last (G':=G) (.inr (.inl yy)) ⟨v.trans a,b,y d⟩
def MI.enW (m:MI P E Post h gs w t) (l:gs[0]?=some x) (o:x.status=.running) (p:h.r 0=.s f) (c:(h.y 0).ph=.over G) (A:stepG P true (h.g 0) w=.go g' w #[evM .enable]) (k:Tr P E Post true (f ((h.y 0).to (.heard G)) g' w) ((h.y 0).to (.heard G)) g' w):yv P E Post h gs w t sl 0:=by
 have e:(h.y 0).ph.grp=some G:=o6;have g:=m.grp G e;obtain⟨a,b,d⟩:=g.wg.last (.inr (.inl c));refine m.mainQ l o e A (jgm (.inr (.inl rfl))) (Chg.same _ _) rfl g.wgl (ph':=.heard G) rfl trivial o6 o6 o6 o6 k (zp p) λpf _=>?_;obtain⟨q,v⟩:=vb (g':=g') (r':=f ((h.y 0).to (.heard G)) g' w) (pf:=pf) (γ':=(h.y 0).to (.heard G)) g m.m0;exact WgS.of_last (G':=G) (.inr (.inr yy)) ⟨q.trans a,b,v d⟩
def MI.said (m:MI P E Post h gs w t) (o:gs[0]?=some x) (p:x.status=.running) (q:h.r 0=.s f) (b:(h.y 0).ph.grp=some G) {c:Mark} {a:Addr} (d:c=.read a\/c=.write a) (v:a.block=G.Wg) (A:stepG P true (h.g 0) w=.go g' w #[evM c]) (k:Tr P E Post true (f (h.y 0) g' w) (h.y 0) g' w):yv P E Post h gs w t sl 0:=by
 have g:=m.grp G b;have y:(h.y 0).to (h.y 0).ph=h.y 0:=rfl;refine m.mainQ o p b A (λe l=>?_) (Chg.same _ _) rfl g.wgl (ph':=(h.y 0).ph) b m.fits rfl rfl rfl ?_ (by rw[y];exact k) (zp q) λpf z=>?_
 .simp at l;subst l;obtain rfl|rfl:=d<;>exact⟨v,rfl⟩
 .obtain rfl|rfl:=d<;>rfl
 exact g.wg.congr rfl yy (λk D F=>⟨z4 m.m0 k,by show (j8 h.y 0 _ k).ph=_;rw[jl _ _ (by have:=g.f1;omega)]⟩) (λ_=>z.1) rfl
end
end
section
variable {E:Env} {h H:Gh} {r':Rk} {G:Grp} {f:Gam->Gn->Wl->Rk}
def Gh.park (h:Gh) (i:Nat):Gh:={h with pk:=j8 h.pk i 1}
def MI.parks (m:MI P E Post h gs w t) {x':Gn} (v:gs[i]?=some x) (z:h.gone i=none) (A:x.status=.running) (B:x'.status≠.running) (C:Sit 1 i (h.y i).ph (h.g i) x') (D:jmx P (h.y i).ph (h.g i)) (F:runT P (crowd gs w sl) i=(.next (crowd (gs.setIfInBounds i x') w sl),#[])) (b:MR E (h.park i) gs.size w t):yv P E Post h gs w t sl i:=by
 have r:i<gs.size:=(mw.1 v).1;have a:(gs.setIfInBounds i x').size=gs.size:=oi;have at_:∀k,k≠i->(gs.setIfInBounds i x')[k]?=gs[k]?:=λk e=>mD (λq=>e q.symm);refine⟨#[],h.park i,_,w,F,⟨by rw[a];exact m.n0,m.m0,by rw[a];exact m.tree,λk q d c j=>?_,λk y l s=>?_,by rw[a];exact b.apart,b.fits,by rw[a];exact b.idle,by rw[a,mV];exact b.grp,by rw[a,mV];exact b.ti,by rw[a,mV];exact b.deaf,by rw[mV];exact b.hand,λk c s o=>?_⟩,?_⟩
 .rw[a]at c;have e:k≠i:=λq=>by have j:h.gone k=some _:=j;rw[q,z]at j;cases j
  rw[at_ k e];exact m.quit k q d c j
 .by_cases e:k=i
  .subst e;rw[mB r]at l;cases l;show Sit (j8 h.pk k 1 k) k (h.y k).ph (h.g k) x';rw[ya];exact C
  rw[at_ k e]at l;show Sit (j8 h.pk i 1 k) k (h.y k).ph (h.g k) y;rw[jl _ _ e];exact m.sit k y l s
 .rw[a]at c;by_cases e:k=i
  .rw[e];exact D
  have o:j8 h.pk i 1 k=1:=o;rw[jl _ _ e]at o;exact m.comm k c s o
 unfold Gh.mu;rw[a];refine .right _ (.right _ ?_)
 have:=jn5 (n:=gs.size) (k:=i) (p:=λk=>(gs[k]?).any (·.status==.running)) (q:=λk=>((gs.setIfInBounds i x')[k]?).any (·.status==.running)) r (by simp[v,A]) (by simp only[Array.getElem?_setIfInBounds_self_of_lt r,Option.any_some];simpa using B) λk e=>by simp only[at_ k e]
 show Nat.lt _ _;exact Nat.lt_of_succ_le (nk this)
def MI.sit0 (m:MI P E Post h gs w t) (a:gs[0]?=some x) (b:x.status=.running):x=h.g 0/\h.pk 0=0:=by
 have s:=m.sit 0 x a m.m0;have c:=(s.run (P:=P) b (m.tree 0 m.n0 m.m0).run).1;match e:h.pk 0,s with
 |0,s=>exact⟨s,rfl⟩
 |1,s=>exact absurd e c
 |k+2,s=>exact absurd s.1 oe
def jlm {a b:Gn} (e:b.status=.blocked):gs.map (woken P a b w')=gs:=by
 have:woken P a b w'=id:=by
  funext o;unfold woken;rw[if_neg (by rw[e];simp)];rfl
 rw[this,Array.map_id]
def MI.semW (m:MI P E Post h gs w t) (l:gs[0]?=some x) (B:x.status=.running) (L:h.r 0=.s f) (a:(h.y 0).ph=.sema G) (M:(h.g 0).offers=none) (N:∀b,WgQ E G.Wg w b 0->stepG P true (h.g 0) w=.go {h.g 0 with status:=.blocked} w #[]) (O:WgQ E G.Wg w 0 1->∃g',stepG P true (h.g 0) w=.go g' (w.setCell (smQ G.Wg) (.int .u32 0)) (semEvents (smQ G.Wg))/\g'.status=.running/\Tr P E Post true (f ((h.y 0).to (.sem4 G)) g' (w.setCell (smQ G.Wg) (.int .u32 0))) ((h.y 0).to (.sem4 G)) g' (w.setCell (smQ G.Wg) (.int .u32 0))):yv P E Post h gs w t sl 0:=by
 have C:(h.y 0).ph.grp=some G:=oB;have g:=m.grp G C;have D:=g.wg;unfold WgS at D;rw[a]at D;have block:∀b,WgQ E G.Wg w b 0->WgS E (h.park 0) gs.size w G->yv P E Post h gs w t sl 0:=λb o p=>by
  obtain⟨rfl,_⟩:=m.sit0 l B;have b:=N b o;refine m.parks (i:=0) (x':={h.g 0 with status:=.blocked}) l m.m0 B (λq=>oA) (.inr (.inr ⟨rfl,G,a,rfl,M⟩)) ⟨λG' q=>(by rw[a]at q;cases q),λG' j q=>(by rw[a]at q;cases q)⟩ ?_ ⟨m.apart,m.fits,m.idle,λG' y=>?_,m.ti,m.deaf,m.hand⟩
  .rw[runT_crowd_go l b,jlm rfl];rfl
  have y:(h.y 0).ph.grp=some G':=y;rw[C]at y;cases y;have Q:(h.y 0).ph.closed=true:=oB;refine⟨g.f1,g.size,g.old,g.W,g.ne,g.free,g.kid,g.told,g.job,g.uniq,g.chan,g.opn,p,λ_ z=>?_,λk F R S A=>?_,g.tt,g.tw,g.rel⟩
  .have z:(h.y 0).ph.closed=false:=z;rw[Q]at z;cases z
  have A:j8 h.pk 0 1 k=1:=A;have F:h.first<=k:=F;rw[jl _ _ (by have:=g.f1;omega)]at A;exact g.rcv k F R S A
 obtain⟨v,c,d,I⟩|⟨c,k,j,T,U,V,X,J,K,Y,Z⟩|⟨c,d,I,h4⟩:=D
 .refine block _ d ?_;unfold WgS;show (match (h.y 0).ph with|.sema _=>_|.sem4 _|.over _|.heard _=>_|ph=>_);rw[a];exact .inl ⟨v,c,d,I⟩
 .have p:WgS E (h.park 0) gs.size w G:=by
   unfold WgS;show (match (h.y 0).ph with|.sema _=>_|.sem4 _|.over _|.heard _=>_|ph=>_);rw[a];exact .inr (.inl ⟨c,k,j,T,U,V,X,J,K,Y,Z⟩)
  by_cases e:j<=1
  .exact block _ (J e) p
  exact block _ (K oe) p
 obtain⟨g',b,_,tr⟩:=O d;have o:=setSm (x:=0) d;refine m.mainQ l B C b jft.2.2.2 (Chg.cell rfl) (y5 _ _ _) ⟨_,_,o⟩ (ph':=.sem4 G) rfl trivial oB oB oB oB tr (zp L) λpf _=>?_;obtain⟨l1,l2⟩:=vb (g':=g') (r':=f ((h.y 0).to (.sem4 G)) g' (w.setCell (smQ G.Wg) (.int .u32 0))) (pf:=pf) (γ':=(h.y 0).to (.sem4 G)) g m.m0;exact WgS.of_last (G':=G) (.inl yy) ⟨l1.trans c,o,l2 I⟩
def MI.opens (m:MI P E Post h gs w t) (hi:gs[0]?=some x) (hx:x.status=.running) (Y:h.r 0=.s f) (L:(h.y 0).ph=.idle) (Z:0<G.W) (hW1:G.W<=16) (O:Opens E (h.y 0) G w) (st:stepG P true (h.g 0) w=.go g' w #[evM .disable]) (k:Tr P E Post true (f ((h.y 0).opened G) g' w) ((h.y 0).opened G) g' w):yv P E Post h gs w t sl 0:=by
 obtain⟨M,aa⟩:=m.idle L;have ab:=O.apart;simp only[List.nodup_cons,List.mem_cons,List.not_mem_nil,or_false,not_or,not_false_eq_true,List.nodup_nil,and_true]at ab;obtain⟨⟨n1,n2,n3,n4⟩,⟨n5,n6,n7⟩,⟨n8,n9⟩,n10⟩:=ab;have F:∀b,(h.y 0).own b->h.own gs.size 0 b:=λb c=>⟨m.n0,m.m0,c⟩
 obtain⟨_,ops,h',gs',a,_,b,d⟩:=m.stepGo (sl:=sl) (hdn:=λe=>absurd rfl e) hi m.m0 hx st (Chg.same (λ_=>False) w) (λk _ _ _ b c=>c.elim) (λG1 B _=>by rw[L]at B;cases B) (λG1 B=>by rw[L]at B;cases B) (γ':=(h.y 0).opened G) (r':=f ((h.y 0).opened G) g' w) (go':=none) h.first (λ_=>k) (λ_=>zp Y) (λ_ _ e=>oJ) ⟨f,Y⟩
  λpf hpf _ _=>by
   show MR E (h.turn 0 ((h.y 0).opened G) g' (f ((h.y 0).opened G) g' w) none pf) gs.size w _;have gn:∀k,(h.turn 0 ((h.y 0).opened G) g' (f ((h.y 0).opened G) g' w) none pf).gone k=h.gone k:=z4 m.m0
   have p:((h.turn 0 ((h.y 0).opened G) g' (f ((h.y 0).opened G) g' w) none pf).y 0)=(h.y 0).opened G:=by
      show j8 h.y 0 ((h.y 0).opened G) 0=(h.y 0).opened G;simp[j8]
   have R:∀k,k<gs.size->(h.turn 0 ((h.y 0).opened G) g' (f ((h.y 0).opened G) g' w) none pf).gone k=none->k=0:=λk S hl=>by
      rw[gn]at hl;apply mP;intro q;have:=aa k oe S;rw[hl]at this;cases this
   have I:∀k b,(h.turn 0 ((h.y 0).opened G) g' (f ((h.y 0).opened G) g' w) none pf).own gs.size k b->k=0/\(h.y 0).own b/\¬G.has b:=λk b ⟨o,v,J⟩=>by
      have e:=R k o v;subst e;rw[p]at J;exact⟨rfl,J⟩
   have N:∀k b,(h.turn 0 ((h.y 0).opened G) g' (f ((h.y 0).opened G) g' w) none pf).rd gs.size k b->k=0/\((h.y 0).rd b\/b=G.B6\/b=G.B7):=λk b ⟨o,v,J⟩=>by
      have e:=R k o v;subst e;rw[p]at J;exact⟨rfl,J⟩
   have U:∀D∈MemOp.ofEvents 0 x.frame.fn x.frame.place #[evM .disable],D.g=0/\D.act.touch?=none/\∀a,D.act≠.mark (.release a):=λD K=>by
      obtain⟨a,e,B,h2⟩:=j9 K;simp at B;subst B;rw[h2];exact⟨a,rfl,λa q=>oA⟩
   have Q:=m.ti.still (u:=MemOp.ofEvents 0 x.frame.fn x.frame.place #[evM .disable]) m.n0 U;have V:∀b,(h.y 0).own b->b<w.heap.size:=λb c=>m.apart.lo 0 b (F b c)
   have early:∀j a,touchAt (t++MemOp.ofEvents 0 x.frame.fn x.frame.place #[evM .disable]) j=some a->a.loc.isMemory=true->(h.y 0).own (blk a.loc)->jhk (h.turn 0 ((h.y 0).opened G) g' (f ((h.y 0).opened G) g' w) none pf) gs.size (t++MemOp.ofEvents 0 x.frame.fn x.frame.place #[evM .disable]) j:=λj a y z c k S=>by
      have e:k=0:=S.elim id λq=>R k q.2.1 q.2.2;subst e;exact Q.own 0 j a y z (F _ c)
   refine⟨⟨λk X b o v=>by rw[(I k b o).1,(I X b v).1],λk X b o v=>?_,λk b q=>V b (I k b q).2.1,λk b q=>?_⟩,by rw[p];exact Z,λq=>(by rw[p]at q;cases q),λG' hG'=>?_,Q.turn (mC _) (mC _) (λk b q=>.inl (by obtain⟨rfl,o,_⟩:=I k b q;exact F b o)) (λk b q=>?_),jfy (γ':=(h.y 0).opened G) m.deaf m.n0 (λD K=>(U D K).1) ?_,jfd m.hand λD K=>.inr (.inl (U D K).1)⟩
   .obtain⟨_,o1,o2⟩:=I k b o;obtain⟨_,l⟩:=N X b v;obtain l|rfl|rfl:=l
    .exact m.apart.two 0 0 b (F b o1) ⟨m.n0,m.m0,l⟩
    .exact o2 (.inr (.inr (.inr (.inl rfl))))
    exact o2 (.inr (.inr (.inr (.inr rfl))))
   .obtain⟨_,l⟩:=N k b q;obtain l|rfl|rfl:=l
    .exact m.apart.lr 0 b ⟨m.n0,m.m0,l⟩
    .exact V _ O.own.2.2.2.1
    exact V _ O.own.2.2.2.2
   .rw[p]at hG';cases hG';have A:∀k,h.first<=k->k<gs.size->False:=λk a b=>by rw[M]at a;omega
    have freeOne:∀b,(b=G.T\/b=G.C\/b=G.Wg)->∀k,¬(h.turn 0 ((h.y 0).opened G) g' (f ((h.y 0).opened G) g' w) none pf).own gs.size k b/\¬(h.turn 0 ((h.y 0).opened G) g' (f ((h.y 0).opened G) g' w) none pf).rd gs.size k b:=λb c k=>by
        have ob:(h.y 0).own b:=by
         obtain rfl|rfl|rfl:=c
         .exact O.own.1
         .exact O.own.2.1
         exact O.own.2.2.1
        refine⟨λq=>(I k b q).2.2 ?_,λq=>?_⟩
        .obtain rfl|rfl|rfl:=c
         .exact .inl rfl
         .exact .inr (.inl rfl)
         exact .inr (.inr (.inl rfl))
        rcases(N k b q).2 with l|e|e
        .exact m.apart.two 0 0 b (F b ob) ⟨m.n0,m.m0,l⟩
        .obtain rfl|rfl|rfl:=c
         .exact n3 e
         .exact n6 e
         exact n8 e
        obtain rfl|rfl|rfl:=c
        .exact n4 e
        .exact n7 e
        exact n9 e
    have live0:(h.turn 0 ((h.y 0).opened G) g' (f ((h.y 0).opened G) g' w) none pf).live gs.size=0:=by
        apply Nat.eq_zero_of_not_pos;intro q;obtain⟨k,k1,k2⟩:=jpc q;simp only[Bool.and_eq_true,decide_eq_true_eq]at k2;exact A k k2.1.1 k1
    obtain⟨s,hC⟩:=O.chan;refine⟨by show 1<=h.first;rw[M];exact m.n0,by rw[p];show gs.size=h.first+0;rw[M];rfl,λk o v=>by rw[gn];exact aa k o (M▸v),⟨Z,hW1⟩,⟨n1,n2,n5⟩,freeOne,λk a b=>(A k a b).elim,?_,λk _ a b=>(A k a b).elim,λk _ _ a b=>(A k a b).elim,⟨s,s,by rw[p];exact hC⟩,λ_ k a b=>(A k a b).elim,?_,λ_ _ k a b=>(A k a b).elim,λk a b=>(A k a b).elim,λj a y z c=>.inl (early j a y z (by rw[c];exact O.own.1)),λj a y z c=>.inl (early j a y z (c.elim (λq=>by rw[q];exact O.own.2.2.1) λq=>by rw[q];exact O.own.2.1)),λk a b=>(A k a b).elim⟩
    .obtain⟨cs,hT⟩:=O.told;exact⟨cs,hT,λj hj=>by rw[p]at hj;exact absurd hj (Nat.not_lt_zero _)⟩
    refine WgS.of_plain (by rw[p];rfl) ?_ λk a b=>(A k a b).elim;rw[live0,p];have:=O.wg;simpa[Ph.more,Gam.opened]using this
   .obtain⟨rfl,l⟩:=N k b q;obtain l|rfl|rfl:=l
    .exact .inl ⟨m.n0,m.m0,l⟩
    .exact .inr λj a y z c _=>Q.own 0 j a y z (F _ (by rw[c];exact O.own.2.2.2.1))
    exact .inr λj a y z c _=>Q.own 0 j a y z (F _ (by rw[c];exact O.own.2.2.2.2))
   rw[Deaf_own,m.deaf 0 m.n0,m.m0];show deafBehind (h.y 0).ph.deafs _=_;rw[L];rfl
 exact⟨ops,h',gs',w,a,b,d⟩
end
section
variable {E:Env} {h H:Gh} {r':Rk} {G:Grp} {f:Gam->Gn->Wl->Rk}
def jp6 {a:Addr} {k r:Nat} (R:Go.ConcN.RelBy a t k r) (p:∀j b,t.act? j≠some (.mark (.release b))) (s:Deaf t 0=0) (fn:Fi) (pos:String) {j:Nat} (c:t.g? j=some k) (v:t.counts j):Knows (t++MemOp.ofEvents 0 fn pos #[evM (.acquire a)]) 0 j:=by
 have x:MemOp.ofEvents 0 fn pos #[evM (.acquire a)]=#[{g:=0,fn,pos,act:=.mark (.acquire a)}]:=by rw[ofEvents_eq];simp[evM,MemAct.ofEvent]
 rw[x];have d:r<t.size:=lt_of_act? R.act;have y:j<t.size:=by
  simp only[Trace.g?,Option.map_eq_some_iff]at c;obtain⟨I,e,_⟩:=c;exact lt_size_of_getElem? e
 generalize l:({g:=0,fn,pos,act:=.mark (.acquire a)}:MemOp)=z;have m:(t++#[z])[t.size]?=some z:=oi;have A:(t++#[z]).act? r=some (.mark (.releaseMerge a)):=by rw[act?_old d];exact R.act
 have B:(t++#[z]).act? t.size=some (.mark (.acquire a)):=by rw[act?_of m,<-l]
 have C:(t++#[z]).heard r:=(heard_old d).2 R.heard;have D:(t++#[z]).heard t.size:=⟨0,by simp[Trace.g?,<-l],by rw[deaf_old (mC _)];exact s⟩;have o:HappensBefore (t++#[z]) r t.size:=.single (.inr ⟨.marked d (.inr A) B (λk _ F q=>by rw[act?_old F]at q;exact p k a q),C,D⟩);have J:j<=r:=Nat.le_of_not_lt λq=>R.after j q c v;refine⟨t.size,z,m,by rw[<-l],.inr ?_⟩;obtain q|q:=Nat.lt_or_ge j r
 .exact .trans (.single (.inl ⟨q,k,by rw[g?_old y];exact c,by rw[g?_old d];exact R.g⟩)) o
 obtain rfl:j=r:=oe;exact o
def GO.allGone (g:GO E h n w t G) (d:h.live n=0) (j:zb h n):∀k,0<k->k<n->(h.gone k).isSome=true:=λk l a=>by
 by_cases b:h.first<=k
 .cases e:h.gone k with
  |some q=>rfl
  |none=>
   obtain⟨c,k2⟩:=g.kid k b a e;have:=jne d k a;simp only[b,decide_true,e,Option.isNone_none,Bool.true_and]at this;have m:=j k b a e;cases e2:(h.y k).ph<;>rw[e2]at c this<;>first|exact absurd e2 (m _ _)|(cases this;done)|(cases c;done)
 exact g.old k l oe
def MI.acq (m:MI P E Post h gs w t) {x:Gn} (hi:gs[0]?=some x) (hx:x.status=.running) (W:h.r 0=.s f) (A:(h.y 0).ph=.heard G) (k:jkl E G w->∃g',stepG P true (h.g 0) w=.go g' w #[evM (.acquire (stQ G.Wg))]/\g'.status=.running/\Tr P E Post true (f ((h.y 0).back G) g' w) ((h.y 0).back G) g' w):yv P E Post h gs w t sl 0:=by
 have X:(h.y 0).ph.grp=some G:=by rw[A];rfl
 have g:=m.grp G X;obtain⟨hl0,hW,hnl⟩:=g.wg.last (.inr (.inr A));have gone:=g.allGone hl0 hnl;obtain⟨cs,Y,hfull⟩:=g.told;have full:jkl E G w:=⟨cs,Y,λj v=>by
  rcases hfull j (by rw[A];exact v)with ⟨k,N,k2,k3,_⟩|q
  .have:=gone k (by have:=g.f1;omega) k2;rw[k3]at this;cases this
  exact q⟩
 obtain⟨g',st,_,tr⟩:=k full;have lT:=(mw.1 Y.1).1;obtain⟨_,ops,h',gs',a,_,b,d⟩:=m.stepGo (sl:=sl) (hdn:=λe=>absurd rfl e) hi m.m0 hx st (Chg.same (λ_=>False) w) (λk _ _ _ b B=>B.elim) (λG1 y _=>by rw[X]at y;cases y;exact g.wgl) (λG1 y Z=>by rw[A]at Z;cases Z) (γ':=(h.y 0).back G) (r':=f ((h.y 0).back G) g' w) (go':=none) gs.size (λ_=>tr) (λ_=>zp W) (λ_ _ e=>oJ) ⟨f,W⟩
  λpf hpf _ _=>by
   have gn:∀k,(h.turn 0 ((h.y 0).back G) g' (f ((h.y 0).back G) g' w) none pf).gone k=h.gone k:=z4 m.m0
   have g0:((h.turn 0 ((h.y 0).back G) g' (f ((h.y 0).back G) g' w) none pf).y 0)=(h.y 0).back G:=by
      show j8 h.y 0 ((h.y 0).back G) 0=(h.y 0).back G;simp[j8]
   generalize I:({h.turn 0 ((h.y 0).back G) g' (f ((h.y 0).back G) g' w) none pf with first:=gs.size}:Gh)=H;have aa:∀k,H.gone k=h.gone k:=λk=>by rw[<-I];exact gn k
   have J:H.y 0=(h.y 0).back G:=by rw[<-I];exact g0
   have ab:H.first=gs.size:=by rw[<-I]
   have ac:∀k,k<gs.size->H.gone k=none->k=0:=λk c hl=>by
      rw[aa]at hl;apply mP;intro q;have:=gone k oe c;rw[hl]at this;cases this
   have O:∀b,(h.y 0).own b->h.own gs.size 0 b:=λb B=>⟨m.n0,m.m0,B⟩
   have C:∀k b,H.own gs.size k b->k=0/\((h.y 0).own b\/b=G.T):=λk b ⟨l,z,D⟩=>by
      have e:=ac k l z;subst e;rw[J]at D;exact⟨rfl,D⟩
   have K:∀k b,H.rd gs.size k b->k=0/\(h.y 0).rd b:=λk b ⟨l,z,D⟩=>by
      have e:=ac k l z;subst e;rw[J]at D;exact⟨rfl,D⟩
   have L:∀p∈MemOp.ofEvents 0 x.frame.fn x.frame.place #[evM (.acquire (stQ G.Wg))],p.g=0/\p.act.touch?=none/\∀a,p.act≠.mark (.release a):=λp F=>by
      obtain⟨a,e,y,h2⟩:=j9 F;simp at y;subst y;rw[h2];exact⟨a,rfl,λa q=>oA⟩
   have TT:=m.ti.still (u:=MemOp.ofEvents 0 x.frame.fn x.frame.place #[evM (.acquire (stQ G.Wg))]) m.n0 L;have df:Deaf t 0=0:=by rw[m.deaf 0 m.n0,m.m0];show (h.y 0).ph.deafs=0;rw[A];rfl
   have kn:∀k j,h.first<=k->k<gs.size->t.g? j=some k->t.counts j->Knows (t++MemOp.ofEvents 0 x.frame.fn x.frame.place #[evM (.acquire (stQ G.Wg))]) 0 j:=λk j Q c v S=>by
      obtain⟨r,R⟩:=g.rel k Q c (.inl (gone k (by have:=g.f1;omega) c));exact jp6 R m.ti.nor df _ _ v S
   have old:∀{j a},touchAt (t++MemOp.ofEvents 0 x.frame.fn x.frame.place #[evM (.acquire (stQ G.Wg))]) j=some a->j<t.size/\touchAt t j=some a:=λ{j a} U=>by
      obtain q|⟨p,y,_,h3⟩:=vn U
      .exact q
      rw[(L p y).2.1]at h3;cases h3
   refine⟨⟨λk M b l z=>by rw[(C k b l).1,(C M b z).1],λk M b l z=>?_,λk b q=>?_,λk b q=>m.apart.lr 0 b ⟨m.n0,m.m0,(K k b q).2⟩⟩,by rw[J];trivial,λ_=>⟨ab,λk V c=>by rw[aa];exact gone k V c⟩,λG' hG'=>(by rw[J]at hG';cases hG'),TT.turn (mC _) (mC _) (λk b q=>?_) (λk b q=>.inl (by obtain⟨rfl,l⟩:=K k b q;exact⟨m.n0,m.m0,l⟩)),λk c=>?_,λk j V c v S=>?_⟩
   .rcases(C k b l).2 with o|rfl
    .exact m.apart.two 0 0 b (O b o) ⟨m.n0,m.m0,(K M b z).2⟩
    exact(g.free _ (.inl rfl) 0).2 ⟨m.n0,m.m0,(K M _ z).2⟩
   .rcases(C k b q).2 with o|rfl
    .exact m.apart.lo 0 b (O b o)
    exact lT
   .obtain⟨rfl,o⟩:=C k b q;obtain o|rfl:=o
    .exact .inl (O b o)
    refine .inr (.inr λj a U hm B=>?_);obtain⟨hjl,ha'⟩:=old U;obtain hE|⟨⟨k,N,k2⟩,c,_⟩:=g.tt j a ha' hm B
    .exact(hE 0 (.inl rfl)).app _
    exact kn k j k2 (m.ti.gm j k N) N ⟨a,ha',hm,.inl (by rw[c];simp)⟩
   .have:=jfy (γ':=(h.y 0).back G) (g':=g') (r':=f ((h.y 0).back G) g' w) (go':=none) (pf:=pf) m.deaf m.n0 (λp F=>(L p F).1) (by
        rw[Deaf_own,df];rfl) k c
    rw[<-I];exact this
   rw[ab]at c;obtain q|q:=Nat.lt_or_ge j t.size
   .rw[g?_old q]at v;have hc':=(jku q).1 S;by_cases Q:h.first<=k
    .exact kn k j Q c v hc'
    exact(m.hand k j V oe v hc').app _
   exfalso;simp only[Trace.g?,Option.map_eq_some_iff]at v;obtain⟨p,e1,e2⟩:=v;obtain⟨l,_⟩|⟨_,F⟩:=getElem?_append_cases e1
   .omega
   rw[(L p F).1]at e2;omega
 exact⟨ops,h',gs',w,a,b,d⟩
end
section
variable {E:Env} {h H:Gh} {r':Rk} {G:Grp} {f:Gam->Gn->Wl->Rk}
variable {b:Nat}
def jog {j:Ph} {go':Option (Nat×Nat)} (g:h.gone i=none) (q:(h.turn i ((h.y i).to j) g' r' go' pf).own n k b):h.own n k b:=by
 obtain⟨d,c,a⟩:=q;by_cases e:k=i
 .subst e;have a:(j8 h.y k ((h.y k).to j) k).own b:=a;rw[ya]at a;exact⟨d,g,a⟩
 have c:j8 h.gone i go' k=none:=c;have a:(j8 h.y i ((h.y i).to j) k).own b:=a;rw[jl _ _ e]at c a;exact⟨d,c,a⟩
def jry {j:Ph} {go':Option (Nat×Nat)} (g:h.gone i=none) (q:(h.turn i ((h.y i).to j) g' r' go' pf).rd n k b):h.rd n k b:=by
 obtain⟨d,c,a⟩:=q;by_cases e:k=i
 .subst e;have a:(j8 h.y k ((h.y k).to j) k).rd b:=a;rw[ya]at a;exact⟨d,g,a⟩
 have c:j8 h.gone i go' k=none:=c;have a:(j8 h.y i ((h.y i).to j) k).rd b:=a;rw[jl _ _ e]at c a;exact⟨d,c,a⟩
def jfj (w:Wl) (C s r:Nat) (tm:Bool):Wl:={w with heap:=w.heap.setIfInBounds C (.chan 0 #[] true s r tm)}
def MI.close (m:MI P E Post h gs w t) {x:Gn} (hi:gs[0]?=some x) (hx:x.status=.running) (hr:h.r 0=.s f) (J:(h.y 0).ph=.open_ G G.W G.n) (hw:mayWake P (h.g 0)=true) (k:∀s r V,w.heap[G.C]?=some (.chan 0 #[] false s r V)->∃g',stepG P true (h.g 0) w=.go g' {w with heap:=w.heap.setIfInBounds G.C (.chan 0 #[] true s r V)} #[⟨.obj G.C,false,true⟩,⟨.obj G.C,true,true⟩]/\g'.status=.running/\Tr P E Post true (f ((h.y 0).to (.shut G)) g' {w with heap:=w.heap.setIfInBounds G.C (.chan 0 #[] true s r V)}) ((h.y 0).to (.shut G)) g' {w with heap:=w.heap.setIfInBounds G.C (.chan 0 #[] true s r V)}):yv P E Post h gs w t sl 0:=by
 have hG:(h.y 0).ph.grp=some G:=by rw[J];rfl
 have g:=m.grp G hG;have hcl:(h.y 0).ph.closed=false:=by rw[J];rfl
 obtain⟨s,r,hC⟩:=g.chan;rw[hcl]at hC;have lC:=(mw.1 hC).1;obtain⟨g',st,hg',tr⟩:=k s r false hC;obtain⟨rfl,_⟩:=m.sit0 hi hx;have st:stepG P true (h.g 0) w=.go g' (jfj w G.C s r false) #[⟨.obj G.C,false,true⟩,⟨.obj G.C,true,true⟩]:=st;have tr:Tr P E Post true (f ((h.y 0).to (.shut G)) g' (jfj w G.C s r false)) ((h.y 0).to (.shut G)) g' (jfj w G.C s r false):=tr;have c:Chg (·=G.C) w (jfj w G.C s r false):=Chg.set rfl;have X:(jfj w G.C s r false).heap.size=w.heap.size:=by simp[jfj]
 have hC':(jfj w G.C s r false).heap[G.C]?=some (.chan 0 #[] true s r false):=by simp[jfj,lC]
 obtain⟨st0,sm0,hW⟩:=g.wgl;have sameWg:(jfj w G.C s r false).heap[G.Wg]?=w.heap[G.Wg]?:=c.out _ (mw.1 hW).1 λq=>g.ne.2.2 q.symm
 obtain⟨_,ops,h',gs',a,_,b,d⟩:=m.stepGo (sl:=sl) (hdn:=λe=>absurd rfl e) hi m.m0 hx st c (λk _ o z b I=>by subst I;exact⟨λq=>(g.free _ (.inr (.inl rfl)) k).1 ⟨o,z,q⟩,λq=>(g.free _ (.inr (.inl rfl)) k).2 ⟨o,z,q⟩⟩)
  (λG1 p _=>by rw[hG]at p;cases p;exact⟨_,_,sameWg.trans hW⟩) (λG1 p _=>by rw[hG]at p;cases p;exact⟨_,_,_,_,_,_,hC',λq=>absurd rfl q⟩) (γ':=(h.y 0).to (.shut G)) (r':=f ((h.y 0).to (.shut G)) g' (jfj w G.C s r false)) (go':=none) h.first (λ_=>tr) (λ_=>zp hr) (λ_ _ e=>oJ) ⟨f,hr⟩
  λpf hpf hwk _=>by
   show MR E (h.turn 0 ((h.y 0).to (.shut G)) g' (f ((h.y 0).to (.shut G)) g' (jfj w G.C s r false)) none pf) gs.size (jfj w G.C s r false) _;have D:∀k,(h.turn 0 ((h.y 0).to (.shut G)) g' (f ((h.y 0).to (.shut G)) g' (jfj w G.C s r false)) none pf).gone k=h.gone k:=z4 m.m0;have A:((h.turn 0 ((h.y 0).to (.shut G)) g' (f ((h.y 0).to (.shut G)) g' (jfj w G.C s r false)) none pf).y 0).ph=.shut G:=yy;have gk:∀k,h.first<=k->((h.turn 0 ((h.y 0).to (.shut G)) g' (f ((h.y 0).to (.shut G)) g' (jfj w G.C s r false)) none pf).y k)=h.y k:=λk o=>jl _ _ (by have:=g.f1;omega);obtain⟨l1,l2⟩:=vb (g':=g') (r':=f ((h.y 0).to (.shut G)) g' (jfj w G.C s r false)) (pf:=pf) (γ':=(h.y 0).to (.shut G)) g m.m0
   generalize S:h.turn 0 ((h.y 0).to (.shut G)) g' (f ((h.y 0).to (.shut G)) g' (jfj w G.C s r false)) none pf=H at D A gk l1 l2;have l:H.first=h.first:=by rw[<-S];rfl
   have M:∀k b,H.own gs.size k b->h.own gs.size k b:=λk b q=>by rw[<-S]at q;exact jog m.m0 q
   have T:∀k b,H.rd gs.size k b->h.rd gs.size k b:=λk b q=>by rw[<-S]at q;exact jry m.m0 q
   have K:∀v∈MemOp.ofEvents 0 (h.g 0).frame.fn (h.g 0).frame.place #[(⟨.obj G.C,false,true⟩:Event),⟨.obj G.C,true,true⟩],v.g=0/\(∀b,v.act.touch?=some b->b=⟨.obj G.C,false,.atomic⟩)/\∀a,v.act≠.mark (.release a):=λv B=>by
      obtain⟨a,e,p,N⟩:=j9 B;simp at p;obtain rfl|rfl:=p
      .rw[N];exact⟨a,(λb q=>by cases q;rfl),(λa q=>oA)⟩
      rw[N];exact⟨a,(λb q=>oA),(λa q=>oA)⟩
   have TT:=(m.ti.turn (own':=H.own gs.size) (rd':=H.rd gs.size) (n':=gs.size) (B':=(jfj w G.C s r false).heap.size) (mC _) (nk X.symm) (λk b q=>.inl (M k b q)) λk b q=>.inl (T k b q)).aside (Q:=G.C) (u:=MemOp.ofEvents 0 (h.g 0).frame.fn (h.g 0).frame.place #[(⟨.obj G.C,false,true⟩:Event),⟨.obj G.C,true,true⟩]) m.n0 (by rw[X];exact lC) (λk q=>(g.free _ (.inr (.inl rfl)) k).1 (M k _ q)) (λk q=>(g.free _ (.inr (.inl rfl)) k).2 (T k _ q)) (λv B=>⟨(K v B).1,(K v B).2.2,λa O _=>by rw[(K v B).2.1 a O];rfl⟩) λsaid j a O v B b I hc=>by
      obtain⟨c1,c2,c3,Y⟩:=hc;have e:=(K v B).2.1 b I;subst e;rcases g.tw j a O c2 (.inr (by rw[c1];rfl))with ka|ka|⟨ka,_⟩
      .exact ka 0 (.inl rfl)
      .rw[ka]at Y;simp at Y
      rw[ka]at Y;simp at Y
   obtain⟨cs,hT,_⟩:=g.told;refine⟨⟨λk L b q1 q2=>m.apart.one k L b (M k b q1) (M L b q2),λk L b q1 q2=>m.apart.two k L b (M k b q1) (T L b q2),λk b q=>by rw[X];exact m.apart.lo k b (M k b q),λk b q=>by rw[X];exact m.apart.lr k b (T k b q)⟩,by rw[A];trivial,λq=>(by rw[A]at q;cases q),λG' hG'=>?_,TT,?_,by rw[l];exact jfd m.hand λv B=>.inr (.inl (K v B).1)⟩
   .rw[A]at hG';cases hG';refine⟨by rw[l];exact g.f1,by rw[l,A];have:=g.size;rw[J]at this;exact this,λk h0 o=>by rw[D];exact g.old k h0 (l▸o),g.W,g.ne,λb I k=>⟨λq=>(g.free b I k).1 (M k b q),λq=>(g.free b I k).2 (T k b q)⟩,λk y o z=>by rw[gk k (l▸y)];exact g.kid k (l▸y) o (D k▸z),?_,λk j y o z F=>?_,λk L j y o z F hf' hk' hl' hj'=>?_,⟨s,r,by rw[A];exact hC'⟩,λq=>(by rw[A]at q;cases q),?_,λ_ q=>(by rw[A]at q;cases q),λk y o z Z=>?_,λj a O hm I=>?_,λj a O hm I=>?_,λk y o hs=>?_⟩
    .obtain⟨cs,p,N⟩:=g.told;refine⟨cs,⟨(c.out _ (mw.1 p.1).1 g.ne.1).trans p.1,p.2⟩,λj F=>?_⟩;rw[A]at F;rw[J]at N;obtain⟨k,k1,k2,k3,k4⟩|q:=N j F
     .exact .inl ⟨k,l.symm▸k1,k2,by rw[D];exact k3,by rw[gk k k1];exact k4⟩
     exact .inr q
    .rw[D]at z;rw[gk k (l▸y)]at F;have:=g.job k j (l▸y) o z F;rw[J]at this;rw[A];exact this
    .rw[D]at z hl';rw[gk k (l▸y)]at F;rw[gk L (l▸hf')]at hj';exact g.uniq k L j (l▸y) o z F (l▸hf') hk' hl' hj'
    .obtain⟨a,b⟩:=g.wg.plain (by rw[J];rfl);refine WgS.of_plain (by rw[A];rfl) ?_ (l2 b);rw[l1,A];rw[J]at a;exact sameWg.trans a
    .have Z:pf k=1:=by rw[<-S]at Z;exact Z
     have hk0:k≠0:=by have:=g.f1;rw[l]at y;omega
     refine absurd Z (hwk (by rw[hw,hg'];rfl) k hk0 oe o (D k▸z) λG1 p=>?_);have:=(g.kid k (l▸y) o (D k▸z)).2;rw[p]at this;cases this;exact⟨_,_,_,_,_,hC'⟩
    .obtain⟨F,p⟩|⟨v,p,_,U⟩:=vn O
     .obtain hE|⟨⟨k,k1,k2⟩,N,mm,U,h4,h5⟩:=g.tt j a p hm I
      .exact .inl λk o=>(hE k (o.imp id λq=>⟨l▸q.1,q.2.1,D k▸q.2.2⟩)).app _
      exact .inr ⟨⟨k,by rw[g?_old F];exact k1,l.symm▸k2⟩,N,mm,U,by rw[A];rw[J]at h4;exact h4,λk y o z=>by rw[gk k (l▸y)];exact h5 k (l▸y) o (D k▸z)⟩
     have e:=(K v p).2.1 a U;subst e;exact absurd I.symm g.ne.1
    .obtain⟨F,p⟩|⟨v,p,_,U⟩:=vn O
     .rw[g?_old F];exact(g.tw j a p hm I).imp (λhE k o=>(hE k (o.imp id λq=>⟨l▸q.1,q.2.1,D k▸q.2.2⟩)).app _) id
     have e:=(K v p).2.1 a U;subst e;exact .inr (.inl rfl)
    rw[D,gk k (l▸y)]at hs;obtain⟨r,R⟩:=g.rel k (l▸y) o hs;exact⟨r,z5 R λv B=>.inl (by rw[(K v B).1];intro q;have:=g.f1;rw[l]at y;omega)⟩
   have:=jfy (γ':=(h.y 0).to (.shut G)) (g':=g') (r':=f ((h.y 0).to (.shut G)) g' (jfj w G.C s r false)) (go':=none) (pf:=pf) m.deaf m.n0 (λv B=>(K v B).1) (by
      rw[Deaf_own,m.deaf 0 m.n0,m.m0];show deafBehind (h.y 0).ph.deafs _=_;rw[J];rfl)
   rw[S]at this;exact this
 exact⟨ops,h',gs',_,a,b,d⟩
end
section
variable {E:Env} {h H:Gh} {r':Rk} {G:Grp} {f:Gam->Gn->Wl->Rk}
def Gh.born (h:Gh) (γ0:Gam) (g':Gn) (r':Rk) (N:Nat) (γn:Gam) (child:Gn) (rc:Rk):Gh:=⟨j8 (j8 h.y 0 γ0) N γn,j8 (j8 h.g 0 g') N child,j8 (j8 h.r 0 r') N rc,j8 h.gone N none,j8 (j8 h.pk 0 0) N 0,h.first⟩
variable {A:Type} {N:Nat}
def jfs (f:Nat->A) (c:0<N) (a b:A):j8 (j8 f 0 a) N b 0=a:=by simp[j8];omega
def jgg (f:Nat->A) (a b:A):j8 (j8 f 0 a) N b N=b:=by simp[j8]
def jfr (f:Nat->A) {k:Nat} (a b:A) (c:k≠0) (d:k≠N):j8 (j8 f 0 a) N b k=f k:=by simp[j8,c,d]
def MI.spawn (m:MI P E Post h gs w t) {x:Gn} (hi:gs[0]?=some x) (hx:x.status=.running) (hr:h.r 0=.s f) {j:Nat} (R:(h.y 0).ph=.ready G j) {child:Gn} (st:stepG P true (h.g 0) w=.spawn g' child w #[]) (hg':g'.status=.running) (hc:child.status=.running) (kid:q7 P E Post false ⟨λ_=>False,(h.y 0).rd,.work G⟩ child w) (k:Tr P E Post true (f ((h.y 0).to (.open_ G (j+1) 0)) g' w) ((h.y 0).to (.open_ G (j+1) 0)) g' w):yv P E Post h gs w t sl 0:=by
 have hG:(h.y 0).ph.grp=some G:=by rw[R];rfl
 have g:=m.grp G hG;obtain⟨rfl,hpk0⟩:=m.sit0 hi hx;obtain⟨rc,trc⟩:=kid;have L:=m.n0;have hgn:∀k,k<gs.size->(j8 h.gone gs.size none) k=h.gone k:=λk p=>jl _ _ oe
 have hfit:j<G.W:=by have:=m.fits;rw[R]at this;exact this
 generalize hγ0:(h.y 0).to (.open_ G (j+1) 0)=γ0 at k;generalize T:(⟨λ_=>False,(h.y 0).rd,.work G⟩:Gam)=γn at trc;generalize v:h.born γ0 g' (f γ0 g' w) gs.size γn child rc=H;have Hγ0:H.y 0=γ0:=by rw[<-v];exact jfs _ L _ _
 have S:H.y gs.size=γn:=by rw[<-v];exact jgg _ _ _
 have Q:∀k,k≠0->k≠gs.size->H.y k=h.y k:=λk a b=>by rw[<-v];exact jfr _ _ _ a b
 have D:∀k,k<gs.size->H.gone k=h.gone k:=λk p=>by rw[<-v];exact hgn k p
 have HgoneN:H.gone gs.size=none:=by rw[<-v];exact ya _ _ _
 have M:H.first=h.first:=by rw[<-v];rfl
 have f1:=g.f1;have hfs:h.first<=gs.size:=by have:=g.size;omega
 have Hpk0:H.pk 0=0:=by rw[<-v];exact jfs _ L _ _
 have HpkN:H.pk gs.size=0:=by rw[<-v];exact jgg _ _ _
 have Hpkk:∀k,k≠0->k≠gs.size->H.pk k=h.pk k:=λk a b=>by rw[<-v];exact jfr _ _ _ a b
 have U:(H.y 0).ph=.open_ G (j+1) 0:=by rw[Hγ0,<-hγ0];rfl
 have ho:∀k b,H.own (gs.size+1) k b->h.own gs.size k b:=λk b ⟨q1,Z,C⟩=>by
  by_cases o:k=0
  .subst o;rw[Hγ0,<-hγ0]at C;exact⟨L,m.m0,C⟩
  by_cases l:k=gs.size
  .subst l;rw[S,<-T]at C;exact C.elim
  rw[Q k o l]at C;rw[D k oe]at Z;exact⟨oe,Z,C⟩
 have hrd:∀k b,H.rd (gs.size+1) k b->(k<gs.size/\h.rd gs.size k b)\/(k=gs.size/\h.rd gs.size 0 b):=λk b ⟨q1,Z,C⟩=>by
  by_cases o:k=0
  .subst o;rw[Hγ0,<-hγ0]at C;exact .inl ⟨L,L,m.m0,C⟩
  by_cases l:k=gs.size
  .subst l;rw[S,<-T]at C;exact .inr ⟨rfl,L,m.m0,C⟩
  rw[Q k o l]at C;rw[D k oe]at Z;exact .inl ⟨oe,oe,Z,C⟩
 have hrd2:∀k b,H.rd (gs.size+1) k b->∃k',h.rd gs.size k' b:=λk b q=>by
  obtain⟨_,a⟩|⟨_,a⟩:=hrd k b q
  .exact⟨k,a⟩
  exact⟨0,a⟩
 have hrun:=runT_crowd_spawn (sl:=sl) hi st;generalize hX:({g:=0,fn:=(h.g 0).frame.fn,pos:=(h.g 0).frame.place,act:=.go gs.size}:MemOp)=X at hrun;generalize hY:({g:=gs.size,fn:=child.frame.fn,pos:=(h.g 0).frame.place,act:=.start}:MemOp)=Y at hrun;have hops:((MemOp.ofEvents 0 (h.g 0).frame.fn (h.g 0).frame.place #[]).push X|>.push Y)=#[X,Y]:=rfl;rw[hops]at hrun;have eX:X.g=0/\X.act=.go gs.size:=by rw[<-hX];exact⟨rfl,rfl⟩
 have eY:Y.g=gs.size/\Y.act=.start:=by rw[<-hY];exact⟨rfl,rfl⟩
 have split:t++#[X,Y]=(t++#[X])++#[Y]:=by rw[Array.append_assoc];rfl
 have d0:Deaf t 0=0:=by rw[m.deaf 0 L,m.m0];show (h.y 0).ph.deafs=0;rw[R];rfl
 have dN:Deaf t gs.size=0:=Go.ConcN.Deaf_absent λq F e1 O=>by
  have:=m.ti.gm q F.g (by simp[Trace.g?,e1]);omega
 have fk:∀{q},Knows t 0 q->Knows (t++#[X,Y]) gs.size q:=λ{q} I=>Go.ConcN.fork_knows eX eY d0 dN I
 have dfr:∀k,Deaf (t++#[X,Y]) k=Deaf t k:=λk=>by
  rw[split,Deaf_push,Deaf_push];simp only[deafStep,eX.2,eY.2]
 have memX:∀F∈#[X],F.g=0/\F.act.touch?=none/\∀a,F.act≠.mark (.release a):=λF V=>by
  simp at V;subst V;rw[eX.2];exact⟨eX.1,rfl,λa q=>oA⟩
 have memY:∀F∈#[Y],F.g=gs.size/\F.act.touch?=none/\∀a,F.act≠.mark (.release a):=λF V=>by
  simp at V;subst V;rw[eY.2];exact⟨eY.1,rfl,λa q=>oA⟩
 have memU:∀F∈#[X,Y],F.act.touch?=none:=λF V=>by
  simp at V;obtain rfl|rfl:=V
  .rw[eX.2];rfl
  rw[eY.2];rfl
 have TT:TI (h.own gs.size) (h.rd gs.size) (gs.size+1) w.heap.size (t++#[X,Y]):=by
  rw[split];exact((m.ti.turn (own':=h.own gs.size) (rd':=h.rd gs.size) (n':=gs.size+1) (B':=w.heap.size) oe (mC _) (λk b q=>.inl q) λk b q=>.inl q).still oe memX).still oe memY
 have old:∀{q a},touchAt (t++#[X,Y]) q=some a->q<t.size/\touchAt t q=some a:=λ{q a} ha=>by
  obtain z|⟨F,h1,_,h3⟩:=vn ha
  .exact z
  rw[memU F h1]at h3;cases h3
 have early:∀{q},jhk h gs.size t q->jhk H (gs.size+1) (t++#[X,Y]) q:=λ{q} hE k p=>by
  by_cases l:k=gs.size
  .subst l;exact fk (hE 0 (.inl rfl))
  refine(hE k (p.imp id λ⟨a,b,c⟩=>⟨M▸a,oe,?_⟩)).app _;rw[D k oe]at c;exact c
 have liveH:H.live (gs.size+1)=h.live gs.size+1:=by
  unfold Gh.live;simp only[jg7];rw[ji2 (q:=λk=>decide (h.first<=k)&&(h.gone k).isNone&&(h.y k).ph.alive) λk p=>by
   rw[M,D k p];by_cases o:k=0
   .subst o
    have:¬h.first<=0:=oe;simp[this]
   rw[Q k o oe]]
  rw[if_pos (by simp only[M,HgoneN,S,<-T];simp[hfs,Ph.alive])]
 have opn:=g.opn (by rw[R];rfl);have gsz:((gs.setIfInBounds 0 g').push child).size=gs.size+1:=oi;have gat:∀k,k≠0->k≠gs.size->((gs.setIfInBounds 0 g').push child)[k]?=gs[k]?:=λk a b=>by
  rw[Array.getElem?_push];simp only[Array.size_setIfInBounds,b,if_false];exact mD λq=>a q.symm
 have gat0:((gs.setIfInBounds 0 g').push child)[0]?=some g':=by
  rw[Array.getElem?_push]
  have:¬(0=(gs.setIfInBounds 0 g').size):=ou;simp only[this,if_false];exact mB L
 have gatN:((gs.setIfInBounds 0 g').push child)[gs.size]?=some child:=by
  rw[Array.getElem?_push];simp
 have cm:∀k,k<((gs.setIfInBounds 0 g').push child).size->H.gone k=none->H.pk k=1->jmx P (H.y k).ph (H.g k):=λk p B hp1=>by
  rw[gsz]at p;have o:k≠0:=λe=>by rw[e,Hpk0]at hp1;omega
  have l:k≠gs.size:=λe=>by rw[e,HpkN]at hp1;omega
  have O:H.g k=h.g k:=by rw[<-v];exact jfr _ _ _ o l
  rw[Q k o l,O];rw[D k oe]at B;rw[Hpkk k o l]at hp1;exact m.comm k oe B hp1
 refine⟨#[X,Y],H,_,w,hrun,⟨by rw[gsz];omega,by rw[D 0 L];exact m.m0,λk p B=>?_,λk q d p I=>?_,λk y hy B=>?_,?_,by rw[U];exact⟨hfit,Nat.zero_le _,λq=>absurd q (mM _)⟩,λq=>(by rw[U]at q;cases q),λG' hG'=>?_,?_,λk p=>?_,λk q h0 p I hcnt=>?_,cm⟩,?_⟩
 .rw[gsz]at p;by_cases o:k=0
  .subst o;have e1:H.r 0=f γ0 g' w:=by rw[<-v];exact jfs _ L _ _
   have O:H.g 0=g':=by rw[<-v];exact jfs _ L _ _
   rw[Hγ0,e1,O];exact k
  by_cases l:k=gs.size
  .subst l;have e1:H.r gs.size=rc:=by rw[<-v];exact jgg _ _ _
   have O:H.g gs.size=child:=by rw[<-v];exact jgg _ _ _
   have e3:(gs.size==0)=false:=by simpa using o
   rw[S,e1,O,e3];exact trc
  have e1:H.r k=h.r k:=by rw[<-v];exact jfr _ _ _ o l
  have O:H.g k=h.g k:=by rw[<-v];exact jfr _ _ _ o l
  rw[Q k o l,e1,O];rw[D k oe]at B;exact m.tree k oe B
 .rw[gsz]at p;have l:k≠gs.size:=λz=>by rw[z,HgoneN]at I;cases I
  rw[D k oe]at I;have o:k≠0:=λz=>by rw[z,m.m0]at I;cases I
  rw[gat k o l];exact m.quit k q d oe I
 .by_cases o:k=0
  .subst o;rw[gat0]at hy;cases hy;have O:H.g 0=g':=by rw[<-v];exact jfs _ L _ _
   rw[Hpk0,O];rfl
  by_cases l:k=gs.size
  .subst l;rw[gatN]at hy;cases hy;have O:H.g gs.size=child:=by rw[<-v];exact jgg _ _ _
   rw[HpkN,O];rfl
  rw[gat k o l]at hy;have p:k<gs.size:=(mw.1 hy).1;have O:H.g k=h.g k:=by rw[<-v];exact jfr _ _ _ o l
  rw[Hpkk k o l,Q k o l,O];rw[D k p]at B;exact m.sit k y hy B
 .rw[gsz];refine⟨λk k' b q1 Z=>m.apart.one k k' b (ho k b q1) (ho k' b Z),λk k' b q1 Z=>?_,λk b q=>m.apart.lo k b (ho k b q),λk b q=>?_⟩
  .obtain⟨k2,C⟩:=hrd2 k' b Z;exact m.apart.two k k2 b (ho k b q1) C
  obtain⟨k2,C⟩:=hrd2 k b q;exact m.apart.lr k2 b C
 .rw[gsz];rw[U]at hG';cases hG';refine⟨by rw[M];exact f1,by rw[M,U];have:=g.size;rw[R]at this;simp only[Ph.spawned]at this ⊢;omega,λk h0 p=>by rw[D k (by rw[M]at p;omega)];exact g.old k h0 (M▸p),g.W,g.ne,λb hb k=>⟨λq=>(g.free b hb k).1 (ho k b q),λq=>by obtain⟨k2,C⟩:=hrd2 k b q;exact(g.free b hb k2).2 C⟩,λk J p B=>?_,?_,λk q J p B hj=>?_,λk k' q J p B hj hf' hk' hl' hj'=>?_,?_,λ_ k J p=>?_,?_,λq=>(by rw[Hpk0]at q;omega),λ_ _ _ _ _=>by rw[U];rfl,λq a ha hm hb=>?_,λq a ha hm hb=>?_,λk J p K=>?_⟩
  .by_cases l:k=gs.size
   .subst l;rw[S,<-T];exact⟨rfl,rfl⟩
   rw[M]at J;rw[Q k oe l];rw[D k oe]at B;exact g.kid k J oe B
  .obtain⟨cs,h1,_⟩:=g.told;exact⟨cs,h1,λq I=>by rw[U]at I;exact absurd I (Nat.not_lt_zero _)⟩
  .exfalso;by_cases l:k=gs.size
   .subst l;rw[S,<-T]at hj;cases hj
   rw[M]at J;rw[Q k oe l]at hj;rw[D k oe]at B;have:=(g.job k q J oe B hj).1;rw[R]at this;exact absurd this (Nat.not_lt_zero _)
  .exfalso;by_cases l:k=gs.size
   .subst l;rw[S,<-T]at hj;cases hj
   rw[M]at J;rw[Q k oe l]at hj;rw[D k oe]at B;have:=(g.job k q J oe B hj).1;rw[R]at this;exact absurd this (Nat.not_lt_zero _)
  .obtain⟨s,r,hC⟩:=g.chan;rw[R]at hC;exact⟨s,r,by rw[U];exact hC⟩
  .by_cases l:k=gs.size
   .subst l;rw[S,<-T];exact⟨HgoneN,.inl rfl⟩
   rw[M]at J;rw[Q k oe l,D k oe];exact opn k J oe
  .obtain⟨a,b⟩:=g.wg.plain (by rw[R];rfl);refine WgS.of_plain (by rw[U];rfl) ?_ λk J p B G1 i1=>?_
   .rw[liveH,U];rw[R]at a;exact a
   by_cases l:k=gs.size
   .subst l;rw[S,<-T];exact λq=>oA
   rw[M]at J;rw[Q k oe l];rw[D k oe]at B;exact b k J oe B G1 i1
  .obtain⟨I,ha'⟩:=old ha;obtain hE|⟨_,_,mm,_,h4,_⟩:=g.tt q a ha' hm hb
   .exact .inl (early hE)
   rw[R]at h4;exact absurd h4 (Nat.not_lt_zero _)
  .obtain⟨I,ha'⟩:=old ha;rw[g?_old I];exact(g.tw q a ha' hm hb).imp early id
  exfalso;by_cases l:k=gs.size
  .subst l;obtain K|K:=K
   .rw[HgoneN]at K;cases K
   rw[S,<-T]at K;cases K
  rw[M]at J;obtain⟨a,b⟩:=opn k J oe;obtain K|K:=K
  .rw[D k oe,a]at K;cases K
  rw[Q k oe l]at K;obtain b|⟨q,b⟩:=b<;>rw[b]at K<;>cases K
 .rw[gsz];refine TT.turn (mC _) (mC _) (λk b q=>.inl (ho k b q)) λk b q=>?_;obtain⟨_,a⟩|⟨rfl,a⟩:=hrd k b q
  .exact .inl a
  refine .inr λq a' ha hm hb hw=>?_;obtain⟨I,ha'⟩:=old ha;exact fk (m.ti.rd 0 q a' ha' hm (hb▸a) hw)
 .rw[gsz]at p;rw[dfr];by_cases o:k=0
  .subst o;rw[d0,D 0 L,m.m0,U];rfl
  by_cases l:k=gs.size
  .subst l;rw[dN,HgoneN,S,<-T];rfl
  rw[D k oe,Q k o l];exact m.deaf k oe
 .rw[M]at p;refine jfd (u:=#[X,Y]) m.hand (λF V=>.inr (.inr (memU F V))) k q h0 p I hcnt
 unfold Gh.mu;refine .left _ _ ?_;have e1:H.r 0=f γ0 g' w:=by rw[<-v];exact jfs _ L _ _
 rw[e1];exact zp hr
end
section
variable {E:Env} {h H:Gh} {r':Rk} {G:Grp} {f:Gam->Gn->Wl->Rk}
def WgS.congr2 (s:WgS E h n w G) (l:H.first=h.first) (J:(H.y 0).ph=(h.y 0).ph) (K:∀k,k<n->h.first<=k->((H.gone k).isNone&&(H.y k).ph.alive)=((h.gone k).isNone&&(h.y k).ph.alive)) (p:∀k,k<n->h.first<=k->∀G i,(H.gone k=none/\(H.y k).ph=.last G i)↔(h.gone k=none/\(h.y k).ph=.last G i)) (L:h.pk 0=0->H.pk 0=0) (M:w'.heap[G.Wg]?=w.heap[G.Wg]?):WgS E H n w' G:=by
 have e:H.live n=h.live n:=jf0 l K;have m:zb h n->zb H n:=λa k z A e G i q=>by
  obtain⟨b,c⟩:=(p k A (l▸z) G i).1 ⟨e,q⟩;exact a k (l▸z) A b G i c
 have g:∀B C,WgQ E G.Wg w B C->WgQ E G.Wg w' B C:=λ_ _ a=>M.trans a;unfold WgS at s ⊢;rw[J];split at s
 .obtain⟨v,o,r,y⟩|⟨o,k,j,D,Z,N,O,Q,R,S,T⟩|⟨o,r,y,U⟩:=s
  .exact .inl ⟨v,e.trans o,g _ _ r,m y⟩
  .obtain⟨V,W⟩:=(p k Z D G j).2 ⟨N,O⟩;refine .inr (.inl ⟨e.trans o,k,j,l.symm▸D,Z,V,W,λa=>g _ _ (Q a),λa=>g _ _ (R a),S,λF G' I a b c d=>?_⟩);obtain⟨X,Y⟩:=(p F b (l▸a) G' I).1 ⟨c,d⟩;exact T F G' I (l▸a) b X Y
  exact .inr (.inr ⟨e.trans o,g _ _ r,m y,L U⟩)
 .exact⟨e.trans s.1,g _ _ s.2.1,m s.2.2⟩
 .exact⟨e.trans s.1,g _ _ s.2.1,m s.2.2⟩
 .exact⟨e.trans s.1,g _ _ s.2.1,m s.2.2⟩
 rw[e];exact⟨g _ _ s.1,m s.2⟩
def Ph.off:Ph->Bool
 |.work _|.job _ _=>false
 |_=>true
def GO.closed_of (g:GO E h n w t G) (b:i<n) (c:h.first<=i) (a:(h.y i).ph.off=true):(h.y 0).ph.closed=true:=by
 cases e:(h.y 0).ph.closed with
 |true=>rfl
 |false=>
  rcases(g.opn e i c b).2 with q|⟨j,q⟩<;>rw[q]at a<;>cases a
def GO.kidPh (g:GO E h n w t G) (Y:h.gone 0=none) (Z:0<n) (K:i<n) (L:h.first<=i) (M:h.gone i=none) {ph':Ph} (z:(h.y i).ph.off=true) (A:go'=none->ph'.kid=true/\ph'.grp=some G/\ph'.off=true) (I:jlp h n i pf) (c:Chg (·=G.Wg) w w')
 (N:WgS E (h.turn i ((h.y i).to ph') g' r' go' pf) n w' G) (O:∀l∈u,l.g=i) (Q:∀b,(b=G.T\/b=G.C\/b=G.Wg)->∀k,¬(h.turn i ((h.y i).to ph') g' r' go' pf).own n k b/\¬(h.turn i ((h.y i).to ph') g' r' go' pf).rd n k b)
 (R:∀l∈u,∀a,l.act.touch?=some a->a.loc.isMemory=true->blk a.loc≠G.T/\((blk a.loc=G.Wg\/blk a.loc=G.C)->a.kind=.atomic\/(a.kind=.said/\l.g=0)))
 (hrel:(go'.isSome=true\/ph'.said=true)->∃r,Go.ConcN.RelBy (stQ G.Wg) (t++u) i r):GO E (h.turn i ((h.y i).to ph') g' r' go' pf) n w' (t++u) G:=by
 have J:=g.closed_of K L z;have S:(0:Nat)≠i:=by have:=g.f1;omega
 have B:((h.turn i ((h.y i).to ph') g' r' go' pf).y 0)=h.y 0:=jl _ _ S;have gk:∀k,k≠i->((h.turn i ((h.y i).to ph') g' r' go' pf).y k)=h.y k:=λk d=>jl _ _ d;have m:∀k,k≠i->(h.turn i ((h.y i).to ph') g' r' go' pf).gone k=h.gone k:=λk d=>jl _ _ d
 have D:((h.turn i ((h.y i).to ph') g' r' go' pf).y i).ph=ph':=by show (j8 h.y i _ i).ph=ph';rw[ya];rfl
 have F:(h.turn i ((h.y i).to ph') g' r' go' pf).gone i=go':=ya _ _ _;obtain⟨cs,U,_⟩:=g.told;obtain⟨s,r,V⟩:=g.chan;refine g.core rfl (by rw[B]) (by rw[B]) (by rw[B]) (λk d=>?_) (λk o d j=>?_) (λk mm o d=>?_) (λp=>by rw[J]at p;cases p) Q
  (c.out _ (mw.1 U.1).1 g.ne.2.1) (c.out _ (mw.1 V).1 g.ne.2.2) N (λ_ p=>by rw[J]at p;cases p) (λk o d j v=>?_) R λk o d y=>?_
 .by_cases e:k=i
  .subst e;rw[M]at d;cases d
  rw[m k e];exact d
 .by_cases e:k=i
  .subst e;rw[F]at j;rw[D];exact⟨(A j).1,(A j).2.1⟩
  rw[gk k e];rw[m k e]at j;exact g.kid k o d j
 .by_cases e:k=i
  .subst e;rw[D,F];refine⟨λq=>?_,λq=>?_⟩
   .have:=(A q.1).2.2;rw[q.2]at this;cases this
   rw[q.2]at z;cases z
  rw[gk k e,m k e]
 .have v:pf k=1:=v;by_cases e:k=i
  .rw[e,I.1]at v;omega
  rw[m k e]at j;refine⟨j,?_⟩;obtain a|⟨a,_⟩:=I.2 k e d j
  .rw[<-a];exact v
  exact a
 by_cases e:k=i
 .subst e;rw[F,D]at y;exact hrel y
 rw[m k e,gk k e]at y;obtain⟨r,W⟩:=g.rel k o d y;exact⟨r,z5 W λl X=>.inl (by rw[O l X];exact λq=>e q.symm)⟩
def MI.kidQ (m:MI P E Post h gs w t) (z:gs[i]?=some x) (A:0<i) (j:h.gone i=none) (L:x.status=.running) (M:(h.y i).ph.grp=some G) (B:(h.y i).ph.off=true) (N:stepG P false (h.g i) w=.go g' w' es) (O:∀e∈es,EvQ G.Wg false e) (c:Chg (·=G.Wg) w w') (Q:w'.heap.size=w.heap.size) (R:WgL E G.Wg w') (hdn:(h.y 0).ph.wt=true->jp5 E G.Wg w w')
 {ph':Ph} (S:deafBehind (h.y i).ph.deafs es=match go' with|none=>ph'.deafs|some (_,d)=>d) (T:go'=none->ph'.kid=true/\ph'.grp=some G/\ph'.off=true) (U:go'=none->Tr P E Post false r' ((h.y i).to ph') g' w') (V:h.r i=.s f) (W:go'=none->Rk.Lt r' (h.r i)) (X:∀q d,go'=some (q,d)->QuitsD P q d g')
 (Y:GO E h gs.size w t G->h.first<=i->∀pf,jlp h gs.size i pf->((mayWake P x&&g'.status !=.blocked&&g'.status !=.waiting)=true->(∃G,(h.y 0).ph=.sema G)->pf 0=0)->WgS E (h.turn i ((h.y i).to ph') g' r' go' pf) gs.size w' G)
 (hrel:GO E h gs.size w t G->h.first<=i->(go'.isSome=true\/ph'.said=true)->∀fn pos,∃r,Go.ConcN.RelBy (stQ G.Wg) (t++MemOp.ofEvents i fn pos es) i r):yv P E Post h gs w t sl i:=by
 have p:i<gs.size:=(mw.1 z).1;obtain⟨G1,v,g,o,_,C⟩:=m.lives p A j;rw[M]at C;cases C;have y:(i==0)=false:=ou;have D:(0:Nat)≠i:=oe;obtain⟨s,r,Z⟩:=g.chan;have lC:=(mw.1 Z).1;have aa:=g.closed_of p o B;obtain⟨_,ab,h',gs',a,_,b,d⟩:=m.stepGo (sl:=sl) (hdn:=λ_ hw G1 l=>by rw[v]at l;cases l;exact hdn hw) z j L (by rw[y];exact N) c (λk _ F j b hb=>by subst hb;exact⟨λq=>(g.free _ (.inr (.inr rfl)) k).1 ⟨F,j,q⟩,λq=>(g.free _ (.inr (.inr rfl)) k).2 ⟨F,j,q⟩⟩)
  (λG1 l _=>by rw[v]at l;cases l;exact R) (λG1 l I=>by rw[aa]at I;cases I) (γ':=(h.y i).to ph') (r':=r') (go':=go') h.first (λq=>by rw[y];exact U q) W (λq d e=>⟨A,X q d e⟩) ⟨f,V⟩
  λpf J _ hsem=>by
   show MR E (h.turn i ((h.y i).to ph') g' r' go' pf) gs.size w' _;have K:((h.turn i ((h.y i).to ph') g' r' go' pf).y 0)=h.y 0:=jl _ _ D;exact m.mr.side p j (.inr o) v _ _ (by rw[y];exact O) Q S (by rw[K];exact m.fits) (by rw[K];exact v) λhfree hu=>g.kidPh m.m0 m.n0 p o j B T J c (Y g o pf J λa b=>hsem a D b) (λop hop=>(j9 hop).1) hfree hu λq=>hrel g o q _ _
 exact⟨ab,h',gs',w',a,b,d⟩
def GO.lastAt (g:GO E h n w t G) (m:h.first<=i) (o:i<n) (p:h.gone i=none) {j:Nat} (c:(h.y i).ph=.last G j):(∃L,(h.y 0).ph=.sema L)/\h.live n=0/\(j<=1->WgQ E G.Wg w 1 0)/\(j=2->WgQ E G.Wg w 0 0)/\∀b L z,h.first<=b->b<n->h.gone b=none->(h.y b).ph=.last L z->b=i:=by
 have s:=g.wg;have a:zb h n->False:=λq=>q i m o p G j c;unfold WgS at s;split at s
 .rename_i L e;obtain⟨v,d,A,l⟩|⟨d,k,D,F,M,I,r,B,C,J,y⟩|⟨d,A,l,K⟩:=s
  .exact(a l).elim
  .have:=y i G j m o p c;subst this;rw[c]at r;cases r;exact⟨⟨L,e⟩,d,B,C,y⟩
  exact(a l).elim
 .exact(a s.2.2).elim
 .exact(a s.2.2).elim
 .exact(a s.2.2).elim
 exact(a s.2).elim
def jii {a:Addr} {r:Nat} (R:Go.ConcN.RelBy a t i r) (c:Deaf t i=1) (fn:Fi) (pos:String) (d:∀k (b:k<es.size),(MemAct.ofEvent es[k]).touch?=none\/(es[k].sync=true/\(∃a,es[k].loc=.cell a)/\0<deafBehind 1 (es.extract 0 k))):∃r,Go.ConcN.RelBy a (t++MemOp.ofEvents i fn pos es) i r:=
 ⟨r,R.app (jqn fn pos λk b=>by rw[c];exact d k b)⟩
def WgS.kidSame (s:WgS E h n w G) (d:0≠i) (m:0<n) (o:h.gone 0=none) (p:h.gone i=none) {F:Ph} (r:(h.y i).ph.alive=F.alive) (v:∀G j,(h.y i).ph≠.last G j) (y:∀G j,F≠.last G j) (z:jlp h n i pf) (A:w'.heap[G.Wg]?=w.heap[G.Wg]?):WgS E (h.turn i ((h.y i).to F) g' r' none pf) n w' G:=by
 have B:((h.turn i ((h.y i).to F) g' r' none pf).y 0)=h.y 0:=jl _ _ d;have gk:∀k,k≠i->((h.turn i ((h.y i).to F) g' r' none pf).y k)=h.y k:=λk c=>jl _ _ c
 have g:((h.turn i ((h.y i).to F) g' r' none pf).y i).ph=F:=by show (j8 h.y i _ i).ph=F;rw[ya];rfl
 have l:∀k,(h.turn i ((h.y i).to F) g' r' none pf).gone k=h.gone k:=z4 p;refine s.congr2 rfl (by rw[B]) (λk c C=>?_) (λk c C G j=>?_) (λD=>?_) A
 .rw[l];by_cases e:k=i
  .subst e;rw[g,r]
  rw[gk k e]
 .rw[l];by_cases e:k=i
  .subst e;rw[g];exact⟨λq=>absurd q.2 (y G j),λq=>absurd q.2 (v G j)⟩
  rw[gk k e]
 show pf 0=0;obtain a|⟨a,b,_⟩:=z.2 0 d m o
 .rw[a];exact D
 exact b rfl
section
def MI.deaf0 (m:MI P E Post h gs w t) (a:gs[i]?=some x) (e:0<i) (b:h.gone i=none) (g:x.status=.running) (j:h.r i=.s f) {d:Nat} (c:(h.y i).ph.deafs=d):Deaf t i=d:=by rw[m.deaf i (mw.1 a).1,b];exact c
def MI.rel (m:MI P E Post h gs w t) (c:gs[i]?=some x) (l:0<i) (b:h.gone i=none) (p:x.status=.running) (o:h.r i=.s f) (a:(h.y i).ph=.drained G) (A:stepG P false (h.g i) w=.go g' w #[evM (.releaseMerge (stQ G.Wg))]) (k:Tr P E Post false (f ((h.y i).to (.rel G)) g' w) ((h.y i).to (.rel G)) g' w):yv P E Post h gs w t sl i:=by
 have B:i<gs.size:=(mw.1 c).1;obtain⟨N,K,C,v,_,y⟩:=m.lives B l b;rw[a]at y;cases y;refine m.kidQ (hdn:=λ_=>.same rfl) c l b p oB oB A (jgm (.inr (.inr (.inr ⟨_,rfl⟩)))) (Chg.same _ _) rfl C.wgl (ph':=.rel G) (go':=none) oB (λ_=>⟨rfl,rfl,rfl⟩) (λ_=>k) o (λ_=>zp o) (λq d e=>oJ) (λg v pf D _=>g.wg.kidSame oe m.n0 m.m0 b oB (λG j q=>by rw[a]at q;cases q) (λG j q=>oA) D rfl) λg v _ fn pos=>?_;have F:Deaf t i=0:=m.deaf0 c l b p o oB
 have I:MemOp.ofEvents i fn pos #[evM (.releaseMerge (stQ G.Wg))]=#[{g:=i,fn,pos,act:=.mark (.releaseMerge (stQ G.Wg))}]:=by rw[ofEvents_eq];simp[evM,MemAct.ofEvent]
 have J:(t++#[({g:=i,fn,pos,act:=.mark (.releaseMerge (stQ G.Wg))}:MemOp)])[t.size]?=some {g:=i,fn,pos,act:=.mark (.releaseMerge (stQ G.Wg))}:=oi;rw[I];refine⟨t.size,by rw[act?_of J],by simp[Trace.g?],⟨i,by simp[Trace.g?],by rw[deaf_old (mC _)];exact F⟩,λj L z=>?_⟩;simp only[Trace.g?,Option.map_eq_some_iff]at z;obtain⟨M,e,_⟩:=z;have:=lt_size_of_getElem? e;simp at this;omega
def MI.disD (m:MI P E Post h gs w t) (l:gs[i]?=some x) (o:0<i) (b:h.gone i=none) (A:x.status=.running) (p:h.r i=.s f) (a:(h.y i).ph=.rel G) (B:stepG P false (h.g i) w=.go g' w #[evM .disable]) (k:Tr P E Post false (f ((h.y i).to (.deaf G)) g' w) ((h.y i).to (.deaf G)) g' w):yv P E Post h gs w t sl i:=by
 have v:i<gs.size:=(mw.1 l).1;obtain⟨L,J,C,c,_,y⟩:=m.lives v o b;rw[a]at y;cases y;refine m.kidQ (hdn:=λ_=>.same rfl) l o b A oB oB B (jgm (.inl rfl)) (Chg.same _ _) rfl C.wgl (ph':=.deaf G) (go':=none) oB (λ_=>⟨rfl,rfl,rfl⟩) (λ_=>k) p (λ_=>zp p) (λq d e=>oJ) (λg c pf D _=>g.wg.kidSame oe m.n0 m.m0 b oB (λG j q=>by rw[a]at q;cases q) (λG j q=>oA) D rfl) λg c _ fn pos=>?_;obtain⟨r,R⟩:=g.rel i c v (.inr oB)
 exact⟨r,z5 R λK F=>.inr (by
  obtain⟨_,e,z,I⟩:=j9 F;simp at z;subst z;rw[I];rfl)⟩
end
variable {γ':Gam}
def jkf (d:i<n) (e:h.first<=i) (g:h.gone i=none) (j:(h.y i).ph.alive=true) (l:(go'.isNone&&γ'.ph.alive)=false):(h.turn i γ' g' r' go' pf).live n+1=h.live n:=by
 unfold Gh.live;refine jn5 d ?_ ?_ λk c=>?_
 .simp[e,g,j]
 .have a:(h.turn i γ' g' r' go' pf).gone i=go':=ya _ _ _;have b:(h.turn i γ' g' r' go' pf).y i=γ':=ya _ _ _;rw[a,b,Bool.and_assoc,l,Bool.and_false]
 have a:(h.turn i γ' g' r' go' pf).gone k=h.gone k:=jl _ _ c;have b:(h.turn i γ' g' r' go' pf).y k=h.y k:=jl _ _ c;rw[a,b];rfl
def jhh (g:h.gone i=none) (c:(h.y i).ph.alive=false) (d:(go'.isNone&&γ'.ph.alive)=false):(h.turn i γ' g' r' go' pf).live n=h.live n:=by
 refine jf0 rfl λk j l=>?_;by_cases e:k=i
 .subst e;have a:(h.turn k γ' g' r' go' pf).gone k=go':=ya _ _ _;have b:(h.turn k γ' g' r' go' pf).y k=γ':=ya _ _ _;rw[a,b,c,d,Bool.and_false]
 have a:(h.turn i γ' g' r' go' pf).gone k=h.gone k:=jl _ _ e;have b:(h.turn i γ' g' r' go' pf).y k=h.y k:=jl _ _ e;rw[a,b]
def jiw (g:∀a r l,h.first<=a->a<n->h.gone a=none->(h.y a).ph=.last r l->a=i) (m:go'=none->∀G j,γ'.ph≠.last G j):zb (h.turn i γ' g' r' go' pf) n:=λk o p b G j q=>by
 by_cases e:k=i
 .subst e;have c:(h.turn k γ' g' r' go' pf).gone k=go':=ya _ _ _;have d:(h.turn k γ' g' r' go' pf).y k=γ':=ya _ _ _;rw[c]at b;rw[d]at q;exact m b G j q
 have c:(h.turn i γ' g' r' go' pf).gone k=h.gone k:=jl _ _ e;have d:(h.turn i γ' g' r' go' pf).y k=h.y k:=jl _ _ e;rw[c]at b;rw[d]at q;exact e (g k G j o p b q)
def jj4 {b:Nat}:(∀k (c:k<#[evR (stQ b),evW (stQ b)].size),(MemAct.ofEvent #[evR (stQ b),evW (stQ b)][k]).touch?=none\/(#[evR (stQ b),evW (stQ b)][k].sync=true/\(∃a,#[evR (stQ b),evW (stQ b)][k].loc=.cell a)/\0<deafBehind 1 (#[evR (stQ b),evW (stQ b)].extract 0 k)))/\
 (∀k (c:k<#[evR (stQ b)].size),(MemAct.ofEvent #[evR (stQ b)][k]).touch?=none\/(#[evR (stQ b)][k].sync=true/\(∃a,#[evR (stQ b)][k].loc=.cell a)/\0<deafBehind 1 (#[evR (stQ b)].extract 0 k)))/\
 (∀k (c:k<#[evW (stQ b)].size),(MemAct.ofEvent #[evW (stQ b)][k]).touch?=none\/(#[evW (stQ b)][k].sync=true/\(∃a,#[evW (stQ b)][k].loc=.cell a)/\0<deafBehind 1 (#[evW (stQ b)].extract 0 k)))/\
 (∀k (c:k<(semEvents (smQ b)).size),(MemAct.ofEvent (semEvents (smQ b))[k]).touch?=none\/((semEvents (smQ b))[k].sync=true/\(∃a,(semEvents (smQ b))[k].loc=.cell a)/\0<deafBehind 1 ((semEvents (smQ b)).extract 0 k))):=by
 refine⟨λk c=>?_,λk c=>?_,λk c=>?_,λk c=>?_⟩
 .match k,c with
  |0,_=>exact .inr ⟨rfl,⟨_,rfl⟩,mC 1⟩
  |1,_=>exact .inr ⟨rfl,⟨_,rfl⟩,mC 1⟩
 .match k,c with
  |0,_=>exact .inr ⟨rfl,⟨_,rfl⟩,mC 1⟩
 .match k,c with
  |0,_=>exact .inr ⟨rfl,⟨_,rfl⟩,mC 1⟩
 match k,c with
 |0,_=>exact .inl rfl
 |1,_=>exact .inr ⟨rfl,⟨_,rfl⟩,(by decide:0<2)⟩
 |2,_=>exact .inr ⟨rfl,⟨_,rfl⟩,(by decide:0<2)⟩
 |3,_=>exact .inl rfl
end
section
variable {E:Env} {h H:Gh} {r':Rk} {G:Grp} {f:Gam->Gn->Wl->Rk}
variable {G':Grp}
def WgS.sema_iff (e:(H.y 0).ph=.sema G'):WgS E H n w G↔((∃v,H.live n=v+1/\WgQ E G.Wg w ((v+1:Nat)*KQ+1) 0/\zb H n)\/
 (H.live n=0/\∃k i,H.first<=k/\k<n/\H.gone k=none/\(H.y k).ph=.last G i/\(i<=1->WgQ E G.Wg w 1 0)/\(i=2->WgQ E G.Wg w 0 0)/\i<=2/\∀a G' b,H.first<=a->a<n->H.gone a=none->(H.y a).ph=.last G' b->a=k)\/
 (H.live n=0/\WgQ E G.Wg w 0 1/\zb H n/\H.pk 0=0)):=by
 unfold WgS;rw[e]
def WgS.lastK (g:GO E h n w t G) (o:i<n) (p:h.first<=i) (q:0≠i) (e:(h.y 0).ph=.sema G') {j:Nat} (r:j<=2) (s:(h.turn i ((h.y i).to (.last G j)) g' r' none pf).live n=0) (v:∀k G' l,h.first<=k->k<n->h.gone k=none->(h.y k).ph=.last G' l->k=i) (y:j<=1->WgQ E G.Wg w' 1 0) (z:j=2->WgQ E G.Wg w' 0 0):WgS E (h.turn i ((h.y i).to (.last G j)) g' r' none pf) n w' G:=by
 have A:((h.turn i ((h.y i).to (.last G j)) g' r' none pf).y 0)=h.y 0:=jl _ _ q;have B:((h.turn i ((h.y i).to (.last G j)) g' r' none pf).y i).ph=.last G j:=by show (j8 h.y i _ i).ph=_;rw[ya];rfl
 have C:(h.turn i ((h.y i).to (.last G j)) g' r' none pf).gone i=none:=ya _ _ _;refine(WgS.sema_iff (by rw[A];exact e)).2 (.inr (.inl ⟨s,i,j,p,o,C,B,y,z,r,λk G' l a b c d=>?_⟩));by_cases m:k=i
 .exact m
 have D:(h.turn i ((h.y i).to (.last G j)) g' r' none pf).gone k=h.gone k:=jl _ _ m;have F:(h.turn i ((h.y i).to (.last G j)) g' r' none pf).y k=h.y k:=jl _ _ m;rw[D]at c;rw[F]at d;exact v k G' l a b c d
section
def MI.addD (m:MI P E Post h gs w t) (F:gs[i]?=some x) (I:0<i) (A:h.gone i=none) (N:x.status=.running) (J:h.r i=.s f) (l:(h.y i).ph=.deaf G) (k:∀v j:Nat,j<=1->v<G.W->WgQ E G.Wg w ((v+1:Nat)*KQ+j) 0->∃g',stepG P false (h.g i) w=.go g' (w.setCell (stQ G.Wg) (.int .u64 (v*KQ+j))) #[evR (stQ G.Wg),evW (stQ G.Wg)]/\g'.status=.running/\
 ((v=0/\j=1)->Tr P E Post false (f ((h.y i).to (.last G 0)) g' (w.setCell (stQ G.Wg) (.int .u64 (v*KQ+j)))) ((h.y i).to (.last G 0)) g' (w.setCell (stQ G.Wg) (.int .u64 (v*KQ+j))))/\(¬(v=0/\j=1)->∃q,QuitsD P q 1 g')):yv P E Post h gs w t sl i:=by
 have B:i<gs.size:=(mw.1 F).1;obtain⟨G1,hG0,g,y,_,X⟩:=m.lives B I A;rw[l]at X;cases X;have hpos:0<h.live gs.size:=by
  cases e:h.live gs.size with
  |succ=>omega
  |zero=>
   have:=jne e i B;rw[l]at this;simp[y,A,Ph.alive]at this
 have hW:=g.live_W hG0 m.fits;have hd:Deaf t i=1:=m.deaf0 F I A N J (by rw[l];rfl);have rel:∀fn pos,∃r,Go.ConcN.RelBy (stQ G.Wg) (t++MemOp.ofEvents i fn pos #[evR (stQ G.Wg),evW (stQ G.Wg)]) i r:=λfn pos=>by
  obtain⟨r,R⟩:=g.rel i y B (.inr (by rw[l];rfl));exact jii R hd fn pos jj4.1
 obtain⟨v,hv⟩:∃v,h.live gs.size=v+1:=⟨h.live gs.size-1,oe⟩;have Y:∀j:Nat,j<=1->¬(v=0/\j=1)->WgQ E G.Wg w ((v+1:Nat)*KQ+j) 0->zb h gs.size->(∀H:Gh,(H.y 0)=h.y 0->H.live gs.size=v->zb H gs.size->WgQ E G.Wg (w.setCell (stQ G.Wg) (.int .u64 (v*KQ+j))) (v*KQ+j) 0->WgS E H gs.size (w.setCell (stQ G.Wg) (.int .u64 (v*KQ+j))) G)->yv P E Post h gs w t sl i:=λj hwt hn o C hS=>by
  obtain⟨g',O,_,_,Q⟩:=k v j hwt oe o;obtain⟨q,Q⟩:=Q hn;have p:=setSt (x:=v*KQ+j) o;refine m.kidQ (hdn:=λ_ u K=>by
   have e:(u:Int)*KQ=(v+1:Nat)*KQ+j:=by
        unfold WgQ at K o;rw[o]at K;simp at K;exact K.symm
   have:j=0/\u=v+1:=by simp only[KQ]at e;omega
   obtain⟨rfl,rfl⟩:=this;exact⟨v,oe,by simpa using p⟩) F I A N (by rw[l];rfl) (by rw[l];rfl) O jft.1 (Chg.cell rfl) (y5 _ _ _) ⟨_,_,p⟩ (ph':=.deaf G) (go':=some (q,1)) (r':=.z) (by rw[l];rfl) (λe=>oJ) (λe=>oJ) J (λe=>oJ) (λq' d e=>by cases e;exact Q) (λg y pf hpf _=>?_) λ_ _ _ fn pos=>rel fn pos
  refine hS _ (jl _ _ oe) ?_ (jiw (λS G' T a b c d=>absurd d (C S a b c G' T)) λe=>oJ) p;have:=jkf (g':=g') (r':=.z) (pf:=pf) (go':=some (q,1)) (γ':=(h.y i).to (.deaf G)) B y A (by rw[l];rfl) rfl;omega
 have Z:=g.closed_of B y (by rw[l];rfl);by_cases L:(h.y 0).ph.plain=true
 .obtain⟨o,C⟩:=g.wg.plain L;have aa:(h.y 0).ph.more=0:=by
   cases e:(h.y 0).ph<;>rw[e]at Z<;>first|rfl|cases Z
  rw[aa,hv]at o;refine Y 0 oe oe (by simpa using o) C λH M e2 U p=>WgS.of_plain (by rw[M];exact L) ?_ U;rw[M,e2,aa];simpa using p
 have s:=g.wg;cases e:(h.y 0).ph with
 |sema G'=>
  rcases(WgS.sema_iff e).1 s with ⟨D,h1,o,C⟩|⟨h1,_⟩|⟨h1,_⟩
  .have:D=v:=oe;subst this;by_cases hv0:D=0
   .subst hv0;obtain⟨g',O,_,V,_⟩:=k 0 1 oe oe o;have V:=V ⟨rfl,rfl⟩;have p:=setSt (x:=(0:Nat)*KQ+(1:Nat)) o;refine m.kidQ (hdn:=λq=>by rw[e]at q;cases q) F I A N (by rw[l];rfl) (by rw[l];rfl) O jft.1 (Chg.cell rfl) (y5 _ _ _) ⟨_,_,p⟩ (ph':=.last G 0) (go':=none) (by rw[l];rfl) (λ_=>⟨rfl,rfl,rfl⟩) (λ_=>V) J (λ_=>zp J) (λq' d e=>oJ) (λg y pf hpf _=>?_) λ_ _ _ fn pos=>rel fn pos;refine WgS.lastK g B y oe e oe ?_ (λS G' T a b c d=>absurd d (C S a b c G' T)) (λ_=>by simpa using p) (λq=>oe);have:=jkf (g':=g') (r':=f ((h.y i).to (.last G 0)) g' (w.setCell (stQ G.Wg) (.int .u64 ((0:Nat)*KQ+(1:Nat))))) (pf:=pf) (go':=none) (γ':=(h.y i).to (.last G 0)) B y A (by rw[l];rfl) rfl;omega
   refine Y 1 oe oe o C λH M e2 U p=>(WgS.sema_iff (by rw[M];exact e)).2 (.inl ⟨D-1,oe,?_,U⟩);rw[show D-1+1=D by omega];exact p
  .omega
  omega
 |sem4 G'=>have:=(s.last (.inl e)).1;omega
 |over G'=>have:=(s.last (.inr (.inl e))).1;omega
 |heard G'=>have:=(s.last (.inr (.inr e))).1;omega
 |_=>rw[e]at L;exact absurd rfl L
def MI.last0 (m:MI P E Post h gs w t) (o:gs[i]?=some x) (p:0<i) (b:h.gone i=none) (y:x.status=.running) (v:h.r i=.s f) (a:(h.y i).ph=.last G 0) (k:WgQ E G.Wg w 1 0->∃g',stepG P false (h.g i) w=.go g' w #[evR (stQ G.Wg)]/\g'.status=.running/\Tr P E Post false (f ((h.y i).to (.last G 1)) g' w) ((h.y i).to (.last G 1)) g' w):yv P E Post h gs w t sl i:=by
 have l:i<gs.size:=(mw.1 o).1;obtain⟨L,I,g,c,_,z⟩:=m.lives l p b;rw[a]at z;cases z;obtain⟨⟨G',e⟩,A,j,_,B⟩:=g.lastAt c l b a;have j:=j oe;obtain⟨g',C,_,D⟩:=k j;have F:Deaf t i=1:=m.deaf0 o p b y v oB;refine m.kidQ (hdn:=λq=>by rw[e]at q;cases q) o p b y oB oB C jft.2.1 (Chg.same _ _) rfl ⟨_,_,j⟩ (ph':=.last G 1) (go':=none) oB (λ_=>⟨rfl,rfl,rfl⟩) (λ_=>D) v (λ_=>zp v) (λJ d e=>oJ) (λg c pf K _=>WgS.lastK g l c oe e oe ?_ B (λ_=>j) (λq=>oe)) λg c _ fn pos=>?_
 .rw[jhh b oB rfl];exact A
 obtain⟨r,R⟩:=g.rel i c l (.inr oB);exact jii R F fn pos jj4.2.1
def MI.last1 (m:MI P E Post h gs w t) (o:gs[i]?=some x) (p:0<i) (b:h.gone i=none) (y:x.status=.running) (v:h.r i=.s f) (a:(h.y i).ph=.last G 1) (k:WgQ E G.Wg w 1 0->∃g',stepG P false (h.g i) w=.go g' (w.setCell (stQ G.Wg) (.int .u64 0)) #[evW (stQ G.Wg)]/\g'.status=.running/\Tr P E Post false (f ((h.y i).to (.last G 2)) g' (w.setCell (stQ G.Wg) (.int .u64 0))) ((h.y i).to (.last G 2)) g' (w.setCell (stQ G.Wg) (.int .u64 0))):yv P E Post h gs w t sl i:=by
 have j:i<gs.size:=(mw.1 o).1;obtain⟨M,J,g,c,_,z⟩:=m.lives j p b;rw[a]at z;cases z;obtain⟨⟨G',e⟩,B,l,_,C⟩:=g.lastAt c j b a;have l:=l oe;obtain⟨g',D,_,F⟩:=k l;have A:=setSt (x:=0) l;have I:Deaf t i=1:=m.deaf0 o p b y v oB;refine m.kidQ (hdn:=λq=>by rw[e]at q;cases q) o p b y oB oB D jft.2.2.1 (Chg.cell rfl) (y5 _ _ _) ⟨_,_,A⟩ (ph':=.last G 2) (go':=none) oB (λ_=>⟨rfl,rfl,rfl⟩) (λ_=>F) v (λ_=>zp v) (λK d e=>oJ) (λg c pf L _=>WgS.lastK g j c oe e oe ?_ C (λq=>oe) (λq=>A)) λg c _ fn pos=>?_
 .rw[jhh b oB rfl];exact B
 obtain⟨r,R⟩:=g.rel i c j (.inr oB);exact jii R I fn pos jj4.2.2.1
def MI.last2 (m:MI P E Post h gs w t) (l:gs[i]?=some x) (o:0<i) (b:h.gone i=none) (v:x.status=.running) (y:h.r i=.s f) (a:(h.y i).ph=.last G 2) (D:mayWake P x=true) (k:WgQ E G.Wg w 0 0->∃g',stepG P false (h.g i) w=.go g' (w.setCell (smQ G.Wg) (.int .u32 1)) (semEvents (smQ G.Wg))/\∃q,QuitsD P q 1 g'):yv P E Post h gs w t sl i:=by
 have p:i<gs.size:=(mw.1 l).1;obtain⟨T,M,g,c,_,A⟩:=m.lives p o b;rw[a]at A;cases A;obtain⟨⟨G',e⟩,F,_,j,I⟩:=g.lastAt c p b a;have j:=j rfl;obtain⟨g',J,q,B⟩:=k j;have C:=setSm (x:=1) j;have K:Deaf t i=1:=m.deaf0 l o b v y oB;refine m.kidQ (hdn:=λq=>by rw[e]at q;cases q) l o b v oB oB J jft.2.2.2 (Chg.cell rfl) (y5 _ _ _) ⟨_,_,C⟩ (ph':=.last G 2) (go':=some (q,1)) (r':=.z) oB (λe=>oJ) (λe=>oJ) y (λe=>oJ) (λN d e=>by cases e;exact B) (λg c pf O L=>?_) λg c _ fn pos=>?_
 .refine(WgS.sema_iff (by
   show (j8 h.y i _ 0).ph=.sema G';rw[jl _ _ oe];exact e)).2 (.inr (.inr ⟨?_,C,jiw I (λe=>oJ),?_⟩))
  .rw[jhh b oB rfl];exact F
  refine L ?_ ⟨_,e⟩;obtain s|s:=B.status<;>rw[D,s]<;>rfl
 obtain⟨r,R⟩:=g.rel i c p (.inr oB);exact jii R K fn pos jj4.2.2.2
end
end
section
variable {E:Env} {h H:Gh} {r':Rk} {G:Grp} {f:Gam->Gn->Wl->Rk}
def MI.ordS (m:MI P E Post h gs w t) (y:gs[i]?=some x) (c:h.gone i=none) (C:x.status=.running) (D:h.r i=.s f) {T:Array Event} {γ':Gam} (z:stepG P (i==0) (h.g i) w=.go g' w' T) (K:(h.y i).ph.said=true->T=#[]) (j:vc (h.y i) w w' T γ') (k:Tr P E Post (i==0) (f γ' g' w') γ' g' w'):yv P E Post h gs w t sl i:=by
 have l:i<gs.size:=(mw.1 y).1;have A:i=0\/h.first<=i:=by
  by_cases e:i=0
  .exact .inl e
  obtain⟨_,_,_,A,_⟩:=m.lives l oe c;exact .inr A
 have L:=((m.sit i x y c).run (P:=P) C (m.tree i l c).run).1;obtain⟨_,M,N,V,a,_,b,d⟩:=m.stepGo (sl:=sl) (hdn:=λ_ _ G o v p=>⟨v,mC _,(j.out _ (mw.1 p).1 λq=>((m.grp G o).free _ (.inr (.inr rfl)) i).1 ⟨l,c,q⟩).trans p⟩) y c C z (S:=(h.y i).own) ⟨j.size,j.out,j.os,j.output⟩ (λk e F I b J=>⟨λq=>e (m.apart.one k i b ⟨F,I,q⟩ ⟨l,c,J⟩),λq=>m.apart.two i k b ⟨l,c,J⟩ ⟨F,I,q⟩⟩)
  (λG o ⟨z,O,p⟩=>⟨z,O,(j.out _ (mw.1 p).1 λq=>((m.grp G o).free _ (.inr (.inr rfl)) i).1 ⟨l,c,q⟩).trans p⟩)
  (λG o Q=>by
    have g:=m.grp G o;obtain⟨s,r,B⟩:=g.chan;rw[Q]at B;exact⟨_,_,_,_,_,_,(j.out _ (mw.1 B).1 λq=>(g.free _ (.inr (.inl rfl)) i).1 ⟨l,c,q⟩).trans B,λ_=>rfl⟩) (γ':=γ') (r':=f γ' g' w') (go':=none) h.first (λ_=>k) (λ_=>zp D) (λ_ _ e=>oJ) ⟨f,D⟩
  λpf R _ _=>m.mr.ord l c A R L _ _ K j m.m0 m.n0
 exact⟨M,N,V,w',a,b,d⟩
def MI.quitS (m:MI P E Post h gs w t) (W:gs[i]?=some x) {q d:Nat} (C:h.gone i=some (q,d)) (O:x.status=.running):yv P E Post h gs w t sl i:=by
 have X:i<gs.size:=(mw.1 W).1;have h0:0≠i:=λe=>by have:=m.m0;rw[e,C]at this;cases this
 have Y:(i==0)=false:=ou;obtain⟨y,R,Q⟩:=m.quit i q d X C;rw[W]at R;cases R;cases q with
 |zero=>rw[Q.1]at O;cases O
 |succ q=>
 obtain⟨Q,_⟩|⟨_,g',es,hmu,hst,Q⟩:=Q
 .rw[Q]at O;cases O
 have st:stepG P (i==0) x w=.go g' w es:=by rw[Y];exact hst w
 obtain⟨pf,p0,p1,p2,p3,p4,p5⟩:=m.others (w':=w) (i:=i) (x:=x) (g':=g') λk G e l hkl S v T=>by
  have hG0:=m.grpOf l hkl S;have g:=m.grp G hG0;obtain⟨s,r,hC⟩:=g.chan;refine⟨_,_,_,_,_,_,hC,λY=>?_⟩;subst Y;have:=m.sit 0 _ (my m.n0) m.m0;rw[v]at this;obtain⟨h1,_⟩|⟨_,G1,j,L,_⟩|⟨_,G1,L,_⟩:=this
  .omega
  .rw[L];rfl
  exact absurd L (T G1)
 have B:((gs.map (woken P x g' w)).setIfInBounds i g').size=gs.size:=oi;generalize F:({h with gone:=j8 h.gone i (some (q,deafBehind d es)),pk:=pf}:Gh)=H;have p:H.y=h.y:=by rw[<-F]
 have Z:H.g=h.g:=by rw[<-F]
 have Hr:H.r=h.r:=by rw[<-F]
 have U:H.first=h.first:=by rw[<-F]
 have M:H.pk=pf:=by rw[<-F]
 have I:H.gone i=some (q,deafBehind d es):=by rw[<-F];exact ya _ _ _
 have J:∀k,k≠i->H.gone k=h.gone k:=λk e=>by rw[<-F];exact jl _ _ e
 have z:∀k,H.gone k=none↔h.gone k=none:=λk=>by
  by_cases e:k=i
  .subst e;rw[I,C];simp
  rw[J k e]
 have Hs:∀k,(H.gone k).isSome=true↔(h.gone k).isSome=true:=λk=>by
  by_cases e:k=i
  .subst e;rw[I,C];simp
  rw[J k e]
 have own':∀n,H.own n=h.own n:=λn=>by
  funext k b;unfold Gh.own;rw[p,z]
 have rd':∀n,H.rd n=h.rd n:=λn=>by
  funext k b;unfold Gh.rd;rw[p,z]
 have N:∀A∈MemOp.ofEvents i x.frame.fn x.frame.place es,A.g=i/\A.act.touch?=none/\∀a,A.act≠.mark (.release a):=λA D=>by
  obtain⟨a,e,h1,L⟩:=j9 D;rw[L];have:=hmu e h1;obtain⟨loc,wr,sy⟩:=e;unfold Event.mute at this;split at this
  .rename_i e;cases e;exact⟨a,rfl,λa q=>oA⟩
  .rename_i e;cases e;exact⟨a,rfl,λa q=>oA⟩
  cases this
 have pk1:∀k,k<gs.size->h.gone k=none->pf k=1->h.pk k=1:=λk l o v=>by
  by_cases e:k=i
  .subst e;rw[C]at o;cases o
  obtain a|⟨a,_⟩:=p2 k e l o
  .rw[<-a];exact v
  exact a
 refine⟨_,H,_,w,runT_crowd_go W st,⟨by rw[B];exact m.n0,by rw[z];exact m.m0,λk l o=>?_,λk q' d' l V=>?_,λk y R o=>?_,by rw[B,own',rd'];exact m.apart,by rw[p];exact m.fits,λe=>?_,λG S=>?_,?_,λk l=>?_,?_,λk l o v=>by
  rw[B]at l;rw[z]at o;rw[M]at v;rw[p,Z];exact m.comm k l o (pk1 k l o v)⟩,?_⟩
 .rw[B]at l;rw[z]at o;rw[p,Z,Hr];exact m.tree k l o
 .rw[B]at l;by_cases e:k=i
  .subst e;rw[I]at V;cases V;exact⟨g',by rw[mB (by simpa using l)],Q⟩
  rw[J k e]at V;exact p3 k q' d' e l V
 .rw[z]at o;have e:k≠i:=λe=>by rw[e,C]at o;cases o
  rw[p,Z,M];exact p1 k y e R o
 .rw[p]at e;obtain⟨a,b⟩:=m.idle e;rw[U,B];exact⟨a,λk c d=>(Hs k).2 (b k c d)⟩
 .rw[p]at S;rw[B];have g:=m.grp G S;refine g.core U (by rw[p]) (by rw[p]) (by rw[p]) (λk l=>(Hs k).2 l) (λk K l o=>by rw[p];exact g.kid k K l ((z k).1 o)) (λk mm _ _=>by rw[p,z]) (λhc k K l=>⟨(z k).2 (g.opn hc k K l).1,by rw[p]⟩) (λb hb k=>by rw[own',rd'];exact g.free b hb k) rfl rfl
   (g.wg.congr2 U (by rw[p]) (λk _ _=>?_) (λk _ _ G j=>by rw[p,z]) (λv=>?_) rfl) (λv _=>?_) (λk K l o v=>⟨(z k).1 o,pk1 k l ((z k).1 o) (by rw[<-M];exact v)⟩) (λA D a ha=>by rw[(N A D).2.1]at ha;cases ha) (λk K l T=>?_)
  .rw[p]
   have:(H.gone k).isNone=(h.gone k).isNone:=by
     by_cases e:k=i
     .subst e;rw[I,C];rfl
     rw[J k e]
   rw[this]
  .rw[M];obtain a|⟨a,b,_⟩:=p2 0 h0 m.n0 m.m0
   .rw[a];exact v
   exact b rfl
  .rw[M]at v;exact pk1 0 m.n0 m.m0 v
  rw[p,Hs]at T;obtain⟨r,hr⟩:=g.rel k K l T;exact⟨r,z5 hr λA D=>.inr (N A D).2.1⟩
 .rw[B,own',rd'];exact m.ti.still X N
 .rw[B]at l;by_cases e:k=i
  .subst e;rw[Deaf_own,m.deaf k l,C,I]
  rw[Deaf_other t (λq=>e q.symm) _ λA D=>(N A D).1,m.deaf k l,J k e,p]
 .rw[U];exact jfd m.hand λA D=>.inr (.inr (N A D).2.1)
 unfold Gh.mu;rw[B,Hr];refine .right _ (.left _ _ (LL.map (k:=i) (mT.2 X) List.nodup_range ?_ λk l=>?_))
 .unfold Gh.far;rw[I,C];exact .right _ (Nat.lt_succ_self q)
 unfold Gh.far;rw[J k l,Hr]
end
section
variable {E:Env} {h H:Gh} {r':Rk} {G:Grp} {f:Gam->Gn->Wl->Rk}
def jtw {v:By} {d:Av} (a:jhj E G w d):jhj E G (w.setCell (AD G.T j) (.string v)) (d.setIfInBounds j (.string v)):=by
 obtain⟨b,c⟩:=a;refine⟨?_,by simpa using c⟩;simp[World.setCell,Array.getElem?_modify,b]
def MI.told (m:MI P E Post h gs w t) {x:Gn} (hi:gs[i]?=some x) (h0:0<i) (y:h.gone i=none) (hx:x.status=.running) (hr:h.r i=.s f) (I:(h.y i).ph=.job G j)
 (k:∀cs,jhj E G w cs->∃g' v,E.Ans (G.tx j) v/\stepG P false (h.g i) w=.go g' (w.setCell (AD G.T j) (.string v)) #[⟨.cell (AD G.T j),true,false⟩]/\g'.status=.running/\Tr P E Post false (f ((h.y i).to (.work G)) g' (w.setCell (AD G.T j) (.string v))) ((h.y i).to (.work G)) g' (w.setCell (AD G.T j) (.string v))):yv P E Post h gs w t sl i:=by
 have M:i<gs.size:=(mw.1 hi).1;obtain⟨G1,U,g,V,_,hG1⟩:=m.lives M h0 y;rw[I]at hG1;cases hG1;have hi0:(0:Nat)≠i:=oe;have e0:(i==0)=false:=ou;obtain⟨cs,hT,hfull⟩:=g.told;obtain⟨g',v,hans,st,_,tr⟩:=k cs hT;obtain⟨jS,jn⟩:=g.job i j V M y I;have hT':=jtw (j:=j) (v:=v) hT;obtain⟨s,r,hC⟩:=g.chan;obtain⟨sv,sm,hW⟩:=g.wgl;have lT:=(mw.1 hT.1).1;have lC:=(mw.1 hC).1;have lW:=(mw.1 hW).1;have c:Chg (·=G.T) w (w.setCell (AD G.T j) (.string v)):=Chg.cell rfl;have hsz:(w.setCell (AD G.T j) (.string v)).heap.size=w.heap.size:=y5 _ _ _;have oC:=c.out _ lC λq=>g.ne.1 q.symm;have oW:=c.out _ lW λq=>g.ne.2.1 q.symm
 generalize w.setCell (AD G.T j) (.string v)=w' at*;suffices hmr:∀pf,jlp h gs.size i pf->MR E (h.turn i ((h.y i).to (.work G)) g' (f ((h.y i).to (.work G)) g' w') none pf) gs.size w' (t++MemOp.ofEvents i x.frame.fn x.frame.place #[⟨.cell (AD G.T j),true,false⟩]) by
  obtain⟨_,ops,h',gs',a,_,b,d⟩:=m.stepGo (sl:=sl) (hdn:=λ_ _ G1 l=>by rw[U]at l;cases l;exact .same oW) hi y hx (by rw[e0];exact st) c (λk _ O y b p=>by subst p;exact⟨λq=>(g.free _ (.inl rfl) k).1 ⟨O,y,q⟩,λq=>(g.free _ (.inl rfl) k).2 ⟨O,y,q⟩⟩)
   (λG1 l _=>by rw[U]at l;cases l;exact⟨_,_,oW.trans hW⟩) (λG1 l hcl=>by rw[U]at l;cases l;rw[hcl]at hC;exact⟨_,_,_,_,_,_,oC.trans hC,λ_=>rfl⟩) (γ':=(h.y i).to (.work G)) (r':=f ((h.y i).to (.work G)) g' w') (go':=none) h.first (λ_=>by rw[e0];exact tr) (λ_=>zp hr) (λ_ _ e=>oJ) ⟨f,hr⟩
   λpf Y _ _=>hmr pf Y
  exact⟨ops,h',gs',w',a,b,d⟩
 intro pf Y;show MR E (h.turn i ((h.y i).to (.work G)) g' (f ((h.y i).to (.work G)) g' w') none pf) gs.size w' _;have wgs:WgS E (h.turn i ((h.y i).to (.work G)) g' (f ((h.y i).to (.work G)) g' w') none pf) gs.size w' G:=g.wg.kidSame hi0 m.n0 m.m0 y (by rw[I];rfl) (λG j q=>by rw[I]at q;cases q) (λG j q=>oA) Y oW;have own':∀k b,(h.turn i ((h.y i).to (.work G)) g' (f ((h.y i).to (.work G)) g' w') none pf).own gs.size k b->h.own gs.size k b:=λk b q=>jog y q;have rd':∀k b,(h.turn i ((h.y i).to (.work G)) g' (f ((h.y i).to (.work G)) g' w') none pf).rd gs.size k b->h.rd gs.size k b:=λk b q=>jry y q;have A:=m.apart.turn (g':=g') (r':=f ((h.y i).to (.work G)) g' w') (pf:=pf) (γ':=(h.y i).to (.work G)) (go':=none) (nk hsz.symm) M y (λ_ b p=>.inl p) (λ_ b p=>p);have T0:=m.ti.turnG (g':=g') (r':=f ((h.y i).to (.work G)) g' w') (pf:=pf) (γ':=(h.y i).to (.work G)) (go':=none) (w':=w') (nk hsz.symm) y (λ_ b p=>.inl p) (λ_ b p=>p)
 have D:=jfy (γ':=(h.y i).to (.work G)) (g':=g') (r':=f ((h.y i).to (.work G)) g' w') (go':=none) (pf:=pf) (u:=MemOp.ofEvents i x.frame.fn x.frame.place #[⟨.cell (AD G.T j),true,false⟩]) m.deaf M (λo C=>(j9 C).1) (by
  rw[Deaf_own,m.deaf i M,y,I];rfl)
 have N:∀k,(h.turn i ((h.y i).to (.work G)) g' (f ((h.y i).to (.work G)) g' w') none pf).gone k=h.gone k:=z4 y;have gk:∀k,k≠i->((h.turn i ((h.y i).to (.work G)) g' (f ((h.y i).to (.work G)) g' w') none pf).y k)=h.y k:=λk O=>jl _ _ O
 have gi:((h.turn i ((h.y i).to (.work G)) g' (f ((h.y i).to (.work G)) g' w') none pf).y i).ph=.work G:=by show (j8 h.y i _ i).ph=_;rw[ya];rfl
 have hpk:(h.turn i ((h.y i).to (.work G)) g' (f ((h.y i).to (.work G)) g' w') none pf).pk=pf:=rfl;have z:(h.turn i ((h.y i).to (.work G)) g' (f ((h.y i).to (.work G)) g' w') none pf).first=h.first:=rfl
 generalize hH:h.turn i ((h.y i).to (.work G)) g' (f ((h.y i).to (.work G)) g' w') none pf=H at*;have F:=gk 0 hi0;have X:∀o∈MemOp.ofEvents i x.frame.fn x.frame.place #[⟨.cell (AD G.T j),true,false⟩],o.g=i/\o.act=.access ⟨.cell (AD G.T j),true,false⟩:=λo C=>by
  obtain⟨a,e,l,K⟩:=j9 C;simp at l;subst l;exact⟨a,K⟩
 have tch:∀o∈MemOp.ofEvents i x.frame.fn x.frame.place #[⟨.cell (AD G.T j),true,false⟩],∀a,o.act.touch?=some a->a.loc=.cell (AD G.T j)/\a.kind=.plain:=λo C a J=>by
  rw[(X o C).2]at J;simp only[MemAct.touch?,Option.some.injEq]at J;subst J;exact⟨rfl,rfl⟩
 have Z:∀k B,H.gone k=none->(H.y k).ph=.job G B->k≠i/\h.gone k=none/\(h.y k).ph=.job G B:=λk B a b=>by
  have e:k≠i:=λe=>by rw[e,gi]at b;cases b
  rw[N]at a;rw[gk k e]at b;exact⟨e,a,b⟩
 have pk1:∀k,k<gs.size->h.gone k=none->pf k=1->k≠i/\h.pk k=1:=λk O y I=>by
  have e:k≠i:=λe=>by rw[e,Y.1]at I;omega
  refine⟨e,?_⟩;obtain a|⟨a,_⟩:=Y.2 k e O y
  .rw[<-a];exact I
  exact a
 have early:∀{q:Nat},jhk h gs.size t q->jhk H gs.size (t++MemOp.ofEvents i x.frame.fn x.frame.place #[⟨.cell (AD G.T j),true,false⟩]) q:=λ{q} hE k O=>(hE k (O.imp id λ⟨a,b,c⟩=>⟨z▸a,b,by rw[<-N];exact c⟩)).app _;refine⟨A,by rw[F];exact m.fits,λe=>?_,λG' hG'=>?_,T0.aside M (Q:=G.T) (by rw[hsz];exact lT) (λk q=>(g.free _ (.inl rfl) k).1 (own' k _ q)) (λk q=>(g.free _ (.inl rfl) k).2 (rd' k _ q)) (λo C=>⟨(X o C).1,(λa q=>by rw[(X o C).2]at q;cases q),λa J _=>by rw[(tch o C a J).1];rfl⟩) (λsaid q a J o C b p hc=>?_),D,?_⟩
 .rw[F]at e;rw[e]at U;cases U
 .rw[F,U]at hG';cases hG';refine⟨by rw[z];exact g.f1,by rw[z,F];exact g.size,λk a b=>by rw[N];exact g.old k a (z▸b),g.W,g.ne,λb p k=>⟨λq=>(g.free b p k).1 (own' k b q),λq=>(g.free b p k).2 (rd' k b q)⟩,λk a b c=>?_,⟨_,hT',λB hmm=>?_⟩,λk B a b c d=>?_,λk k' B a b c d a' b' c' d'=>?_,⟨s,r,by rw[F];exact oC.trans hC⟩,λhcl k a b=>?_,wgs,λl K k a b L=>?_,λk a b c d=>?_,λq a J hm p=>?_,λq a J hm p=>?_,λk a b hs=>?_⟩
  .by_cases e:k=i
   .rw[e,gi];exact⟨rfl,rfl⟩
   rw[gk k e];rw[N]at c;exact g.kid k (z▸a) b c
  .rw[F]at hmm;by_cases e:B=j
   .subst e;exact .inr ⟨v,by rw[mB (by rw[hT.2];exact jn)],hans⟩
   obtain⟨k,k1,k2,k3,k4⟩|⟨v',k1,k2⟩:=hfull B hmm
   .refine .inl ⟨k,z.symm▸k1,k2,by rw[N];exact k3,?_⟩;rw[gk k λq=>by rw[q,I]at k4;cases k4;exact e rfl];exact k4
   exact .inr ⟨v',by rw[mD λq=>e q.symm];exact k1,k2⟩
  .obtain⟨_,R,S⟩:=Z k B c d;rw[F];exact g.job k B (z▸a) b R S
  .obtain⟨_,R,S⟩:=Z k B c d;obtain⟨_,q3,q4⟩:=Z k' B c' d';exact g.uniq k k' B (z▸a) b R S (z▸a') b' q3 q4
  .rw[F]at hcl;obtain⟨o1,o2⟩:=g.opn hcl k (z▸a) b;refine⟨by rw[N];exact o1,?_⟩;by_cases e:k=i
   .rw[e,gi];exact .inl rfl
   rw[gk k e];exact o2
  .rw[hpk]at l L;rw[F]at K;exact g.excl (pk1 0 m.n0 m.m0 l).2 K k (z▸a) b (pk1 k b (g.opn K k (z▸a) b).1 L).2
  .rw[F];rw[N]at c;rw[hpk]at d;exact g.rcv k (z▸a) b c (pk1 k b c d).2
  .obtain⟨hj,l⟩|⟨o,l,K,L⟩:=vn J
   .obtain hE|⟨⟨k,k1,k2⟩,K,B,L,h4,h5⟩:=g.tt q a l hm p
    .exact .inl (early hE)
    exact .inr ⟨⟨k,by rw[g?_old hj];exact k1,z.symm▸k2⟩,K,B,L,by rw[F];exact h4,λk a b c d=>by
       obtain⟨_,R,S⟩:=Z k B c d;exact h5 k (z▸a) b R S⟩
   obtain⟨c1,c2⟩:=tch o l a L;refine .inr ⟨⟨i,by simp only[Trace.g?,K,Option.map_some,(X o l).1],z.symm▸V⟩,c2,j,c1,by rw[F];exact jS,λk a b c d=>?_⟩;obtain⟨e,R,S⟩:=Z k j c d;exact e (g.uniq k i j (z▸a) b R S V M y I)
  .obtain⟨hj,l⟩|⟨o,l,K,L⟩:=vn J
   .rw[g?_old hj];exact(g.tw q a l hm p).imp early id
   rw[(tch o l a L).1]at p;exact(p.elim g.ne.2.1 g.ne.1).elim
  have e:k≠i:=λe=>by
   rw[e,N,y,gi]at hs;obtain q|q:=hs<;>cases q
  rw[N,gk k e]at hs;obtain⟨r,hr⟩:=g.rel k (z▸a) b hs;exact⟨r,z5 hr λo C=>.inl (by rw[(X o C).1];exact λq=>e q.symm)⟩
 .obtain⟨c1,c2,c3,c4⟩:=hc;obtain⟨b1,b2⟩:=tch o C b p;rcases g.tt q a J c2 (by rw[c1,b1];rfl)with hE|⟨_,_,B,L,_,h5⟩
  .exact hE i (.inr ⟨V,M,y⟩)
  rw[L,b1]at c1;cases c1;exact absurd I (h5 i V M y)
 rw[z];exact jfd m.hand λo C=>.inl (by rw[(X o C).1];exact V)
end
section
variable {E:Env} {h H:Gh} {r':Rk} {G:Grp}
def jke (op:MemOp):Prop:=op.act.touch?=none/\∀mk,op.act≠.mark mk
def TI.quiet {own rd:Nat->Nat->Prop} {B:Nat}:∀{l:List MemOp} {t:Trace},TI own rd n B t->(∀c∈l,c.g<n/\jke c)->TI own rd n B (t++l.toArray)
 |[],t,h,_=>oM
 |a::l,t,h,hu=>by
  have e:t++(a::l).toArray=(t++#[a])++l.toArray:=by
   rw[Array.append_assoc];simp
  rw[e];obtain⟨f,k,m⟩:=hu a oi;exact TI.quiet (h.still f (λc d=>by simp at d;subst d;exact⟨rfl,k,λb=>m _⟩)) λc d=>hu c (by simp[d])
def jh9 {k:Nat}:∀{l:List MemOp} {t:Trace},(∀b∈l,jke b)->Deaf (t++l.toArray) k=Deaf t k
 |[],t,_=>oi
 |a::l,t,hu=>by
  have e:t++(a::l).toArray=(t++#[a])++l.toArray:=by
   rw[Array.append_assoc];simp
  rw[e,jh9 λb c=>hu b (by simp[c]),Deaf_push];obtain⟨_,d⟩:=hu a oi;obtain⟨g,fn,pos,act⟩:=a;cases act with
  |mark mk=>exact absurd rfl (d mk)
  |_=>rfl
variable {l:List MemOp}
def jlt (d:∀b∈l,jke b) {q:Nat} {a:Touch} (e:touchAt (t++l.toArray) q=some a):q<t.size/\touchAt t q=some a:=by
 obtain z|⟨b,f,_,c⟩:=vn e
 .exact z
 rw[(d b (by simpa using f)).1]at c;cases c
section
variable {C D:Gam} {F I:Gn} {J K:Rk}
def MI.meets (m:MI P E Post h gs w t) (V:(h.y 0).ph=.open_ G G.W A) (hi0:A<G.n) (Z:0<j) (hjn:j<gs.size) (hjl:h.gone j=none) (hpj:(h.y j).ph=.work G) (e0:C=(h.y 0).to (.open_ G G.W (A+1))) (ej:D=(h.y j).to (.job G A)) (lt0:Rk.Lt J (h.r 0))
 (K0:Tr P E Post true J C F w) (Kj:Tr P E Post false K D I w) (X:gs'.size=gs.size) (a0:gs'[0]?=some F) (aj:gs'[j]?=some I) (ak:∀k,k≠0->k≠j->gs'[k]?=gs[k]?)
 (c:Chg (·=G.C) w w') (hsz:w'.heap.size=w.heap.size) (hC':∃s r,w'.heap[G.C]?=some (.chan 0 #[] false s r false)) (hu:∀M∈l,(M.g=0\/M.g=j)/\jke M):∃h',MI P E Post h' gs' w' (t++l.toArray)/\jot (h'.mu gs') (h.mu gs):=by
 have hG:(h.y 0).ph.grp=some G:=by rw[V];rfl
 have g:=m.grp G hG;have hN:=m.n0;have f1:=g.f1;obtain⟨_,_,_,hfj,_⟩:=m.lives hjn Z hjl;generalize B:h.born C F J j D I K=H;have Hγ0:H.y 0=C:=by rw[<-B];exact jfs _ Z _ _
 have HγN:H.y j=D:=by rw[<-B];exact jgg _ _ _
 have O:∀k,k≠0->k≠j->H.y k=h.y k:=λk a b=>by rw[<-B];exact jfr _ _ _ a b
 have v:∀k,H.gone k=h.gone k:=λk=>by
  rw[<-B];show j8 h.gone j none k=_;by_cases e:k=j
  .rw[e,ya,hjl]
  rw[jl _ _ e]
 have N:H.first=h.first:=by rw[<-B];rfl
 have Hpk0:H.pk 0=0:=by rw[<-B];exact jfs _ Z _ _
 have HpkN:H.pk j=0:=by rw[<-B];exact jgg _ _ _
 have Hpkk:∀k,k≠0->k≠j->H.pk k=h.pk k:=λk a b=>by rw[<-B];exact jfr _ _ _ a b
 have S:(H.y 0).ph=.open_ G G.W (A+1):=by rw[Hγ0,e0];rfl
 have Y:(H.y j).ph=.job G A:=by rw[HγN,ej];rfl
 have ow:H.own gs.size=h.own gs.size:=by
  funext k b;unfold Gh.own;rw[v];by_cases o:k=0
  .subst o;rw[Hγ0,e0];rfl
  by_cases f:k=j
  .subst f;rw[HγN,ej];rfl
  rw[O k o f]
 have rdd:H.rd gs.size=h.rd gs.size:=by
  funext k b;unfold Gh.rd;rw[v];by_cases o:k=0
  .subst o;rw[Hγ0,e0];rfl
  by_cases f:k=j
  .subst f;rw[HγN,ej];rfl
  rw[O k o f]
 obtain⟨cs,hT,hfull⟩:=g.told;obtain⟨sv,sm,hW⟩:=g.wgl;have oT:=c.out _ (mw.1 hT.1).1 g.ne.1;have oW:=c.out _ (mw.1 hW).1 λq=>g.ne.2.2 q.symm
 have hwl:∀G',(h.y 0).ph.grp=some G'->WgL E G'.Wg w->WgL E G'.Wg w':=λG' q ⟨a,b,z⟩=>by
  rw[hG]at q;cases q;exact⟨a,b,oW.trans z⟩
 have frC:∀k,k<gs.size->h.gone k=none->∀b,b=G.C->¬(h.y k).own b/\¬(h.y k).rd b:=λk p x b hb=>by
  subst hb;exact⟨λq=>(g.free _ (.inr (.inl rfl)) k).1 ⟨p,x,q⟩,λq=>(g.free _ (.inr (.inl rfl)) k).2 ⟨p,x,q⟩⟩
 have rl:∀k,k<gs.size->h.gone k=none->q9 E (h.y k) w w':=λk p x=>m.rely c p x (frC k p x) (λG' q=>hwl G' (m.grpOf p x q)) λhw=>by
  have:=m.wt0 p x hw;subst this;rw[V]at hw;cases hw
 have gq:(h.y j).ph.grp=some G:=by rw[hpj];rfl
 have qu:∀M∈l,jke M:=λM T=>(hu M T).2;have mem:∀M∈l.toArray,M.act.touch?=none:=λM T=>(qu M (by simpa using T)).1
 have jobs:∀k L,h.first<=k->h.gone k=none->(H.y k).ph=.job G L->(k=j/\L=A)\/(k≠j/\(h.y k).ph=.job G L):=λk L hf x q=>by
  by_cases e:k=j
  .subst e;rw[Y]at q;cases q;exact .inl ⟨rfl,rfl⟩
  rw[O k oe e]at q;exact .inr ⟨e,q⟩
 have early:∀{q},jhk h gs.size t q->jhk H gs.size (t++l.toArray) q:=λ{q} hE k p=>(hE k (p.imp id λ⟨a,b,z⟩=>⟨N▸a,b,by rw[<-v];exact z⟩)).app _
 have sent0:(h.y 0).ph.sent=A:=by rw[V];rfl
 have sentH:(H.y 0).ph.sent=A+1:=by rw[S];rfl
 refine⟨H,⟨by rw[X];exact hN,by rw[v];exact m.m0,λk p x=>?_,λk q d p U=>?_,λk y hy x=>?_,by rw[X,ow,rdd,hsz];exact m.apart,by rw[S];exact⟨mC _,hi0,λ_=>rfl⟩,λq=>(by rw[S]at q;cases q),λG' hG'=>?_,by rw[X,ow,rdd,hsz];exact m.ti.quiet (λM T=>⟨(hu M T).1.elim (λq=>oe) λq=>oe,qu M T⟩),λk p=>?_,by rw[N];exact jfd m.hand λM T=>.inr (.inr (mem M T)),λk p x hp1=>?_⟩,?_⟩
 .rw[X]at p;rw[v]at x;by_cases o:k=0
  .subst o;have e1:H.r 0=J:=by rw[<-B];exact jfs _ Z _ _
   have Q:H.g 0=F:=by rw[<-B];exact jfs _ Z _ _
   rw[Hγ0,e1,Q];have:=rl 0 p x;exact K0.rely (by subst e0;exact⟨this.own,this.rd,this.os,this.output,λG' q=>hwl G' (by rw[hG];exact q),λq=>Bool.noConfusion (show false=true from q)⟩)
  by_cases f:k=j
  .subst f;have e1:H.r k=K:=by rw[<-B];exact jgg _ _ _
   have Q:H.g k=I:=by rw[<-B];exact jgg _ _ _
   have e3:(k==0)=false:=by simpa using o
   rw[HγN,e1,Q,e3];have:=rl k p x;exact Kj.rely (by subst ej;exact⟨this.own,this.rd,this.os,this.output,λG' q=>hwl G' (by rw[hG];exact q),λq=>Bool.noConfusion (show false=true from q)⟩)
  have e1:H.r k=h.r k:=by rw[<-B];exact jfr _ _ _ o f
  have Q:H.g k=h.g k:=by rw[<-B];exact jfr _ _ _ o f
  rw[O k o f,e1,Q];exact(m.tree k p x).rely (rl k p x)
 .rw[X]at p;rw[v]at U;have o:k≠0:=λe=>by rw[e,m.m0]at U;cases U
  have f:k≠j:=λe=>by rw[e,hjl]at U;cases U
  rw[ak k o f];exact m.quit k q d p U
 .rw[v]at x;by_cases o:k=0
  .subst o;have Q:H.g 0=F:=by rw[<-B];exact jfs _ Z _ _
   rw[a0]at hy;cases hy;rw[Hpk0,Q];rfl
  by_cases f:k=j
  .subst f;have Q:H.g k=I:=by rw[<-B];exact jgg _ _ _
   rw[aj]at hy;cases hy;rw[HpkN,Q];rfl
  have Q:H.g k=h.g k:=by rw[<-B];exact jfr _ _ _ o f
  rw[ak k o f]at hy;rw[Hpkk k o f,O k o f,Q];exact m.sit k y hy x
 .rw[X];rw[S]at hG';cases hG';obtain⟨q1,q2⟩:=g.wg.plain (by rw[V];rfl);have liveE:H.live gs.size=h.live gs.size:=jf0 N λk p hf=>by
   rw[v];by_cases f:k=j
   .subst f;rw[Y,hpj];rfl
   rw[O k oe f]
  refine⟨by rw[N];exact f1,by rw[N,S];have:=g.size;rw[V]at this;exact this,λk a b=>by rw[v];exact g.old k a (N▸b),g.W,g.ne,λb hb k=>by rw[ow,rdd];exact g.free b hb k,λk a b z=>?_,⟨cs,⟨oT.trans hT.1,hT.2⟩,λL hmm=>?_⟩,λk L a b z d=>?_,λk k' L a b z d a' b' z' d'=>?_,by rw[S];exact hC',λ_ k a b=>?_,WgS.of_plain (by rw[S];rfl) (by rw[liveE,S];rw[V]at q1;exact oW.trans q1) (λk a b z G' i' q=>?_),λq=>(by rw[Hpk0]at q;omega),λk a b z d=>(by rw[S];rfl),λq a ha hm hb=>?_,λq a ha hm hb=>?_,λk a b hs=>?_⟩
  .rw[v]at z;by_cases f:k=j
   .subst f;rw[Y];exact⟨rfl,rfl⟩
   have:=N▸a;rw[O k oe f];exact g.kid k this b z
  .rw[sentH]at hmm;by_cases e:L=A
   .subst e;exact .inl ⟨j,by rw[N];exact hfj,hjn,by rw[v];exact hjl,Y⟩
   rcases hfull L (by rw[sent0];omega)with ⟨k,k1,k2,k3,k4⟩|q
   .refine .inl ⟨k,by rw[N];exact k1,k2,by rw[v];exact k3,?_⟩;rw[O k oe λq=>by rw[q,hpj]at k4;cases k4];exact k4
   exact .inr q
  .rw[v]at z;have a:h.first<=k:=N▸a;rw[sentH];obtain⟨_,q⟩|⟨_,q⟩:=jobs k L a z d
   .subst q;exact⟨oe,hi0⟩
   have:=g.job k L a b z q;rw[sent0]at this;exact⟨oe,this.2⟩
  .rw[v]at z z';have a:h.first<=k:=N▸a;have a':h.first<=k':=N▸a';obtain⟨q,y⟩|⟨q,y⟩:=jobs k L a z d<;>obtain⟨q',y'⟩|⟨q',y'⟩:=jobs k' L a' z' d'
   .rw[q,q']
   .have:=(g.job k' L a' b' z' y').1;rw[sent0]at this;omega
   .have:=(g.job k L a b z y).1;rw[sent0]at this;omega
   exact g.uniq k k' L a b z y a' b' z' y'
  .have a:h.first<=k:=N▸a;obtain⟨o1,o2⟩:=g.opn (by rw[V];rfl) k a b;refine⟨by rw[v];exact o1,?_⟩;by_cases f:k=j
   .subst f;exact .inr ⟨A,Y⟩
   rw[O k oe f];exact o2
  .have a:h.first<=k:=N▸a;rw[v]at z;by_cases f:k=j
   .subst f;rw[Y]at q;cases q
   rw[O k oe f]at q;exact q2 k a b z G' i' q
  .obtain⟨U,ha'⟩:=jlt qu ha;obtain hE|⟨⟨k,k1,k2⟩,h2,L,h3,h4,h5⟩:=g.tt q a ha' hm hb
   .exact .inl (early hE)
   rw[sent0]at h4;refine .inr ⟨⟨k,by rw[g?_old U];exact k1,by rw[N];exact k2⟩,h2,L,h3,by rw[sentH];omega,λk a b z d=>?_⟩;rw[v]at z;have a:h.first<=k:=N▸a;obtain⟨_,y⟩|⟨_,y⟩:=jobs k L a z d
   .omega
   exact h5 k a b z y
  .obtain⟨U,ha'⟩:=jlt qu ha;rw[g?_old U];exact(g.tw q a ha' hm hb).imp early id
  have a:h.first<=k:=N▸a;rw[v]at hs;have hs':(h.gone k).isSome=true\/(h.y k).ph.said=true:=hs.imp id λq=>by
   by_cases f:k=j
   .subst f;rw[Y]at q;cases q
   rw[O k oe f]at q;exact q
  obtain⟨r,R⟩:=g.rel k a b hs';exact⟨r,z5 R λM T=>.inr (mem M T)⟩
 .rw[X]at p;rw[jh9 qu,m.deaf k p,v];by_cases o:k=0
  .subst o;rw[m.m0];show (h.y 0).ph.deafs=(H.y 0).ph.deafs;rw[S,V];rfl
  by_cases f:k=j
  .subst f;rw[hjl];show (h.y k).ph.deafs=(H.y k).ph.deafs;rw[Y,hpj];rfl
  rw[O k o f]
 .rw[X]at p;rw[v]at x;have o:k≠0:=λe=>by rw[e,Hpk0]at hp1;omega
  have f:k≠j:=λe=>by rw[e,HpkN]at hp1;omega
  have Q:H.g k=h.g k:=by rw[<-B];exact jfr _ _ _ o f
  rw[Hpkk k o f]at hp1;rw[O k o f,Q];exact m.comm k p x hp1
 refine .left _ _ ?_;have e1:H.r 0=J:=by rw[<-B];exact jfs _ Z _ _
 rw[e1];exact lt0
end
end
section
variable {E:Env} {h H:Gh} {r':Rk} {G:Grp} {f:Gam->Gn->Wl->Rk}
def MI.drains (m:MI P E Post h gs w t) (S:i<gs.size) (h0:0<i) (A:h.gone i=none) (hr:h.r i=.s f) (M:(h.y i).ph=.work G) (hcl:(h.y 0).ph.closed=true) {v:Gn} (K:Tr P E Post false (f ((h.y i).to (.drained G)) v w) ((h.y i).to (.drained G)) v w) {l:List MemOp} (hu:∀p∈l,p.g=i/\jke p):∃h',MI P E Post h' (gs.setIfInBounds i v) w (t++l.toArray)/\jot (h'.mu (gs.setIfInBounds i v)) (h.mu gs):=by
 obtain⟨G1,X,g,hf,_,hG1⟩:=m.lives S h0 A;rw[M]at hG1;cases hG1;have Y:(0:Nat)≠i:=oe;have e0:(i==0)=false:=ou;have hpf:jlp h gs.size i (j8 h.pk i 0):=⟨ya _ _ _,λk e _ _=>.inl (jl _ _ e)⟩;have wgs:WgS E (h.turn i ((h.y i).to (.drained G)) v (f ((h.y i).to (.drained G)) v w) none (j8 h.pk i 0)) gs.size w G:=g.wg.kidSame Y m.n0 m.m0 A (by rw[M];rfl) (λG j q=>by rw[M]at q;cases q) (λG j q=>oA) hpf rfl;have J:∀k b,(h.turn i ((h.y i).to (.drained G)) v (f ((h.y i).to (.drained G)) v w) none (j8 h.pk i 0)).own gs.size k b->h.own gs.size k b:=λk b q=>jog A q;have T:∀k b,(h.turn i ((h.y i).to (.drained G)) v (f ((h.y i).to (.drained G)) v w) none (j8 h.pk i 0)).rd gs.size k b->h.rd gs.size k b:=λk b q=>jry A q
 generalize C:h.turn i ((h.y i).to (.drained G)) v (f ((h.y i).to (.drained G)) v w) none (j8 h.pk i 0)=H at*;have Hγi:H.y i=(h.y i).to (.drained G):=by rw[<-C];exact ya _ _ _
 have F:∀k,k≠i->H.y k=h.y k:=λk e=>by rw[<-C];exact jl _ _ e
 have Hgi:H.g i=v:=by rw[<-C];exact ya _ _ _
 have Z:∀k,k≠i->H.g k=h.g k:=λk e=>by rw[<-C];exact jl _ _ e
 have Hri:H.r i=f ((h.y i).to (.drained G)) v w:=by rw[<-C];exact ya _ _ _
 have aa:∀k,k≠i->H.r k=h.r k:=λk e=>by rw[<-C];exact jl _ _ e
 have x:∀k,H.gone k=h.gone k:=λk=>by rw[<-C];exact z4 A k
 have ab:H.pk i=0:=by rw[<-C];exact ya _ _ _
 have ac:∀k,k≠i->H.pk k=h.pk k:=λk e=>by rw[<-C];exact jl _ _ e
 have Hf:H.first=h.first:=by rw[<-C];rfl
 have U:(H.y i).ph=.drained G:=by rw[Hγi];rfl
 have L:=F 0 Y;have D:(gs.setIfInBounds i v).size=gs.size:=oi;have at_:∀k,k≠i->(gs.setIfInBounds i v)[k]?=gs[k]?:=λk e=>mD (λq=>e q.symm);have qu:∀p∈l,jke p:=λp z=>(hu p z).2;have mem:∀p∈l.toArray,p.act.touch?=none:=λp z=>(qu p (by simpa using z)).1;refine⟨H,⟨by rw[D];exact m.n0,by rw[x];exact m.m0,λk o A=>?_,λk q d o V=>?_,λk y W B=>?_,?_,by rw[L];exact m.fits,λq=>(by rw[L]at q;rw[q]at X;cases X),λG' hG'=>?_,?_,λk o=>?_,by rw[Hf];exact jfd m.hand λp z=>.inr (.inr (mem p z)),λk o B I=>?_⟩,?_⟩
 .rw[D]at o;rw[x]at A;by_cases e:k=i
  .subst e;rw[Hγi,Hgi,Hri,e0];exact K
  rw[F k e,Z k e,aa k e];exact m.tree k o A
 .rw[D]at o;rw[x]at V;rw[at_ k λe=>by rw[e,A]at V;cases V];exact m.quit k q d o V
 .rw[x]at B;by_cases e:k=i
  .subst e;rw[mB S]at W;cases W;rw[ab,Hgi];rfl
  rw[at_ k e]at W;rw[ac k e,F k e,Z k e];exact m.sit k y W B
 .rw[D];exact⟨λk N b a c=>m.apart.one k N b (J k b a) (J N b c),λk N b a c=>m.apart.two k N b (J k b a) (T N b c),λk b a=>m.apart.lo k b (J k b a),λk b a=>m.apart.lr k b (T k b a)⟩
 .rw[D];rw[L,X]at hG';cases hG';refine g.core Hf (by rw[L]) (by rw[L]) (by rw[L]) (λk o=>by rw[x];exact o) (λk O o B=>?_) (λk mm O o=>?_) (λQ=>by rw[hcl]at Q;cases Q) (λb hb k=>⟨λq=>(g.free b hb k).1 (J k b q),λq=>(g.free b hb k).2 (T k b q)⟩)
   rfl rfl wgs (λ_ Q=>by rw[hcl]at Q;cases Q) (λk O o B I=>?_) (λp z a ha=>by rw[mem p z]at ha;cases ha) λk O o hs=>?_
  .rw[x]at B;by_cases e:k=i
   .subst e;rw[U];exact⟨rfl,rfl⟩
   rw[F k e];exact g.kid k O o B
  .rw[x];by_cases e:k=i
   .subst e;rw[U,M];exact⟨λ⟨_,q⟩=>oA,λ⟨_,q⟩=>oA⟩
   rw[F k e]
  .rw[x]at B;have e:k≠i:=λe=>by rw[e,ab]at I;omega
   rw[ac k e]at I;exact⟨B,I⟩
  rw[x]at hs;have hs':(h.gone k).isSome=true\/(h.y k).ph.said=true:=hs.imp id λq=>by
   by_cases e:k=i
   .subst e;rw[U]at q;cases q
   rw[F k e]at q;exact q
  obtain⟨r,R⟩:=g.rel k O o hs';exact⟨r,z5 R λp z=>.inr (mem p z)⟩
 .rw[D];exact((m.ti.turn (mC _) (mC _) (λk b q=>.inl (J k b q)) λk b q=>.inl (T k b q)).quiet (λp z=>⟨by rw[(hu p z).1];exact S,qu p z⟩))
 .rw[D]at o;rw[jh9 qu,m.deaf k o,x];by_cases e:k=i
  .subst e;rw[A];show (h.y k).ph.deafs=(H.y k).ph.deafs;rw[U,M];rfl
  rw[F k e]
 .rw[D]at o;rw[x]at B;have e:k≠i:=λe=>by rw[e,ab]at I;omega
  rw[ac k e]at I;rw[F k e,Z k e];exact m.comm k o B I
 unfold Gh.mu;rw[D,aa 0 Y];refine .right _ (.left _ _ (LL.map (k:=i) (mT.2 S) List.nodup_range ?_ λk o=>?_))
 .unfold Gh.far;rw[x,A,Hri];exact .left _ _ (zp hr)
 unfold Gh.far;rw[x,aa k o]
variable {y:Gn}
def MI.whoR (m:MI P E Post h gs w t) (g:GO E h gs.size w t G) (v:(h.y 0).ph.grp=some G) (o:gs[k]?=some y) (a:offersAt y G.C false≠[]):0<k/\k<gs.size/\h.gone k=none/\(h.y k).ph=.work G/\h.pk k=1/\y=parked (h.g k) #[rcase G.C zR] (.recv true):=by
 have j:k<gs.size:=(mw.1 o).1;cases e:h.gone k with
 |some qd=>
  obtain⟨q,d⟩:=qd;obtain⟨A,r,Q⟩:=m.quit k q d j e;rw[o]at r;cases r;exact absurd (offersAt_of_not_blocked (λs=>by obtain z|z:=Q.status<;>rw[z]at s<;>cases s) _ _) a
 |none=>
  have s:=m.sit k y o e;have x:=(m.tree k j e).run;match ep:h.pk k,s with
  |0,s=>
   have s:y=h.g k:=s;exact absurd (offersAt_of_not_blocked (by rw[s,x];exact λz=>by cases z) _ _) a
  |1,s=>
   obtain⟨l,B,c,b⟩|⟨l,B,i,c,b,p⟩|⟨l,B,c,b,p⟩:=s
   .have:B=G:=by
     have:=m.grpOf j e (G:=B) o6;rw[v]at this;cases this;rfl
    subst this;exact⟨l,j,rfl,c,rfl,b⟩
   .rw[p,offersAt_parked_send']at a;exact absurd rfl a
   rw[b]at a;unfold offersAt at a;simp only[p]at a;exact absurd rfl a
  |n+2,s=>
   obtain⟨l,B,c,b⟩:=s;exact absurd (offersAt_of_not_blocked (by rw[b];exact λz=>by cases z) _ _) a
def MI.whoS (m:MI P E Post h gs w t) (p:(h.y 0).ph.grp=some G) (l:gs[k]?=some y) (a:offersAt y G.C true≠[]):k=0/\h.pk 0=1/\∃i,(h.y 0).ph=.open_ G G.W i/\i<G.n/\y=parked (h.g 0) #[scase G.C (jgq G i) undef] .send:=by
 have r:k<gs.size:=(mw.1 l).1;cases e:h.gone k with
 |some qd=>
  obtain⟨q,d⟩:=qd;obtain⟨A,v,Q⟩:=m.quit k q d r e;rw[l]at v;cases v;exact absurd (offersAt_of_not_blocked (λs=>by obtain z|z:=Q.status<;>rw[z]at s<;>cases s) _ _) a
 |none=>
  have s:=m.sit k y l e;have x:=(m.tree k r e).run;match ep:h.pk k,s with
  |0,s=>
   have s:y=h.g k:=s;exact absurd (offersAt_of_not_blocked (by rw[s,x];exact λz=>by cases z) _ _) a
  |1,s=>
   obtain⟨j,B,c,b⟩|⟨j,B,i,c,b,o⟩|⟨j,B,c,b,o⟩:=s
   .rw[b,offersAt_parked_recv']at a;exact absurd rfl a
   .subst j
    have:B=G:=by
     rw[c]at p;cases p;rfl
    subst this;exact⟨rfl,ep,i,c,b,o⟩
   rw[b]at a;unfold offersAt at a;simp only[o]at a;exact absurd rfl a
  |n+2,s=>
   obtain⟨j,B,c,b⟩:=s;exact absurd (offersAt_of_not_blocked (by rw[b];exact λz=>by cases z) _ _) a
end
section
variable {E:Env} {h H:Gh} {r':Rk} {G:Grp} {f:Gam->Gn->Wl->Rk}
variable {γ:Gam}
def Tr.recvK (h:Tr P E Post false (.s f) γ g w) (j:γ.ph=.work G) (k:jme P false g #[rcase G.C zR] (.recv true)):(∀i,i<G.n->E.Jb (γ.to (.job G i)) (Go.Conc.served g (.tuple #[jgq G i,.bool true])) w)/\Tr P E Post false (f (γ.to (.drained G)) (Go.Conc.served g (.tuple #[zR,.bool false])) w) (γ.to (.drained G)) (Go.Conc.served g (.tuple #[zR,.bool false])) w:=by
 have c:=k w;cases h.move with
 |ord a=>rw[c]at a;cases a
 |recv a b c d e=>rw[j]at b;cases b;exact⟨d,e⟩
 |told a b=>rw[j]at b;cases b
 |rel a b=>rw[j]at b;cases b
 |disD a b=>rw[j]at b;cases b
 |addD a b=>rw[j]at b;cases b
 |last0 a b=>rw[j]at b;cases b
 |last1 a b=>rw[j]at b;cases b
 |last2 a b=>rw[j]at b;cases b
 |said a=>cases a
 |opens a=>cases a
 |disA a=>cases a
 |addA a=>cases a
 |enA a=>cases a
 |spawn a=>cases a
 |send a=>cases a
 |close a=>cases a
 |disW a=>cases a
 |loadW a=>cases a
 |casW a=>cases a
 |semW a=>cases a
 |load4 a=>cases a
 |enW a=>cases a
 |acq a=>cases a
 |fin a=>cases a
def Tr.sendK (h:Tr P E Post true (.s f) γ g w) (d:γ.ph=.open_ G G.W A) (l:jme P true g #[scase G.C (jgq G A) undef] .send) (e:∃s r j,w.heap[G.C]?=some (.chan 0 #[] false s r j)):Tr P E Post true (f (γ.to (.open_ G G.W (A+1))) (Go.Conc.served g undef) w) (γ.to (.open_ G G.W (A+1))) (Go.Conc.served g undef) w:=by
 have c:=l w;cases h.move with
 |ord a=>rw[c]at a;cases a
 |send a b _ _ _ k=>rw[d]at b;cases b;exact k
 |close a b k=>
  rw[d]at b;cases b;obtain⟨s,r,j,e⟩:=e;obtain⟨_,k,_⟩:=k s r j e;rw[c]at k;cases k
 |said _ _ _ _ a=>rw[c]at a;cases a
 |opens _ b=>rw[d]at b;cases b
 |disA _ _ _ a=>rw[c]at a;cases a
 |addA _ b=>rw[d]at b;cases b
 |enA _ b=>rw[d]at b;cases b
 |spawn _ b=>rw[d]at b;cases b
 |disW _ b=>rw[d]at b;cases b
 |loadW _ b=>rw[d]at b;cases b
 |casW _ b=>rw[d]at b;cases b
 |semW _ b=>rw[d]at b;cases b
 |load4 _ b=>rw[d]at b;cases b
 |enW _ b=>rw[d]at b;cases b
 |acq _ b=>rw[d]at b;cases b
 |fin _ b=>rw[d]at b;cases b
 |recv a=>cases a
 |told a=>cases a
 |rel a=>cases a
 |disD a=>cases a
 |addD a=>cases a
 |last0 a=>cases a
 |last1 a=>cases a
 |last2 a=>cases a
def Tr.some {a:Bool} {r:Rk} (h:Tr P E Post a r γ g w):∃f,r=.s f:=by
 cases r with
 |s f=>exact⟨f,rfl⟩
 |z=>cases a<;>exact h.elim
def jna {c a s r:Nat} {e:Av} {j k:Bool} (w:Wl) (d:Nat):Chg (·=c) w ((w.at d).setChan c a e j s r k):=by
 refine⟨by simp[World.setChan,World.at],λb m l=>?_,rfl,rfl⟩;have:c≠b:=λq=>l q.symm;simp[World.setChan,World.at,Array.getElem?_setIfInBounds,this]
def GO.parks (g:GO E h n w t G) (c:(h.y 0).ph.plain=true) (d:(h.y 0).ph.closed=false) (e:j8 h.pk i 1 0=1->∀k,h.first<=k->k<n->j8 h.pk i 1 k≠1):GO E (h.park i) n w t G:=by
 refine⟨g.f1,g.size,g.old,g.W,g.ne,g.free,g.kid,g.told,g.job,g.uniq,g.chan,g.opn,?_,λa _=>e a,λ_ _ _ _ _=>d,g.tt,g.tw,g.rel⟩;obtain⟨a,b⟩:=g.wg.plain c;exact WgS.of_plain (Hh:=h.park i) c a b
def jqc (P:Pq) (E:Env) (Post:Vl->Wv):Prop:=∀γ g w,E.Jb γ g w->q7 P E Post false γ g w
def MI.send (m:MI P E Post h gs w t) (hJ:jqc P E Post) {x:Gn} (I:gs[0]?=some x) (hx:x.status=.running) (hr:h.r 0=.s f) (o:(h.y 0).ph=.open_ G G.W A) (S:A<G.n) (T:jme P true (h.g 0) #[scase G.C (jgq G A) undef] .send)
 (kk:Tr P E Post true (f ((h.y 0).to (.open_ G G.W (A+1))) (Go.Conc.served (h.g 0) undef) w) ((h.y 0).to (.open_ G G.W (A+1))) (Go.Conc.served (h.g 0) undef) w):yv P E Post h gs w t sl 0:=by
 have z:(h.y 0).ph.grp=some G:=by rw[o];rfl
 have g:=m.grp G z;obtain⟨rfl,hpk0⟩:=m.sit0 I hx;have U:(h.y 0).ph.closed=false:=by rw[o];rfl
 obtain⟨s,r,J⟩:=g.chan;rw[U]at J;have part:∀j k,(j,k)∈partners (gs.setIfInBounds 0 ph) G.C false->k=0/\0<j/\j<gs.size/\h.gone j=none/\(h.y j).ph=.work G/\h.pk j=1/\gs[j]?=some (parked (h.g j) #[rcase G.C zR] (.recv true)):=λj k V=>by
  obtain⟨y,K,a⟩:=mem_partners.1 V;obtain⟨_,rfl⟩|⟨hj,K⟩:=getElem?_stand gs 0 j y K
  .rw[offersAt_ph]at a;cases a
  obtain⟨B,e,p,D,X,L⟩:=m.whoR g z K (λq=>by rw[q]at a;cases a);subst L;rw[offersAt_parked_recv,if_pos rfl]at a;exact⟨by simpa using a,B,e,p,D,X,K⟩
 by_cases Y:partners (gs.setIfInBounds 0 ph) G.C false=[]
 .have F:=crowd_waits (sl:=sl) I (T w) (λcc hcc=>by
   simp at hcc;subst hcc;exact ways_send_none J (mC _) Y)
  refine m.parks I m.m0 hx (λq=>oA) (.inr (.inl ⟨rfl,G,A,o,S,rfl⟩)) ⟨λG' q=>(by rw[o]at q;cases q),λG' j q=>(by rw[o]at q;cases q;exact T)⟩ F ⟨m.apart,m.fits,m.idle,λG' N=>?_,m.ti,m.deaf,m.hand⟩;have N:(h.y 0).ph.grp=some G':=N;rw[z]at N;cases N;refine g.parks (by rw[o];rfl) U λ_ k hf a hp1=>?_
  have O:k≠0:=by have:=g.f1;omega
  rw[jl _ _ O]at hp1;obtain⟨o1,o2⟩:=g.opn U k hf a;have sk:=m.sit k _ (my a) o1;rw[hp1]at sk;obtain⟨Q,G',h2,h3⟩|⟨Q,_⟩|⟨Q,_⟩:=sk
  .have:G'=G:=by
        have:=m.grpOf a o1 (G:=G') (by rw[h2];rfl);rw[z]at this;cases this;rfl
   subst this;have:(k,0)∈partners (gs.setIfInBounds 0 ph) G'.C false:=mem_partners.2 ⟨_,stand_get (i:=0) O (my a),by rw[h3,offersAt_parked_recv,if_pos rfl];simp⟩;rw[Y]at this;cases this
  .exact O Q
  exact O Q
 obtain⟨j,v,Z,R,d,hj0,hjp,F⟩:=crowd_send_meets_some (sl:=sl) I (T w) J Y λj k V=>by
  obtain⟨B,e,_,_,_,_,a7⟩:=part j k V;exact⟨B,oe,_,_,_,a7⟩
 obtain⟨B,e,p,D,X,L⟩:=m.whoR g z hjp (by rw[offersAt_parked_recv,if_pos rfl];simp);obtain⟨fj,rj⟩:=(m.tree j e p).some;have tj:=m.tree j e p;have e0:(j==0)=false:=ou;rw[rj,e0]at tj;obtain⟨_,kj⟩:=hJ _ _ _ ((tj.recvK D ((m.comm j e p X).1 G D)).1 A S);have efin:v.finishComm P #[rcase G.C Z] R 0 (jgq G A) true=Go.Conc.served (h.g j) (.tuple #[jgq G A,.bool true]):=by
  have e1:=finishComm_parked P v #[rcase G.C Z] #[rcase G.C Z] R R 0 (jgq G A) true;have e2:R=.recv true:=by
   have:=congrArg (·.offers) L;simp[parked]at this;exact this.2
  rw[<-e1,L,finishComm_parked,e2,finishComm_recv];rfl
 rw[efin,finishComm_send]at F;have hs1:(MemOp.ofEvents 0 (h.g 0).frame.fn (h.g 0).frame.place #[]:Trace)=#[]:=rfl;rw[hs1,Array.empty_append]at F;obtain⟨h',M,mu⟩:=m.meets (w':=(w.at d).setChan G.C 0 #[] false (s+1) (r+1) false) (gs':=(gs.setIfInBounds j (Go.Conc.served (h.g j) (.tuple #[jgq G A,.bool true]))).setIfInBounds 0 (Go.Conc.served (h.g 0) undef)) o S B e p D rfl rfl (zp hr) kk kj oi (by rw[mB (by simpa using m.n0)]) (by rw[mD oe,mB e])
  (λk b c=>by rw[mD (λq=>b q.symm),mD (λq=>c q.symm)]) (jna w d) (by simp[World.setChan,World.at]) ⟨s+1,r+1,by simp[World.setChan,World.at,Array.getElem?_setIfInBounds,(Array.getElem?_eq_some_iff.1 J).1]⟩
  (l:=[{g:=0,fn:=(h.g 0).frame.fn,pos:=(h.g 0).frame.place,act:=.send G.C s},{g:=j,fn:=v.frame.fn,pos:=v.frame.place,act:=.recv G.C r 0},{g:=0,fn:=(h.g 0).frame.fn,pos:=(h.g 0).frame.place,act:=.sendDone G.C s},{g:=j,fn:=v.frame.fn,pos:=v.frame.place,act:=.recvDone G.C r}]) (λop hop=>by
   simp at hop;obtain rfl|rfl|rfl|rfl:=hop
   .exact⟨.inl rfl,rfl,λmk q=>oA⟩
   .exact⟨.inr rfl,rfl,λmk q=>oA⟩
   .exact⟨.inl rfl,rfl,λmk q=>oA⟩
   exact⟨.inr rfl,rfl,λmk q=>oA⟩)
 exact⟨_,h',_,_,F,M,mu⟩
end
section
variable {E:Env} {h H:Gh} {r':Rk} {G:Grp} {f:Gam->Gn->Wl->Rk}
def jmn {c a s r:Nat} {d:Av} {e g:Bool} (w:Wl):Chg (·=c) w (w.setChan c a d e s r g):=by
 refine⟨by simp[World.setChan],λb k j=>?_,rfl,rfl⟩;have:c≠b:=λq=>j q.symm;simp[World.setChan,Array.getElem?_setIfInBounds,this]
def MI.recv (m:MI P E Post h gs w t) (hJ:jqc P E Post) {x:Gn} (v:gs[i]?=some x) (J:0<i) (z:h.gone i=none) (U:x.status=.running) (hr:h.r i=.s f) (A:(h.y i).ph=.work G) (V:jme P false (h.g i) #[rcase G.C zR] (.recv true))
 (O:∀a,a<G.n->E.Jb ((h.y i).to (.job G a)) (Go.Conc.served (h.g i) (.tuple #[jgq G a,.bool true])) w)
 (kd:Tr P E Post false (f ((h.y i).to (.drained G)) (Go.Conc.served (h.g i) (.tuple #[zR,.bool false])) w) ((h.y i).to (.drained G)) (Go.Conc.served (h.g i) (.tuple #[zR,.bool false])) w):yv P E Post h gs w t sl i:=by
 have D:i<gs.size:=(mw.1 v).1;obtain⟨G1,F,g,hf,_,W⟩:=m.lives D J z;rw[A]at W;cases W;have e0:(i==0)=false:=ou;have Q:stepG P (i==0) x w=.comm (h.g i) #[rcase G.C zR] true (.recv true) w #[]:=by rw[((m.sit i x v z).run (P:=P) U (m.tree i D z).run).2,e0];exact V w
 have X:∀fn pos,(MemOp.ofEvents i fn pos #[]:Trace)=#[]:=λ_ _=>rfl;obtain⟨s,r,d⟩:=g.chan;have lC:=(mw.1 d).1
 have Y:h.pk 0≠1\/(h.y 0).ph.closed=true->partners (gs.setIfInBounds i ph) G.C true=[]:=λhq=>partners_nil λj y o=>by
  obtain⟨_,rfl⟩|⟨hj,o⟩:=getElem?_stand gs i j y o
  .exact offersAt_ph _ _
  apply mP;intro R;obtain⟨_,a2,i1,a3,_⟩:=m.whoS F o R;obtain q|q:=hq
  .exact q a2
  rw[a3]at q;cases q
 cases hcl:(h.y 0).ph.closed with
 |true=>
  rw[hcl]at d;have p:=crowd_recv_closed (sl:=sl) v Q d (Y (.inr hcl));rw[X,Array.empty_append,finishComm_recv]at p;obtain⟨S,M,T⟩:=m.drains D J z hr A hcl kd (l:=[{g:=i,fn:=(h.g i).frame.fn,pos:=(h.g i).frame.place,act:=.recvClosed G.C}]) (λop I=>by
   simp at I;subst I;exact⟨rfl,rfl,λK q=>oA⟩)
  exact⟨_,S,_,_,p,M,T⟩
 |false=>
  rw[hcl]at d;by_cases L:h.pk 0=1
  .have Z:=m.sit 0 _ (my m.n0) m.m0;rw[L]at Z;obtain⟨q,_⟩|⟨_,G1,a,B,h3,h4⟩|⟨_,G1,B,_⟩:=Z
   .omega
   .have:G1=G:=by rw[B]at F;cases F;rfl
    subst this;have x0:gs[0]?=some (parked (h.g 0) #[scase G1.C (jgq G1 a) undef] .send):=by rw[my m.n0,h4]
    have hpar:partners (gs.setIfInBounds i ph) G1.C true=[(0,0)]:=by
       rw[partners_one (stand_get (i:=i) oe x0) λk y hk o=>by
        obtain⟨_,rfl⟩|⟨hj,o⟩:=getElem?_stand gs i k y o
        .exact offersAt_ph _ _
        apply mP;intro R;exact hk (m.whoS F o R).1]
       rw[offersAt_parked_send,if_pos rfl];rfl
    have p:=crowd_recv_meets (sl:=sl) v Q d oe x0 hpar;rw[X,Array.empty_append,finishComm_recv,finishComm_send]at p;obtain⟨f0,r0⟩:=(m.tree 0 m.n0 m.m0).some;have t0:=m.tree 0 m.n0 m.m0;rw[r0]at t0;have k0:=Tr.sendK t0 B ((m.comm 0 m.n0 m.m0 L).2 G1 a B) ⟨s,r,false,d⟩;obtain⟨_,O⟩:=hJ _ _ _ (O a h3)
    obtain⟨S,M,T⟩:=m.meets (w':=w.setChan G1.C 0 #[] false (s+1) (r+1) false) (gs':=(gs.setIfInBounds 0 (Go.Conc.served (h.g 0) undef)).setIfInBounds i (Go.Conc.served (h.g i) (.tuple #[jgq G1 a,.bool true]))) B h3 J D z A rfl rfl (zp r0) k0 O (by simp) (by rw[mD (by omega),mB m.n0]) (by rw[mB (by simpa using D)])
       (λk b c=>by rw[mD (λq=>c q.symm),mD (λq=>b q.symm)]) (jmn w) (by simp[World.setChan]) ⟨s+1,r+1,by simp[World.setChan,Array.getElem?_setIfInBounds,lC]⟩
       (l:=[{g:=0,fn:=(h.g 0).frame.fn,pos:=(h.g 0).frame.place,act:=.send G1.C s},{g:=i,fn:=(h.g i).frame.fn,pos:=(h.g i).frame.place,act:=.recv G1.C r 0},{g:=0,fn:=(h.g 0).frame.fn,pos:=(h.g 0).frame.place,act:=.sendDone G1.C s},{g:=i,fn:=(h.g i).frame.fn,pos:=(h.g i).frame.place,act:=.recvDone G1.C r}]) (λop I=>by
        simp at I;obtain rfl|rfl|rfl|rfl:=I
        .exact⟨.inl rfl,rfl,λK q=>oA⟩
        .exact⟨.inr rfl,rfl,λK q=>oA⟩
        .exact⟨.inl rfl,rfl,λK q=>oA⟩
        exact⟨.inr rfl,rfl,λK q=>oA⟩)
    exact⟨_,S,_,_,p,M,T⟩
   rw[B]at hcl;cases hcl
  have p:=crowd_waits (sl:=sl) v Q (λcc hcc=>by
   simp at hcc;subst hcc;exact ways_recv_none d (Y (.inl L)))
  refine m.parks v z U (λq=>oA) (.inl ⟨J,G,A,rfl⟩) ⟨λG' q=>(by rw[A]at q;cases q;exact V),λG' j q=>(by rw[A]at q;cases q)⟩ p ⟨m.apart,m.fits,m.idle,λG' N=>?_,m.ti,m.deaf,m.hand⟩;have N:(h.y 0).ph.grp=some G':=N;rw[F]at N;cases N;refine g.parks ?_ hcl λq=>absurd (by rw[jl _ _ oe]at q;exact q) L
  cases e:(h.y 0).ph<;>rw[e]at hcl<;>first|rfl|cases hcl
end
section
variable {E:Env} {h H:Gh} {G:Grp} {f:Gam->Gn->Wl->Rk}
def MI.runs (m:MI P E Post h gs w t) (a:i<gs.size) (b:h.gone i=none) (c:h.pk i≠1):(gs[i]).status=.running:=by
 have s:=m.sit i _ (my a) b;have d:=(m.tree i a b).run;match e:h.pk i,s with
 |0,s=>rw[show gs[i]=h.g i from s];exact d
 |1,_=>exact absurd e c
 |n+2,s=>obtain⟨_,_,_,q⟩:=s;rw[q]
def MI.awakes (m:MI P E Post h gs w t):∀g∈gs,awake g:=λg c l q=>by
 obtain⟨i,a,rfl⟩:=Array.mem_iff_getElem.1 c;cases e:h.gone i with
 |some qd=>
  obtain⟨k,d⟩:=qd;obtain⟨y,b,Q⟩:=m.quit i k d a e;rw[my a]at b;cases b;obtain z|z:=Q.status<;>rw[z]at q<;>cases q
 |none=>
  have s:=m.sit i _ (my a) e;have j:=(m.tree i a e).run;match ep:h.pk i,s with
  |0,s=>rw[show gs[i]=h.g i from s,j]at q;cases q
  |1,s=>
   obtain⟨_,_,_,z⟩|⟨_,_,_,_,_,z⟩|⟨_,_,_,z,_⟩:=s<;>rw[z]at q<;>cases q
  |n+2,s=>obtain⟨_,_,_,z⟩:=s;rw[z]at q;cases q
def MI.someone (m:MI P E Post h gs w t):∃(i:Nat) (g:Gn),gs[i]?=some g/\g.status=.running:=by
 have o:∀k,k<gs.size->h.gone k=none->h.pk k≠1->∃(i:Nat) (g:Gn),gs[i]?=some g/\g.status=.running:=λk d B l=>⟨k,_,my d,m.runs d B l⟩;by_cases l:h.pk 0=1
 .have s:=m.sit 0 _ (my m.n0) m.m0;rw[l]at s;obtain⟨q,_⟩|⟨_,G,j,e,C,_⟩|⟨_,G,e,_⟩:=s
  .omega
  .have y:(h.y 0).ph.grp=some G:=mi;have g:=m.grp G y;have p:(h.y 0).ph.closed=false:=mi;have z:=g.size;rw[e]at z;have D:=g.W
   have d:h.first<gs.size:=by
        have:gs.size=h.first+G.W:=z;omega
   exact o h.first d (g.opn p _ (mC _) d).1 (g.excl l p _ (mC _) d)
  have y:(h.y 0).ph.grp=some G:=mi;have g:=m.grp G y;have p:(h.y 0).ph.closed=true:=mi;have A:∀k,h.first<=k->k<gs.size->h.gone k=none->h.pk k≠1:=λk a b c q=>by
   have:=g.rcv k a b c q;rw[p]at this;cases this
  rcases(WgS.sema_iff e).1 g.wg with ⟨v,F,_⟩|⟨_,k,j,a,b,c,_⟩|⟨_,_,_,q⟩
  .obtain⟨k,d,r⟩:=jpc (show 0<h.live gs.size by omega);simp only[Bool.and_eq_true,decide_eq_true_eq,Option.isNone_iff_eq_none]at r;exact o k d r.1.2 (A k r.1.1 d r.1.2)
  .exact o k b c (A k a b c)
  omega
 exact o 0 m.n0 m.m0 l
def jqq {g:Gn} {o:Outcome} (a:gs[i]?=some g) (b:stepG P (i==0) g w=.ended o w' es):runT P (crowd gs w sl) i=(.ended o w',MemOp.ofEvents i g.frame.fn g.frame.place es):=by
 obtain⟨c,rfl⟩:=mw.1 a;have d:=swapAt_of_lt c {(default:Gn)with status:=.finished};show runT P {world:=w,gs:=gs,rest:={timers:=#[],alone:=none,slice:=sl}} i=_;unfold runT;simp only[d,b,GStep.es]
def jm1 (P:Pq) (Post:Vl->Wv) (m:Machine) (o:Outcome) (w':Wl) (t':Trace):Prop:=
 ∃v,o=.done v/\Post v w'/\(∀said,¬Race said t')/\t'.HandedOver/\m.OnlyLeaving P/\m.EndHearing P t'
def MI.fin (m:MI P E Post h gs w t) (F:gs[0]?=some x) (O:x.status=.running) (C:(h.y 0).ph=.idle) {v:Vl} (R:stepG P true (h.g 0) w=.ended (.done v) w es) (S:∀e∈es,EvG (h.y 0).own (h.y 0).rd e) (T:Post v w):
 ∃I,runT P (crowd gs w sl) 0=(.ended (.done v) w,I)/\∀D J,jm1 P Post (crowd gs D J) (.done v) w (t++I):=by
 obtain⟨rfl,_⟩:=m.sit0 F O;refine⟨_,jqq F R,λD J=>⟨v,rfl,T,?_,λj k B c U=>?_,⟨λg l=>?_,rfl⟩,λk g l c=>?_⟩⟩
 .refine(m.ti.ord m.apart m.n0 _ _ λe V=>?_).nr;have:=S e V;have K:∀b,(h.y 0).own b->h.own gs.size 0 b:=λb p=>⟨m.n0,m.m0,p⟩;have W:∀b,(h.y 0).rd b->h.rd gs.size 0 b:=λb p=>⟨m.n0,m.m0,p⟩;unfold EvG at this ⊢;cases hloc:e.loc with
  |cell a=>simp only[hloc]at this ⊢;exact this.imp (K _) (And.imp_left (W _))
  |obj s=>simp only[hloc]at this ⊢;exact⟨K _ this.1,this.2⟩
  |output=>trivial
  |goroutines=>simp only[hloc]at this
  |mark mm=>simpa only[hloc]using this
 .have p:k<gs.size:=by
   simp only[Trace.g?,Option.map_eq_some_iff]at B;obtain⟨L,X,M⟩:=B;obtain⟨q,Y⟩|⟨_,r⟩:=getElem?_append_cases X
   .exact m.ti.gm j k (by simp[Trace.g?,Y,M])
   rw[(j9 r).1]at M;omega
  obtain⟨q,z,N,Z,h3⟩:=jfd m.hand (u:=MemOp.ofEvents 0 (h.g 0).frame.fn (h.g 0).frame.place es) (λL r=>.inr (.inl (j9 r).1)) k j oe (by rw[(m.idle C).1];exact p) B U;refine⟨q,by simp[Trace.g?,N,Z],?_⟩;obtain e|e:=h3
  .subst e;simp only[Trace.g?,N,Option.map_some,Option.some.injEq]at B;omega
  exact e
 .obtain⟨k,c⟩:=List.getElem?_of_mem l;rw[List.getElem?_drop]at c;have c:gs[1+k]?=some g:=by rw[<-Array.getElem?_toList];exact c
  have o:=(mw.1 c).1;have:=(m.idle C).2 (1+k) oe o;cases e:h.gone (1+k)with
  |none=>rw[e]at this;cases this
  |some qd=>
   obtain⟨q,d⟩:=qd;obtain⟨y,A,Q⟩:=m.quit (1+k) q d o e;rw[c]at A;cases A;exact⟨q,Q.leaves⟩
 have l:gs[k]?=some g:=l;have o:=(mw.1 l).1;have:=(m.idle C).2 k oe o;cases e:h.gone k with
 |none=>rw[e]at this;cases this
 |some qd=>
  obtain⟨q,d⟩:=qd;obtain⟨y,A,Q⟩:=m.quit k q d o e;rw[l]at A;cases A;refine⟨q,?_⟩;have hd:(t++MemOp.ofEvents 0 (h.g 0).frame.fn (h.g 0).frame.place es).deaf k (t++MemOp.ofEvents 0 (h.g 0).frame.fn (h.g 0).frame.place es).size=d:=by
   show Deaf (t++MemOp.ofEvents 0 (h.g 0).frame.fn (h.g 0).frame.place es) k=d;rw[Deaf_other t (λq=>c q.symm) _ λL r=>(j9 r).1,m.deaf k o,e]
  rw[hd];exact Q.hears D
def MI.move (m:MI P E Post h gs w t) (D:jqc P E Post) (j:gs[i]?=some x) (l:x.status=.running):
 (∃v B,runT P (crowd gs w sl) i=(.ended (.done v) w,B)/\∀I J,jm1 P Post (crowd gs I J) (.done v) w (t++B))\/yv P E Post h gs w t sl i:=by
 have F:i<gs.size:=(mw.1 j).1;cases hl:h.gone i with
 |some qd=>obtain⟨q,d⟩:=qd;exact .inr (m.quitS j hl l)
 |none=>
 obtain⟨f,r⟩:=(m.tree i F hl).some;have A:=m.tree i F hl;rw[r]at A;by_cases e:i=0
 .subst e;have A:Tr P E Post true (.s f) (h.y 0) (h.g 0) w:=A;cases A.move with
  |fin a b c d p=>obtain⟨B,q⟩:=m.fin (sl:=sl) j l b c d p;exact .inl ⟨_,B,q⟩
  |ord a b q c k=>exact .inr (m.ordS j hl l r a q c k)
  |said a b c d s _ k=>exact .inr (m.said j l r b c d s k)
  |opens a b c d o s _ k=>exact .inr (m.opens j l r b c d o s k)
  |disA a b c s _ k=>exact .inr (m.disA j l r b c s k)
  |addA a b k=>exact .inr (m.addA j l r b k)
  |enA a b s _ k=>exact .inr (m.enA j l r b s k)
  |spawn a b s c d kid k=>exact .inr (m.spawn j l r b s c d kid k)
  |send a b c z s k=>subst z;exact .inr (m.send D j l r b c s k)
  |close a b k d=>exact .inr (m.close j l r b d k)
  |disW a b s _ k=>exact .inr (m.disW j l r b s k)
  |loadW a b k=>exact .inr (m.loadW j l r b k)
  |casW a b k=>exact .inr (m.casW j l r b k)
  |semW a b c k0 k1=>exact .inr (m.semW j l r b c k0 k1)
  |load4 a b k=>exact .inr (m.load4 j l r b k)
  |enW a b s _ k=>exact .inr (m.enW j l r b s k)
  |acq a b k=>exact .inr (m.acq j l r b k)
  |recv a=>cases a
  |told a=>cases a
  |rel a=>cases a
  |disD a=>cases a
  |addD a=>cases a
  |last0 a=>cases a
  |last1 a=>cases a
  |last2 a=>cases a
 have y:0<i:=oe;have C:(i==0)=false:=ou;rw[C]at A;refine .inr ?_;cases A.move with
 |ord a b q c k=>exact m.ordS j hl l r (by rw[C];exact a) q c (by rw[C];exact k)
 |recv a b c d k=>exact m.recv D j y hl l r b c d k
 |told a b k=>exact m.told j y hl l r b k
 |rel a b s _ k=>exact m.rel j y hl l r b s k
 |disD a b s _ k=>exact m.disD j y hl l r b s k
 |addD a b k=>exact m.addD j y hl l r b k
 |last0 a b k=>exact m.last0 j y hl l r b k
 |last1 a b k=>exact m.last1 j y hl l r b k
 |last2 a b c k=>
  have s:=m.sit i x j hl;have K:x=h.g i:=by
   match ep:h.pk i,s with
   |0,s=>exact s
   |1,s=>
    obtain⟨_,_,z,_⟩|⟨z,_⟩|⟨z,_⟩:=s
    .rw[b]at z;cases z
    .omega
    omega
   |n+2,s=>obtain⟨_,_,z,_⟩:=s;rw[b]at z;cases z
  exact m.last2 j y hl l r b (by rw[K];exact c) k
 |said a=>cases a
 |opens a=>cases a
 |disA a=>cases a
 |addA a=>cases a
 |enA a=>cases a
 |spawn a=>cases a
 |send a=>cases a
 |close a=>cases a
 |disW a=>cases a
 |loadW a=>cases a
 |casW a=>cases a
 |semW a=>cases a
 |load4 a=>cases a
 |enW a=>cases a
 |acq a=>cases a
 |fin a=>cases a
def jvv (P:Pq) (E:Env) (Post:Vl->Wv) (μ:Mu) (m:Machine) (t:Trace):Prop:=∃h gs w sl,m=crowd gs w sl/\MI P E Post h gs w t/\μ=h.mu gs
def MI.ends (m:MI P E Post h gs w t) (g:jqc P E Post):∃N a o w' e,runNT P (N+1) (crowd gs w sl) t=(.ended o w',e)/\runN P N (crowd gs w sl)=.next a/\step P a=.ended o w'/\jm1 P Post a o w' e:=by
 refine run_of_inv jot.wf (jvv P E Post) (jm1 P Post) ?_ (h.mu gs) _ _ ⟨h,gs,w,sl,rfl,m,rfl⟩;rintro μ _ t ⟨h,gs,w,sl,rfl,m,rfl⟩;obtain⟨i,x,d,j,k,l,p⟩:=crowd_pick (P:=P) (w:=w) (sl:=sl) m.awakes m.someone;rw[p];rcases(m.at d).move g (sl:=j) k l with ⟨v,q,b,c⟩|⟨q,s,gs',w',b,c,r⟩
 .exact .inl ⟨_,_,_,b,c _ _⟩
 exact .inr ⟨_,_,_,b,r,_,_,_,_,rfl,c,rfl⟩
end
section
variable {E:Env} {H:Vl->Wv}
def q7.ends {own rd:Np} {a:Gn} (h:q7 P E H true ⟨own,rd,.idle⟩ a w) (t:∀b,own b->b<w.heap.size) (u:∀b,rd b->b<w.heap.size) (v:∀b,own b->¬rd b) (y:jqc P E H):
 ∃N l o w' p,runNT P (N+1) (solo a w) #[]=(.ended o w',p)/\runN P N (solo a w)=.next l/\step P l=.ended o w'/\jm1 P H l o w' p:=by
 obtain⟨r,A⟩:=h;have m:MI P E H ⟨λ_=>⟨own,rd,.idle⟩,λ_=>a,λ_=>r,λ_=>none,λ_=>0,1⟩ #[a] w #[]:=by
  have z:∀k,k<(#[a]:Array Gn).size->k=0:=λk e=>by simp at e;omega
  have n:∀i b,touchAt (#[]:Trace) i≠some b:=λi b q=>by
   obtain⟨x,f,_⟩:=touch_of q;simp at f
  refine⟨oi,rfl,λk e _=>?_,λk q d _ B=>(by cases B),λk x f _=>?_,⟨λk s b a c=>?_,λk s b a c=>v b a.2.2 c.2.2,λk b a=>t b a.2.2,λk b a=>u b a.2.2⟩,trivial,λ_=>⟨rfl,λk D e=>?_⟩,λG C=>(by cases C),⟨λi b q=>absurd q (n i b),λg i b q=>absurd q (n i b),λg i b q=>absurd q (n i b),λF q=>?_,λi g q=>?_,λi b q=>?_⟩,λk e=>rfl,λk i _ _ q=>?_,λk _ _ q=>oA⟩
  .rw[z k e];exact A
  .have e:=(mw.1 f).1;have:=z k e;subst this;simp at f;exact f.symm
  .have:=z k a.1;have:=z s c.1;omega
  .have:=z k e;omega
  .obtain⟨i,j,_,⟨x,_,f,_⟩,_⟩:=q;simp[Trace.act?]at f
  .simp[Trace.g?]at q
  .simp[Trace.act?]at q
  simp[Trace.g?]at q
 exact m.ends y (sl:=none)
end
section
variable {E:Env} {v:Vl->Wv} {t:Bool} {u γ':Gam}
def q7.run (h:q7 P E v t u g w):g.status=.running:=let ⟨_,h⟩:=h;h.run
def vc.refl (u:Gam) (w:Wl):vc u w w #[] u:=⟨mC _,λ_ _ _=>rfl,λ_ h=>h,λ_ h=>.inl h,rfl,rfl,rfl,rfl,λe c=>by simp at c⟩
variable {y:Array Event}
def vc.reads (c:∀e∈y,EvG u.own u.rd e):vc u w w y u:=⟨mC _,λ_ _ _=>rfl,λ_ h=>h,λ_ h=>.inl h,rfl,rfl,rfl,rfl,c⟩
def vc.draw (u:Gam) (w:Wl) (d:Nat):vc u w {w with drawn:=d} #[] u:=⟨mC _,λ_ _ _=>rfl,λ_ h=>h,λ_ h=>.inl h,rfl,rfl,rfl,rfl,λe c=>by simp at c⟩
def Gam.grow (u:Gam) (b:Nat):Gam:=⟨λx=>u.own x\/x=b,u.rd,u.ph⟩
def vc.alloc {o:Obj} (c:∀e∈y,EvG (u.grow w.heap.size).own u.rd e):vc u w {w with heap:=w.heap.push o} y (u.grow w.heap.size):=by
 refine⟨oi,λb d _=>?_,λ_ h=>.inl h,λb h=>h.imp id λq=>⟨oe,ou⟩,rfl,rfl,rfl,rfl,c⟩
 have:b≠w.heap.size:=oe;simp[Array.getElem?_push,this]
def q7.step (f:g.status=.running) (h:∀d,q9 E u w d->(stepG P t g d).goes λg' w' y=>(u.ph.said=true->y=#[])/\∃γ',vc u d w' y γ'/\q7 P E v t γ' g' w'):q7 P E v t u g w:=
 q7.mk f λd j=>by
  have:=h d j;cases e:stepG P t g d with
  |go g' w' y=>
   rw[e]at this;obtain⟨a,γ',b,c⟩:=this;exact .ord e c.run a b c
  |_=>rw[e]at this;exact this.elim
def q7.ctl (c:g.status=.running) (d:∀w,stepG P t g w=.go g' w) (k:q7 P E v t u g' w):q7 P E v t u g w:=
 q7.mk c λe f=>.ord (d e) k.run (λ_=>rfl) (vc.refl _ _) (k.rely f)
variable {B:Fm} {C:Act} {k:List Item} {z:List Fm} {A:Array Oper}
section
variable {fn:Func} {todo:List Item}
def q7.leave0 (d:b.kind=.normal) (e:a.defers=[]) (f:P.funcs[b.fn]?=some fn) (c:fn.results=#[])
 (h:q7 P E v t u (G (B.at (C.put ((A[i]?).bind (·.dst)) (.tuple #[])) (.inRegion A rest::k)) z) w):
 q7 P E v t u (G {b.at a todo with mode:=.returning} (B.at C (.inRegion A (i::rest)::k)::z)) w:=
 .ctl rfl (λw=>by rw[stepG_leave d e f (results_none c _ P w) (events_results_none c _ _),Frame.finish_at]) h
end
def q7.call {f:Fi} {fn:Func} {c:Code} {args:Array Operand} {d:Array Tp} (e:A[i]?=some o) (h:Region.wanted o (yielded A a.tmps)=true) (j:b.kind≠.early) (l:o.op=.call {callee:=.value (.func f),args,argTypes:=d})
 (m:P.funcs[f]?=some fn) (n:(fn.name== "runtime.NumGoroutine")=false) (p:fn.body=some c)
 (q:q7 P E v t u (G ((base f).at {tmps:=args.map a.eval++Array.replicate (fn.ntmps-(args.map a.eval).size) undef,defers:=[]} [.code c]) (b.at a (.inRegion A (i::rest)::k)::z)) w):q7 P E v t u (G (b.at a (.inRegion A (i::rest)::k)) z) w:=
 q7.step rfl λs r=>goes_call e h j l m n p ⟨λ_=>rfl,u,vc.refl _ _,q.rely r⟩
end
section
open Go.ConcR Go.ConcR.Gen Go.RowKit Go.Conc.Lib
variable {E:Env} {j:Vl->Wv} {l:Bool} {g γ':Gam}
variable {A:Fm} {B:Act} {k:List Item} {m:List Fm} {C:Array Oper}
def q9.to {c:Wl} (h:q9 E g w c) {s:Ph} (e:s.grp=g.ph.grp) (d:s.wt=true->g.ph.wt=true:=by intro q;exact Bool.noConfusion (show false=true from q)):q9 E (g.to s) w c:=⟨h.own,h.rd,h.os,h.output,λG q=>h.wg G (e▸q),λq G r=>h.down (d q) G (e▸r)⟩
end
section
open Go.ConcN Go.RowKit Go.Conc.Lib Go.ConcR.Gen Go.ConcN.Gen
open Go.ConcR (KK wgBlock WgAt stA smA rd wr mk Payload Aside2 DC0)
def oX {p:Prop} (h:p:=by k_ne):p:=h
def mz:=@Goes.stop
variable {E:Env} {Y:Bool} {γ:Gam}
variable {R:Wl->Wv} {D:Wl->Wl->Array Event->Prop} {S F B:Gn->Wv} {m Z:Nat}
def q7.goes (j:∀a b,q9 E γ a b->R a b) (h:Goes P Y R DC0 S m g w) (l:∀g w,(∀d,q9 E γ w d->S g d)->q7 P E Post Y γ g w):q7 P E Post Y γ g w:=by
 induction m generalizing g w with
 |zero=>exact l _ _ λd f=>h d (j _ _ f)
 |succ m ih=>
  obtain h|⟨o,h⟩:=h
  .exact l _ _ λd f=>h d (j _ _ f)
  refine q7.step o λd f=>?_;have:=h d (j _ _ f);cases e:stepG P Y g d with
  |go g' w' es=>
   rw[e]at this;obtain⟨⟨rfl,rfl⟩,k⟩:=this;exact⟨λ_=>rfl,γ,vc.refl _ _,ih k⟩
  |_=>rw[e]at this;exact this.elim
def Goes.meet (j:∀a b c,R a b->R b c->R a c) (l:∀g w s,B g w->stepG P Y g w≠.go s w #[]) (d:Goes P Y R DC0 F m g w) (h:Goes P Y R D B Z g w):Goes P Y R DC0 (λg w=>F g w/\∃m,Goes P Y R D B m g w) m g w:=by
 induction m generalizing g w Z with
 |zero=>exact λf r=>⟨d f r,_,h.rely j r⟩
 |succ m ih=>
  obtain d|⟨o,d⟩:=d
  .exact .inl λf r=>⟨d f r,_,h.rely j r⟩
  refine .inr ⟨o,λf r=>?_⟩;have:=d f r;cases e:stepG P Y g f with
  |go s w' es=>
   rw[e]at this;obtain⟨⟨rfl,rfl⟩,k⟩:=this;refine⟨⟨rfl,rfl⟩,?_⟩
   have p:∀{n},Goes P Y R D B n g w->∃n,Goes P Y R D B n s w':=λ{n} q=>by
        cases n with
        |zero=>exact absurd e (l _ _ _ (q _ r))
        |succ n=>
         obtain q|⟨_,q⟩:=q
         .exact absurd e (l _ _ _ (q _ r))
         have:=q _ r;rw[e]at this;exact⟨n,this.2⟩
   obtain⟨n,q⟩:=p h;exact ih k q
  |_=>rw[e]at this;exact this.elim
def RW.trans {d C n Low:Nat} [Payload] (a b c:Wl) (h:RW d A C n Low i a b) (k:RW d A C n Low i b c):RW d A C n Low i a c:=
 ⟨λx e f j=>(k.low x e f j).trans (h.low x e f j),k.live∘h.live,k.pay∘h.pay,k.cell.trans h.cell⟩
section
variable {G1:Grp}
def jko [Payload] {C n:Nat} (f:γ.ph.grp=some G1) (d:γ.rd C) (a b:Wl) (h:q9 E γ a b):RW E.tyWg G1.Wg C n 0 i a b:=
 ⟨λ_ h=>absurd h oe,h.wg G1 f,λ⟨cs,e,z⟩=>⟨cs,(h.rd C d).trans e,z⟩,by simp only[World.cell?,h.rd C d]⟩
variable [Payload] {C:Nat}
def js9 (d:γ.ph=.last G1 2) (h:∀a,q9 E γ w a->AtD4 P E.tyWg G1.Wg g a):q7 P E Post false γ g w:=
 q7.mk (h w (q9.refl _ _ _)).1 λa b=>.last2 rfl d (h a b).2.1 (h a b).2.2
def jtg (b:γ.rd C) (d:γ.ph=.last G1 1) (h:∀a,q9 E γ w a->AtD3 P E.tyWg G1.Wg C n 0 k g a):q7 P E Post false γ g w:=
 q7.mk (h w (q9.refl _ _ _)).1 λa e=>.last1 rfl d λf=>by
  obtain⟨o,j,m,q⟩:=(h a e).2 f;have t:q7 P E Post false (γ.to (.last G1 2)) o _:=q7.goes (jko rfl b) q λg w h=>js9 rfl h;exact⟨o,j,t.run,t⟩
def jpn (b:γ.rd C) (d:γ.ph=.last G1 0) (h:∀a,q9 E γ w a->AtD2 P E.tyWg G1.Wg C n 0 k g a):q7 P E Post false γ g w:=
 q7.mk (h w (q9.refl _ _ _)).1 λa e=>.last0 rfl d λf=>by
  obtain⟨o,j,m,q⟩:=(h a e).2 f;have t:q7 P E Post false (γ.to (.last G1 1)) o _:=q7.goes (jko rfl b) q λg w h=>jtg b rfl h;exact⟨o,j,t.run,t⟩
def jox {q:Nat} {g:Gn} (h:QuitsD P q 1 g):g.status=.running:=by
 cases q with
 |zero=>exact absurd h.2 oi
 |succ q=>obtain⟨_,a⟩|⟨b,_⟩:=h;exact absurd a oi;exact b
def jte (d:γ.rd C) (u:G1.W<=16) (o:γ.ph=.deaf G1) (h:∀f,q9 E γ w f->AtD1 P E.tyWg G1.Wg C n 0 k g f):q7 P E Post false γ g w:=
 q7.mk (h w (q9.refl _ _ _)).1 λf p=>.addD rfl o λv l r x j=>by
  obtain⟨y,s,a,b⟩:=(h f p).2 v l r oe (by have:=j;simp only[Int.natCast_add,Int.natCast_one]at this;exact this);refine⟨y,s,?_,λe=>?_,b⟩
  .by_cases e:v=0/\l=1
   .obtain⟨m,q⟩:=a e;have t:q7 P E Post false (γ.to (.last G1 0)) y _:=q7.goes (jko rfl d) q λg w h=>jpn d rfl h;exact t.run
   obtain⟨q,j⟩:=b e;exact jox j
  obtain⟨m,q⟩:=a e;exact q7.goes (jko rfl d) q λg w h=>jpn d rfl h
def js5 (b:γ.rd C) (d:G1.W<=16) (e:γ.ph=.rel G1) (h:∀a,q9 E γ w a->AtK1 P E.tyWg G1.Wg C n 0 k g a):q7 P E Post false γ g w:=
 q7.mk (h w (q9.refl _ _ _)).1 λa f=>by
  obtain⟨_,o,j,m,q⟩:=h a f;have t:q7 P E Post false (γ.to (.deaf G1)) o _:=q7.goes (jko rfl b) q λg w h=>jte b d rfl h;exact .disD rfl e j t.run t
def jts {v:Vl} (b:γ.rd C) (d:G1.W<=16) (e:γ.ph=.drained G1) (h:∀a,q9 E γ w a->AtR0 P E.tyWg G1.Wg C n 0 k v g a):q7 P E Post false γ g w:=
 q7.mk (h w (q9.refl _ _ _)).1 λa f=>by
  obtain⟨_,_,o,j,m,q⟩:=h a f;have t:q7 P E Post false (γ.to (.rel G1)) o _:=q7.goes (jko rfl b) q λg w h=>js5 b d rfl h;exact .rel rfl e j t.run t
end
def js2 (P:Pq) (g:Gn) (w:Wl):Prop:=∃g',stepG P false g w=.go g' w #[mk .disable]
def jur (P:Pq) (R:Wl->Wv) (A:Nat) (g:Gn) (w:Wl):Prop:=∃g',stepG P false g w=.go g' w #[mk (.releaseMerge (stA A))]/\Goes P false R DC0 (js2 P) 20 g' w
variable [Payload] {L:WgLink}
variable {c:Fm} {cs:List Fm}
def jtk {P:Pq} (H:WgLib P L) {C n Low k:Nat} {d:Vl} (w:Wl) (a:WgLive L.tWg A w/\Has C (k-1) d w):
 Goes P false (RW L.tWg A C n Low (k-1)) DC0 (jur P (RW L.tWg A C n Low (k-1)) A) 23 (G ((baseD L.done).at ⟨#[PP A,undef,undef,undef],[]⟩ [.code (body_done L)]) (c::cs)) w:=by
 lib_facts
 simp only[body_done,doneFn,Option.getD_some];u_reg kn_rely a
 u_op kn_rely a
 u_call H.f_add (nm_add L) addFn kn_rely a
 repeat (first|u_c stepG_seq kn_rely a|u_cond true kn_rely a|u_reg kn_rely a|u_c stepG_region_end kn_rely a|u_op kn_rely a)
 u_conv H.underlying_tWgP H.room_tWg (WgLive.cell0 a.1).choose_spec kn_rely a
 refine Goes.stop (λe b=>?_);replace a:=kn_rely a b;clear b;refine⟨_,stepG_markAt .releaseMerge oi rfl rfl oX rfl H.f_relMerge (x_relMerge_n L) (x_relMerge_b L) (x_relMerge_x L) (x_relMerge_f L) (by simp[Act.eval,stA]),?_⟩;walk_nrm;u_c stepG_region_end kn_rely a
 u_c stepG_seq kn_rely a
 u_reg kn_rely a
 refine Goes.stop (λe b=>?_);exact⟨_,stepG_mark0 .disable oi rfl rfl oX rfl H.f_disable (x_disable_n L) (x_disable_b L) (x_disable_x L) (x_disable_f L)⟩
def jqf (H:WgLib P L) {G1:Grp} (o:E.tyWg=L.tWg) {C:Nat} {b:Vl} (p:γ.rd C) (J:G1.W<=16) (t:γ.ph=.drained G1) {K:Nat}
 (M:c.mode=.returning) (N:QuitsD P K 0 (G c cs)) (O:WgL E G1.Wg w) (Q:w.cell? (AD C 0)=some b):
 q7 P E Post false γ (G ((baseD L.done).at ⟨#[PP G1.Wg,undef,undef,undef],[]⟩ [.code (body_done L)]) (c::cs)) w:=by
 have u:WgLive L.tWg G1.Wg w/\Has C (1-1) b w:=⟨o▸O,Q⟩;have x:=jtk H (n:=0) (Low:=0) (c:=c) (cs:=cs) w u;have y:=doneN H (Own:=λ_ _=>False) (Rd:=λ_ _=>False) (n:=0) (Low:=0) M N w u;rw[<-o]at x y;have z:∀(g:Gn) (w:Wl) g',AtR0 P E.tyWg G1.Wg C 0 0 1 b g w->stepG P false g w≠.go g' w #[]:=λg w g' ⟨_,_,T,d,_⟩ e=>by
  rw[d]at e;cases e
 refine q7.goes (jko (by rw[t];rfl) p) (Goes.meet RW.trans z x y) λg w h=>jts p J t (n:=0) (k:=1) (v:=b) λf r=>?_;obtain⟨⟨g',d,q⟩,m,a⟩:=h f r;have l:RW E.tyWg G1.Wg C 0 0 (1-1) f f:=⟨λ_ _ _ _=>rfl,id,id,rfl⟩
 have U:∀n,¬Goes P false (RW E.tyWg G1.Wg C 0 0 (1-1)) (DWs G1.Wg (λ_ _=>False) (λ_ _=>False) C 0 1) (AtR0 P E.tyWg G1.Wg C 0 0 1 b) n g' f:=λn V=>by
  have:=Goes.meet RW.trans z q V;revert this;suffices ∀n g w,¬Goes P false (RW E.tyWg G1.Wg C 0 0 (1-1)) DC0 (λg w=>js2 P g w/\∃m,Goes P false (RW E.tyWg G1.Wg C 0 0 (1-1)) (DWs G1.Wg (λ_ _=>False) (λ_ _=>False) C 0 1) (AtR0 P E.tyWg G1.Wg C 0 0 1 b) m g w) n g w from this _ _ _
  intro n g w;have j:∀w,RW E.tyWg G1.Wg C 0 0 (1-1) w w:=λw=>⟨λ_ _ _ _=>rfl,id,id,rfl⟩
  have I:∀g w,(js2 P g w/\∃m,Goes P false (RW E.tyWg G1.Wg C 0 0 (1-1)) (DWs G1.Wg (λ_ _=>False) (λ_ _=>False) C 0 1) (AtR0 P E.tyWg G1.Wg C 0 0 1 b) m g w)->False:=λg w ⟨⟨g',d⟩,m,a⟩=>by
   have s:¬AtR0 P E.tyWg G1.Wg C 0 0 1 b g w:=λ⟨_,_,T,X,_⟩=>by
        rw[X]at d;simp[mk]at d
   cases m with
   |zero=>exact s (a w (j w))
   |succ m=>
    obtain a|⟨_,a⟩:=a
    .exact s (a w (j w))
    have:=a w (j w);rw[d]at this;exact(this.1.2 (mk .disable) oi).2.1 rfl
  induction n generalizing g w with
  |zero=>exact λh=>I g w (h w (j w))
  |succ n ih=>
   rintro (h|⟨_,h⟩)
   .exact I g w (h w (j w))
   have:=h w (j w);cases e:stepG P false g w with
   |go g' w' es=>rw[e]at this;exact ih _ _ this.2
   |_=>rw[e]at this;exact this.elim
 cases m with
 |zero=>exact a f l
 |succ m=>
  obtain a|⟨_,a⟩:=a
  .exact a f l
  have:=a f l;rw[d]at this;exact(U _ this.2).elim
end
section
open _root_.Go.Proofs.Tryz Go.Conc.Lib
abbrev lnk:WgLink:={add:=7,done:=9,wait:=11,relMerge:=19,disable:=20,enable:=21,inBubble:=22,associate:=23,fatal:=24,uOr:=25,uAdd:=26,raceRead:=27,uLoad:=28,uStore:=29,disassociate:=30,semrelease:=31,acquire:=32,isAssociated:=33,uCas:=34,raceWrite:=35,semacquire:=36,orU64:=46,addU64:=47,loadU64:=48,storeU64:=49,casU64:=50,tWgP:=61,tUP:=63,tAssoc:=65,tWg:=41,tAU:=38,tU64:=36,tUint:=46,tU32:=39,tPU32:=69,tPAU:=93,tPU64:=95,tNoCopy:=33,tANoCopy:=34,tAlign64:=35}
def jkz:WgLib prog lnk:=by constructor<;>intros<;>kernel_rfl
end
open Go.ConcN Go.RowKit Go.Conc.Lib Go.ConcR.Gen Go.ConcN.Gen
open Go.ConcR (KK wgBlock WgAt stA smA rd wr mk Payload Aside2 DC0)
variable {E:Env} {s:Vl->Wv} {t:Bool} {γ z:Gam} {B:Wl} {u:Gn} {G1:Grp}
def q7.by {m:Nat} (h:Goes P t (q9 E γ) DC0 (q7 P E s t γ) m g w):q7 P E s t γ g w:=q7.goes (λ_ _ h=>h) h λ_ w h=>h w (q9.refl _ _ _)
def q9.back {a b:Wl} {d:Ph} (h:q9 E (γ.to d) a b) (e:d.grp=γ.ph.grp) (c:γ.ph.wt=false):q9 E γ a b:=⟨h.own,h.rd,h.os,h.output,λG q=>h.wg G (by show d.grp=some G;rw[e];exact q),λq=>by rw[c]at q;cases q⟩
def WgL.cellA (h:WgL E A w):∃v,w.cell? (AD A 0)=some v:=let ⟨_,_,x⟩:=h;⟨_,Go.ConcR.WgAt.cellSt x⟩
def WgL.cellB (h:WgL E A w):∃v,w.cell? (AD A 1)=some v:=let ⟨_,_,x⟩:=h;⟨_,Go.ConcR.WgAt.cellSm x⟩
def q7.said {m:Mark} {a:Addr} (b:γ.ph.grp=some G1) (c:m=.read a\/m=.write a) (d:a.block=G1.Wg) (e:g.status=.running) (f:∀w,stepG P true g w=.go u w #[evM m]) (k:q7 P E s true γ u w):q7 P E s true γ g w:=
 q7.mk e λh i=>.said rfl b c d (f h) k.run (k.rely i)
def q7.enA {j:Nat} (a:γ.ph=.added G1 j) (b:g.status=.running) (c:∀w,stepG P true g w=.go u w #[evM .enable]) (k:q7 P E s true (γ.to (.ready G1 j)) u w):q7 P E s true γ g w:=
 q7.mk b λd e=>.enA rfl a (c d) k.run (k.rely (e.to oB))
def jmc (j:γ.ph.grp=some G1) (l:γ.ph.wt=false) (m:¬γ.own G1.Wg) (n:¬γ.rd G1.Wg) {f d:Int} (p:WgQ E G1.Wg w f d) (v:Int):q9 E γ w (w.setCell (stQ G1.Wg) (.int .u64 v)):=by
 have c:=Chg.cell (w:=w) (a:=stQ G1.Wg) (v:=.int .u64 v) (S:=λb=>b=G1.Wg) rfl;have o:∀b,b≠G1.Wg->(w.setCell (stQ G1.Wg) (.int .u64 v)).heap[b]?=w.heap[b]?:=λb r=>by
  by_cases h:b<w.heap.size
  .exact c.out b h r
  have:(w.setCell (stQ G1.Wg) (.int .u64 v)).heap.size=w.heap.size:=y5 _ _ _;rw[mQ oe,mQ oe]
 exact⟨λb h=>o b λe=>m (e▸h),λb h=>o b λe=>n (e▸h),c.os,c.output,λG h _=>by
  rw[j]at h;cases h;exact⟨v,d,Go.ConcR.WgAt.setSt (show WgAt E.tyWg G1.Wg w f d from p) v⟩,λq=>by rw[l]at q;cases q⟩
abbrev nxt (b:Fm) (a:Act):List Item->Option Fm
 |.inRegion _ []::k|.code .skip::k|.inBlock _::k=>some (b.at a k)
 |.code (.seq x y)::k=>some (b.at a (.code x::.code y::k))
 |.code (.block i c)::k=>some (b.at a (.code c::.inBlock i::k))
 |.code .ret::k=>some {b.at a (.code .ret::k)with mode:=.returning}
 |[]=>some {b.at a []with mode:=.returning}
 |_=>none
def oZ {b:Fm} {a:Act} {k:List Item} {d:List Fm} {S:Gn->Wv} {n:Nat} {i:Fm} (h:nxt b a k=some i) (g:Goes P t (q9 E γ) DC0 S n (G i d) w):Goes P t (q9 E γ) DC0 S (n+1) (G (b.at a k) d) w:=
 Goes.step rfl λc r=>by
  have e:stepG P t (G (b.at a k) d) c=.go (G i d) c:=by
   unfold nxt at h;split at h<;>cases h
   .exact stepG_region_end
   .exact stepG_skip
   .exact stepG_inBlock
   .exact stepG_seq
   .exact stepG_block
   .exact stepG_ret'
   exact stepG_end
  rw[e];exact⟨⟨rfl,rfl⟩,g.rely (λ_ _ _ p q=>p.trans q) r⟩
def Wz {p:Prop} {E:Env} {γ:Gam} {w:Wl} {I q:Wv} (F:I w) (R:∀{a b:Wl},I a->q9 E γ a b->I b) (k:∀w,I w->q w) (h:(∀{a b:Wl},I a->q9 E γ a b->I b)->I w->(∀w,I w->q w)->p:=by
 intro R F k;repeat (first|refine oZ (by with_reducible rfl) ?_|u_reg R F|u_cnd true R F|u_cnd false R F|u_skip R F|u_defer R F|u_op R F)
 exact k _ F):p:=h R F k
def Fz {p:Prop} {E:Env} {γ:Gam} {w:Wl} {I q:Wv} (R:∀{a b:Wl},I a->q9 E γ a b->I b) (F:I w) (k:∀w,I w->q w) (h:(∀{a b:Wl},I a->q9 E γ a b->I b)->I w->(∀w,I w->q w)->p:=by
 intro R F k;repeat (first|refine oZ (by with_reducible rfl) ?_|u_reg R F|u_cnd true R F|u_cnd false R F|u_skip R F|u_defer R F|u_op R F)
 exact k _ F):p:=h R F k
end Go.Proofs.YtbfkeoagmajcpaaGreatDoor
