import Derived.Test.YtbfkeoagmajcpaaGreatDoorKOpen0
import Derived.Test.YtbfkeoagmajcpaaGreatDoorSiteU
import Derived.Conc.LeavingOf
import Derived.LaidMore
import Derived.Stop.Joined
set_option maxRecDepth 100000
set_option linter.defProp false
set_option linter.unusedSectionVars false
set_option linter.unusedSimpArgs false
set_option linter.unusedVariables false
namespace Go.Proofs.YtbfkeoagmajcpaaGreatDoor
open _root_.Go.Proofs.Tryz Go.ChangeShapes Go.WideShapes Go.ChangeAt Go.ChangeMaps Go.RowKit
def jvk (w0:Wl) (v:Vl) (w:Wl):Prop:=v=.bool true/\(∀b,b<w0.heap.size->w.heap[b]?=w0.heap[b]?)/\w.os=w0.os/\w.output=w0.output
def jr5 (w0:Wl) (sv:Vl) (n:Nat) (tx:Nat->By):Prop:=∃b c,sv=.slice b n c/\(0<n->∃bl o,b=some (AD bl o)/\bl<w0.heap.size/\∀j,j<n->w0.cell? (AD bl (o+j))=some (.string (tx j)))
def jnb:Prop:=∀(W:Wl) (b1 b2:Nat) (sv:Vl) (n:Nat) (tx:Nat->By) (x y:Int),jhi W b1 b2->n<9223372036854775808->jr5 W sv n tx->
 ∃M last o w' t',runNT prog (M+1) (Conc.solo (Conc.G (Frame.enter prog 3 #[sv,U x,U y] .normal) []) W) #[]=(.ended o w',t')/\runN prog M (Conc.solo (Conc.G (Frame.enter prog 3 #[sv,U x,U y] .normal) []) W)=.next last/\
  step prog last=.ended o w'/\Conc.Good prog (jvk W) last o w' t'
def jrk (a:Os) (args:Av):laidMetH prog Rows.manyWorkersRow.laid ((World.doorLaid prog 179 a).forCall (λ_ _=>0) ⟨#[],args,[]⟩).memory:=
 laidMetH_of_parts3 (fuel:=8) (laidMet_of_run' 8 oh oh) oh oh
def jqi:prog.cellsOf 9=1:=oh
def jlh (X:jnb) {H:Type} {A:Tp×Vl->H} (W:Wl) (base:Nat) (args:Av) (B gs:List (DataW H)) (Y:List MemPlace)
 (C:∀(j:Nat) t v,f3.params[j]?=some t->args[j]?=some v->Value.okWide prog W .any base t v) (D:DataW.Whole A prog f3.params.toList Rows.manyWorkersSpec.vars false W args.toList B gs Y)
 {E F:Nat} (Z:jhi W E F):
 ∃M e o w' m,runNT prog (M+1) (Conc.solo (Conc.G (Frame.enter prog 3 args .normal) []) W) #[]=(.ended o w',m)/\runN prog M (Conc.solo (Conc.G (Frame.enter prog 3 args .normal) []) W)=.next e/\
  step prog e=.ended o w'/\Conc.Good prog (λv W'=>Rows.manyWorkersSpec.post A prog f3 false true false false W args v W') e o w' m:=by
 have n:∀(j:Nat) t v,f3.params[j]?=some t->args[j]?=some v->Value.okWide prog W .any base t v:=C;have I:=D;obtain⟨p,q,J,hV0,rfl,hfz,hnd⟩:=D;have K:DataW.TrodAll A prog W 0 (λ_=>true) true f3.params.toList args.toList B p:=J;have L:DataW.TrodVars A prog W (λ_=>true) [] gs q:=hV0;rw[params3]at K n;obtain⟨N,vs0,d0,ds0,p0,q0,hargs,rfl,rfl,O,r0⟩:=trodAll_cons K;obtain⟨P,vs1,d1,ds1,p1,q1,rfl,rfl,rfl,h1,r1⟩:=trodAll_cons r0;obtain⟨Q,vs2,d2,ds2,p2,q2,rfl,rfl,rfl,h2,r2⟩:=trodAll_cons r1;obtain⟨rfl,rfl,rfl⟩:=trodAll_nil r2;obtain rfl:args=#[N,P,Q]:=by cases args;simp_all
 obtain⟨rfl,rfl⟩:gs=[]/\q=[]:=by
  cases gs with
  |nil=>exact⟨rfl,L⟩
  |cons g r=>exact absurd L (by intro h;cases h)
 obtain⟨x,rfl,rfl,rfl,ux⟩:=open_int underlying3 (n 1 3 P rfl rfl) h1;obtain⟨y,rfl,rfl,rfl,uy⟩:=open_int underlying3 (n 2 3 Q rfl rfl) h2;obtain⟨R,k,S,rfl⟩:=okWide_slice underlying22 (n 0 22 N rfl rfl);have s:∀z∈p0,z.block<W.heap.size:=λz c=>by simpa using I.lt z (by simp[c])
 have h0k:=O;obtain⟨fuel,hf⟩:=O;have texts:k<9223372036854775808/\∃tx,jr5 W (.slice R k S) k tx:=by
  obtain⟨l,_⟩|⟨a,len',cap',ss,l,_,hl',hm,c,hx,T,_⟩:=open_strings underlying22 underlying9 jqi hf
  .simp[Value.cells]at l;obtain⟨rfl,rfl,rfl⟩:=l;exact⟨oj,λ_=>⟨#[]⟩,_,_,rfl,λq=>absurd q oj⟩
  simp[Value.cells]at l;obtain⟨rfl,rfl,rfl⟩:=l;simp only[if_true]at c;refine⟨Nat.lt_of_le_of_lt (Nat.le_trans hl' hm) oj,λj=>ss.getD j ByteArray.empty,_,_,rfl,λhpos=>?_⟩;have c0:=T 0 oe;obtain⟨d,off,U⟩:=a;have hsp:U=none:=by
   cases U with
   |none=>rfl
   |some v=>
    exfalso;rw[show (Addr.add ⟨d,off,some v⟩ 0)=⟨d,off,some v⟩from rfl]at c0;have hz0:W.cell? ⟨d,off,some v⟩=none:=by
     unfold World.cell?;cases W.heap[d]?with
     |none=>rfl
     |some blk=>cases blk<;>rfl
    rw[hz0]at c0;cases c0
  subst hsp;refine⟨d,off,rfl,?_,λj hj=>?_⟩
  .have V:=congrArg Prod.snd hx;simp only at V;exact s (.cell d off) (by rw[V];exact MemPlace.mem_row.2 ⟨0,oe,oi⟩)
  have:=T j oe;rwa [add_plain]at this
 obtain⟨hn,tx,ht⟩:=texts;clear J C;obtain⟨M,e,o,w',m,e1,e2,e3,e4⟩:=X W E F (.slice R k S) k tx x y Z hn ht;refine⟨M,e,o,w',m,e1,e2,e3,e4.mono λv ⟨hv,u,ho,hout⟩=>?_⟩;subst hv;have same:∀z:MemPlace,z.block<W.heap.size->W.sameAt w' z:=λz c=>by
  cases z with
  |cell b o=>exact World.cell?_of_block (w:=W) (u b c)
  |map b=>exact u b c
 exact⟨_,_,_,[],_,[],I,trodAll_mk1 (shut_bool underlying4 _),trodAll_cons_mk (WideElems.Trod_stays laidOut oh (of_decide_eq_true oh) h0k (λz c=>same z (s z c)) (λz c=>by simpa using s z c)) (trodAll_cons_mk (shut_int underlying3 ux) (trodAll_cons_mk (shut_int underlying3 uy) trodAll_mk0)),rfl,⟨ho,hout,λi hi=>by
  rw[u i hi];split<;>simp_all⟩,λh=>by cases h⟩
end Go.Proofs.YtbfkeoagmajcpaaGreatDoor
