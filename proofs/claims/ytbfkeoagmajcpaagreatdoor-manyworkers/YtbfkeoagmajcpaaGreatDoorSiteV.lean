/-
  PROVED: whatever its arguments are, the law 'copsekeep.ManyWorkers' returns true, and its arguments read behind the call as before it, in every run of its goroutines; the package-level variables on its road start as the program's text lays them, which the card ties ('Rows.ManyWorkersCardSaid' whole).
-/
import Derived.Test.YtbfkeoagmajcpaaGreatDoorKMwProof1
import Derived.Test.YtbfkeoagmajcpaaGreatDoorTie
import Derived.Test.YtbfkeoagmajcpaaGreatDoorCards
set_option maxRecDepth 100000
set_option linter.defProp false
set_option linter.unusedSectionVars false
set_option linter.unusedSimpArgs false
set_option linter.unusedVariables false
namespace Go.Proofs.YtbfkeoagmajcpaaGreatDoor
open _root_.Go.Proofs.Tryz
section
open Go.ChangeShapes Go.WideShapes Go.ChangeAt Go.ChangeMaps Go.RowKit
def jh6 (a:jnb) (os:Os) (b:os.Started) (H:Type) (enc:Tp×Vl->H):
 ReturnsInLeavingWide {} checked os 3 .any (λw args=>(Rows.manyWorkersSpec.pre enc prog f3 [] false w args/\laidMetH prog Rows.manyWorkersRow.laid w)/\sizedMet enc prog f3 (OpenSpec.ofChange Rows.manyWorkersSpec) false w args)
  (Rows.manyWorkersSpec.post enc prog f3 false true false false):=by
 refine returnsInLeavingWide_of_good own b
  (ChangeSpec.witness_shaped (enc:=enc) (C:=checked) (os:=os) (fn:=f3) (s:=Rows.manyWorkersSpec) (conds:=[]) (apart:=false) (X:=λw _=>laidMetH prog Rows.manyWorkersRow.laid w) false (World.doorLaid prog 179 os) #[.slice none 0 0,U 0,U 0] 8 rfl (World.shaped_of_RefB oh oh) oh oh oh (jrk os _)) ?_
 intro w tape i _ c _ d e _;obtain⟨_,_,_,fn,g,_,_,_,_,h⟩:=d;obtain rfl:fn=f3:=mR (g.symm.trans func3);obtain⟨⟨⟨j,gs,k,l,_⟩,m⟩,_⟩:=e;obtain⟨z,B,n⟩:=ju8 (m.of_heap (w':=w.forCall tape i) (by rfl)) c;obtain⟨M,p,o,w',q,r,t,u,x⟩:=jlh a (w.forCall tape i) w.heap.size i.args j gs k h (DataW.Whole.of_heap (w':=w.forCall tape i) (by rfl) l) n;exact⟨M,p,o,w',q,r,t,u,x.mono λv y=>ChangeSpec.post_blind y⟩
def ji0 (a:jnb):Rows.ManyWorkersSaid:=
 OpenClaim.holds_of_wide_leaving 3 f3 rfl rfl rfl rfl rfl rfl rfl ⟨rfl,rfl,rfl,rfl,rfl⟩ rfl rfl rfl rfl rfl oh func3 oh
  (of_decide_eq_true oh) (by unfold Func.isWrapper;rw[if_neg (of_decide_eq_false oh)];exact⟨rfl,rfl⟩)
  (λos b H enc _=>jh6 a os b H enc)
def jqm (d:Looks) {p:Pinned} {s:OpenSpec} {c:OpenClaim} (kinds:List LaidKind) (e:Bool) (a:Bool×String) (b:Bool)
 (g:c.holds p s) (i:c.wfByText s=true) (k:c.laidByTextAt d p kinds e)
 (l:c.start=.entering) (m:c.noBlocks=false/\c.again=false) (n:p.checked.prog.mainIs=some (a.1,a.2.toList)) (o:(!a.1&&a.2.isEmpty&&!b)=false)
 (q:∀f fn,p.checked.prog.funcNamed c.func=some f->p.checked.prog.funcs[f]?=some fn->b=p.checked.prog.looks []/\∀(j:Nat) t,fn.params[j]?=some t->p.checked.prog.wantsStandIn t=false)
 (r:true=c.goesBy p.checked.prog):
 Claim7.holds p (.plain s) {stood:={row:=c,standIns:=[],harness:=a,looks:=b},kinds:=[],alts:=[],goes:=true,laidByText:=true,laidKinds:=kinds,laidTests:=e,laidLooks:=d}:=by
 have u:Claim7.isSixth {stood:={row:=c,standIns:=[],harness:=a,looks:=b},kinds:=[]}=false:=by simpa[Claim7.isSixth]using o
 exact⟨Claim7.tied_new_at d kinds e (Claim7.new_of_sixth g a b l m n u q) i,λD v=>(by cases v),k,(λh=>by cases h),r⟩
def jhx (b:jnb):Rows.ManyWorkersCardSaid:=
 jqm .later [.data,.data,.data,.handle,.sentinel,.sentinel] true _ true
  (ji0 b) oh manyWorkers_row_tie rfl ⟨rfl,rfl⟩ oh rfl
  (λf fn c d=>by
    obtain rfl:f=3:=mR ((show prog.funcNamed Rows.manyWorkersRow.func=some 3 by kernel_rfl).symm.trans c)|>.symm;obtain rfl:fn=f3:=(mR (func3.symm.trans d)).symm
    exact⟨by kernel_rfl,λj t a=>by
        rw[params3]at a;have e:t=22\/t=3:=by
         obtain _|_|_|j:=j
         .exact .inl (by simpa using a.symm)
         .exact .inr (by simpa using a.symm)
         .exact .inr (by simpa using a.symm)
         simp at a
        obtain rfl|rfl:=e
        .exact(show prog.wantsStandIn 22=false by kernel_rfl)
        exact(show prog.wantsStandIn 3=false by kernel_rfl)⟩)
  oh
end
open Go.Conc in
def ju5:jnb:=by
 intro W C D A n tx x y d i g;have j:=jr3 (w0:=W) (a:=x) (b:=y) (tx:=tx) jua jto ju9 (jpo d) i (by obtain⟨b,c,h,_⟩:=g;exact⟨b,c,h⟩) (λ_=>g) (jsw d);obtain⟨M,k,o,w',l,m,p,r,v,s,t,u,w,z,B⟩:=j.ends (λ_ q=>q.elim) (λ_ q=>q) (λ_ q=>q.elim) (jvd jua (jpo d));have e:Frame.enter prog 3 #[A,U x,U y] .normal=(base 3).at ⟨#[A,U x,U y]++Array.replicate (f3.ntmps-3) undef,[]⟩ [.code (f3.body.getD .skip)]:=
  Go.Conc.enter_at _ func3 oh
 rw[e];exact⟨M,k,o,w',l,m,p,r,v,s,t,u,w,z,B⟩
theorem manyWorkers_card:Rows.ManyWorkersCardSaid:=jhx ju5
end Go.Proofs.YtbfkeoagmajcpaaGreatDoor
