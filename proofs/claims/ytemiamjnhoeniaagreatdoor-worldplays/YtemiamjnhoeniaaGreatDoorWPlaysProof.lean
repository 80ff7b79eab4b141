/-
  PROVED: whatever its arguments are, the law 'copselaw.WorldPlays' returns true, and its arguments read behind the call as before it; the one package-level variable on its road, errors.errorType, starts as the program's text lays it, which the card ties ('Rows.WorldPlaysCardSaid' whole; the tie is the given one; it speaks of the pruned copy of the project).
-/
import Derived.Test.YtemiamjnhoeniaaGreatDoorTie
import Derived.Test.YtemiamjnhoeniaaGreatDoorCards
import Derived.Test.YtemiamjnhoeniaaGreatDoorPlLaw
set_option maxRecDepth 100000
namespace Go.Proofs.YtemiamjnhoeniaaGreatDoor
open Go.ChangeShapes Go.WideShapes Go.ChangeAt Go.RowKit
theorem q1q:Tryz.prog.globalNamed "errors.errorType"=some 0:=by kernel_rfl
theorem q50:(Tryz.prog.cutTypes.find? (·.1== "internal/reflectlite.rtype")).map (·.2)=some 209:=by kernel_rfl
theorem q2k:((List.range 293).filter λt=>Tryz.prog.rowNamed t [101,114,114,111,114])=[25]:=by kernel_rfl
theorem qz3:Tryz.prog.types.size=293:=by kernel_rfl
theorem qm5 {W:World} (h:laidMetH Tryz.prog Rows.worldPlaysRow.laid W):W.cell? ⟨0,0,none⟩=some (.iface 209 (.agg #[.pointer (some ⟨1,25,none⟩)])):=by
 have c:laidMet Tryz.prog [] W/\handlesMet Tryz.prog Rows.worldPlaysRow.laid W:=h;obtain⟨d,u,e,f,g,i,j,a⟩:=c.2 _ (List.mem_singleton.2 rfl);have k:d=[101,114,114,111,114]:=(Option.some.inj f).symm;subst k;obtain rfl:=Option.some.inj (q50.symm.trans g);have b:e∈(List.range 293).filter λt=>Tryz.prog.rowNamed t [101,114,114,111,114]:=List.mem_filter.2 ⟨List.mem_range.2 (by rw[<-qz3];exact i),j⟩;rw[q2k]at b;obtain rfl:=List.mem_singleton.1 b
 have l:typeHandle Tryz.prog 25=.pointer (some ⟨1,25,none⟩):=by kernel_rfl
 rw[l]at a;simpa using World.var?_cell q1q a 0
theorem qha (os:Os) (u:os.Started) (H:Type) (enc:TypeId×Value->H):
 ReturnsInHanded {} Tryz.checked os 3 .any (λw args=>(Rows.worldPlaysSpec.pre enc Tryz.prog Tryz.f3 [] false w args/\laidMetH Tryz.prog Rows.worldPlaysRow.laid w)/\sizedMet enc Tryz.prog Tryz.f3 (OpenSpec.ofChange Rows.worldPlaysSpec) false w args)
  (Rows.worldPlaysSpec.post enc Tryz.prog Tryz.f3 false true false false):=by
 refine returnsInHanded_of_change_and (C:=Tryz.checked) (X:=λw _=>laidMetH Tryz.prog Rows.worldPlaysRow.laid w) (λ_ _ _ y h=>h.of_heap y) own u (by kernel_rfl) Tryz.func3
  (ChangeSpec.witness_at (enc:=enc) (C:=Tryz.checked) (os:=os) (X:=λw _=>laidMetH Tryz.prog Rows.worldPlaysRow.laid w) false ({(World.holding Tryz.prog os ⟨#[],#[],[]⟩)with heap:=(World.holding Tryz.prog os ⟨#[],#[],[]⟩).heap.modify 0 λ
    |.cells _ t frozen=>.cells #[.iface 209 (.agg #[.pointer (some ⟨1,25,none⟩)])] t frozen
    |o=>o}:World) #[.int .i64 0,.int .i64 0,.slice none 0 0] 8 rfl (by kernel_rfl) (by kernel_rfl) (by kernel_rfl) (by kernel_rfl) (by kernel_rfl) (laidMetH_of_parts (laidMet_nil _ _) (by kernel_rfl))) ?_
 intro W base args z gs V b c _ _ B _;have a:∀(j:Nat) t v,Tryz.f3.params[j]?=some t->args[j]?=some v->Value.okWide Tryz.prog W .any base t v:=b;have D:=c;obtain⟨p,q,d,E,rfl,Y,Z⟩:=c;have i:DataW.TrodAll enc Tryz.prog W 0 (λ_=>true) true Tryz.f3.params.toList args.toList z p:=d;have k:DataW.TrodVars enc Tryz.prog W (λ_=>true) [] gs q:=E;rw[Tryz.params3]at i a;obtain⟨v0,aa,d0,ab,p0,q0,hargs,rfl,rfl,F,G⟩:=trodAll_cons i;obtain⟨v1,vs1,d1,ds1,p1,q1,rfl,rfl,rfl,I,J⟩:=trodAll_cons G;obtain⟨v2,vs2,d2,ds2,p2,q2,rfl,rfl,rfl,l,K⟩:=trodAll_cons J;obtain⟨rfl,rfl,rfl⟩:=trodAll_nil K
 obtain rfl:args=#[v0,v1,v2]:=by cases args;simp_all
 have L:=qm5 B
 obtain⟨rfl,rfl⟩:gs=[]/\q=[]:=by
  cases gs with
  |nil=>exact⟨rfl,k⟩
  |cons g r=>exact absurd k (by intro h;cases h)
 obtain⟨x0,rfl,rfl,rfl,M⟩:=open_int Tryz.underlying3 (a 0 3 v0 rfl rfl) F;obtain⟨x1,rfl,rfl,rfl,N⟩:=open_int Tryz.underlying3 (a 1 3 v1 rfl rfl) I;have n:=l
 have O:∀x∈p2,x.block<W.heap.size:=by obtain⟨m,P⟩:=n;exact DataW.trod_lt m _ _ _ P
 obtain⟨Q,R,S,rfl,T⟩:=qwl (a 2 22 v2 rfl rfl) l;clear d b;refine(qwa x0 x1 Q R S W T L).mono λe W' ⟨U,s⟩=>?_;subst U;exact⟨_,rfl,_,_,_,[],_,[],D,trodAll_mk1 (shut_bool Tryz.underlying4 _),(trodAll_cons_mk (shut_int Tryz.underlying3 M) (trodAll_cons_mk (shut_int Tryz.underlying3 N) (trodAll_cons_mk (Below.trod q4w (by kernel_rfl) (of_decide_eq_true (by kernel_rfl)) n s O) trodAll_mk0))),rfl,s.frame _,λh=>by cases h⟩
theorem qip:Rows.WorldPlaysSaid:=
 OpenClaim.holds_of_wide 3 Tryz.f3 rfl rfl rfl rfl rfl rfl rfl ⟨rfl,rfl,rfl,rfl,rfl⟩ rfl rfl rfl rfl rfl (by kernel_rfl) Tryz.func3 (by kernel_rfl)
  (of_decide_eq_true (by kernel_rfl)) (by unfold Func.isWrapper;rw[if_neg (of_decide_eq_false (by kernel_rfl))];exact⟨rfl,rfl⟩)
  (λos a H enc _=>qha os a H enc)
theorem worldPlays_card:Rows.WorldPlaysCardSaid:=
 Claim7.holds_tied_plain_at .later [] [.handle] true _ true
  qip (λ_ h=>by cases h) (by kernel_rfl) (λ_ h=>by cases h) worldPlays_row_tie rfl ⟨rfl,rfl⟩ (by kernel_rfl) rfl
  (λf b c d=>by
    obtain rfl:f=3:=Option.some.inj ((show Tryz.prog.funcNamed Rows.worldPlaysRow.func=some 3 by kernel_rfl).symm.trans c)|>.symm;obtain rfl:b=Tryz.f3:=(Option.some.inj (Tryz.func3.symm.trans d)).symm
    exact⟨by kernel_rfl,λj t a=>by
        rw[Tryz.params3]at a
        have e:t=3\/t=22:=by
         rcases j with _|_|_|j
         ·exact .inl (by simpa using a.symm)
         ·exact .inl (by simpa using a.symm)
         ·exact .inr ((by simpa using a.symm))
         ·simp at a
        rcases e with rfl|rfl
        ·exact(show Tryz.prog.wantsStandIn 3=false by kernel_rfl)
        ·exact(show Tryz.prog.wantsStandIn 22=false by kernel_rfl)⟩)
  (by kernel_rfl)
end Go.Proofs.YtemiamjnhoeniaaGreatDoor
