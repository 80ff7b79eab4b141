import Derived.Test.YtoanjdndmlffdaaGreatDoorGlOf
import Derived.Test.YtoanjdndmlffdaaGreatDoorSiteR
import Derived.LaidMore
import Derived.Lay
import Derived.SevenTiedAt
set_option maxRecDepth 100000
namespace Go.Proofs.YtoanjdndmlffdaaGreatDoor
open Go.ChangeShapes Go.WideShapes Go.ChangeAt Go.ChangeMaps Go.RowKit
theorem qy9:(Rows.laid_copse_copseref_forms:DataW Unit)=qe2:=rfl
variable {W:World}
theorem jbk (h:∃r,laidMet Tryz.prog (("copse/copseref.forms",Rows.laid_copse_copseref_forms)::r) W):qqx W:=by
 obtain⟨r,ps,⟨o,p,s,t,p0,u,c,f,g,d,_,v⟩,_⟩:=h;obtain rfl:=jcu ((show Tryz.prog.globalNamed "copse/copseref.forms"=some 0 by kernel_rfl).symm.trans c);obtain rfl:=jcu ((show (Tryz.prog.globals[0]?).map (·.type)=some 92 by kernel_rfl).symm.trans f);rw[qy9]at d;rcases WideElems.open_map Tryz.underlying92 d with ⟨_,a⟩|⟨bm,i,w,m,rfl,j,e,_,F,a⟩
 ·unfold qe2 at a;cases a
 simp only[Prod.mk.injEq]at a
 have k:W.cell? (AD 0 0)=some (.map (some bm)):=by
  have:=World.var?_cell c g 0;rw[Array.eq_one_of_toList j]at this;simpa using this
 have b:=World.ownsMap_of_fit (R:=plainElem Tryz.prog 9) e F (λx _ z l=>elemAt_plainElem_string Tryz.underlying9 l);rw[<-a.1]at b
 have n:i.size=19:=by
  have q:=a.1;unfold qe2 at q;injection q with q;have:=congrArg List.length q;rw[length_sorted,jdh,jdh,Array.length_toList]at this;exact this.symm
 rw[n]at b;exact⟨bm,k,b,(jcs.1 e).1⟩
noncomputable def qz0 (os:Os):World:=(World.doorLaid Tryz.prog 179 os).layVars Tryz.prog [("unicode/utf8.first",Rows.laid_unicode_utf8_first)]
theorem q6x (os:Os) (args:Array Value):laidMetH Tryz.prog Rows.deskAnswersRow.laid ((qz0 os).forCall (λ_ _=>0) ⟨#[],args,[]⟩).memory:=
 laidMetH_of_parts3 (fuel:=8) (laidMet_layVars (w0:=World.doorLaid Tryz.prog 179 os) ["unicode/utf8.first"] ((List.range (World.doorLaid Tryz.prog 179 os).heap.size).filter (λx=>Nat.beq x 4==false)) (by rfl) (by kernel_rfl) (by kernel_rfl)
  (LaidIn.of_run _ 8 (by kernel_rfl) (by kernel_rfl) (by kernel_rfl) (by kernel_rfl))) (by kernel_rfl) (by kernel_rfl)
theorem qx6 (h:laidMetH Tryz.prog Rows.deskAnswersRow.laid W) (b:W.ShapedOpen Tryz.prog):Gl W/\qqx W:=by
 have a:laidMet Tryz.prog [("math/bits.deBruijn32tab",Rows.laid_math_bits_deBruijn32tab),("math/bits.deBruijn64tab",Rows.laid_math_bits_deBruijn64tab),("internal/strconv.uint64pow10",Rows.laid_internal_strconv_uint64pow10),("unicode/utf8.acceptRanges",Rows.laid_unicode_utf8_acceptRanges),("strconv.ErrRange",Rows.laid_strconv_ErrRange),("strconv.ErrSyntax",Rows.laid_strconv_ErrSyntax),("copse/copseref.forms",Rows.laid_copse_copseref_forms),("unicode/utf8.first",Rows.laid_unicode_utf8_first)] W/\handlesMet Tryz.prog [("errors.errorType",Rows.laid_errors_errorType)] W:=h;exact⟨jbw ⟨_,a.1.tail.tail⟩ ⟨_,a.1.tail.tail.tail.tail⟩ a.2 b,jbk ⟨_,a.1.tail.tail.tail.tail.tail.tail⟩⟩
theorem qm1 {H:Type} {enc:TypeId×Value->H} (W:World) (m:Nat) (args:Array Value) (n a:List (DataW H)) (o:List MemPlace)
 (b:∀(j:Nat) t v,Tryz.f4.params[j]?=some t->args[j]?=some v->Value.okWide Tryz.prog W .any m t v) (c:DataW.Whole enc Tryz.prog Tryz.f4.params.toList Rows.deskAnswersSpec.vars false W args.toList n a o) (g:Gl W/\qqx W):
 Ca 4 args W λe W'=>∃v,e=.returned v/\Rows.deskAnswersSpec.post enc Tryz.prog Tryz.f4 false true false false W args v W':=by
 have d:=b;have s:=c;obtain⟨p,q,f,u,rfl,C,D⟩:=c;have i:=f;have k:DataW.TrodVars enc Tryz.prog W (λ_=>true) [] a q:=u;rw[Tryz.params4]at i d;obtain⟨l,E,F,G,p0,I,J,rfl,rfl,w,x⟩:=trodAll_cons i;obtain⟨rfl,rfl,rfl⟩:=trodAll_nil x
 obtain rfl:args=#[l]:=by cases args;simp_all
 obtain⟨rfl,rfl⟩:a=[]/\q=[]:=by
  cases a with
  |nil=>exact⟨rfl,k⟩
  |cons g r=>exact absurd k (by intro h;cases h)
 obtain⟨s0,rfl,rfl,rfl,y⟩:=open_string Tryz.underlying9 (d 0 9 l rfl rfl) w;clear f b;refine(qs3 s0 W g.1 g.2).mono λe W' ⟨z,B⟩=>?_;subst z;exact⟨_,rfl,_,_,_,[],_,[],s,trodAll_mk1 (shut_bool Tryz.underlying4 _),trodAll_cons_mk (shut_string Tryz.underlying9 y) trodAll_mk0,rfl,B.frame _,λh=>by cases h⟩
theorem qk6 (os:Os) (b:os.Started) (H:Type) (enc:TypeId×Value->H):
 ReturnsInHanded {} Tryz.checked os 4 .any (λw args=>(Rows.deskAnswersSpec.pre enc Tryz.prog Tryz.f4 [] false w args/\laidMetH Tryz.prog Rows.deskAnswersRow.laid w)/\sizedMet enc Tryz.prog Tryz.f4 (OpenSpec.ofChange Rows.deskAnswersSpec) false w args)
  (Rows.deskAnswersSpec.post enc Tryz.prog Tryz.f4 false true false false):=by
 refine returnsInHanded_of_calls own b (by kernel_rfl)
  (ChangeSpec.witness_shaped (enc:=enc) (C:=Tryz.checked) (os:=os) (fn:=Tryz.f4) (s:=Rows.deskAnswersSpec) (conds:=[]) (apart:=false) (X:=λw _=>laidMetH Tryz.prog Rows.deskAnswersRow.laid w) false (qz0 os) #[.string ⟨#[]⟩] 8 (World.layVars_os _ _ _) (World.shaped_of_RefB (by kernel_rfl) (by kernel_rfl)) (by kernel_rfl) (by kernel_rfl) (by kernel_rfl) (q6x os _)) ?_
 intro w a i _ c _ d f _;obtain⟨_,_,_,fn,g,_,_,_,_,h⟩:=d;obtain rfl:fn=Tryz.f4:=jcu (g.symm.trans Tryz.func4);obtain⟨⟨⟨j,k,l,m,_⟩,n⟩,_⟩:=f;refine(qm1 (w.forCall a i) w.heap.size i.args j k l h (DataW.Whole.of_heap (w':=w.forCall a i) (by rfl) m) (qx6 (n.of_heap (by rfl)) c)).mono λe W' ⟨v,o,p⟩=>?_;subst o;exact ChangeSpec.post_blind p
end Go.Proofs.YtoanjdndmlffdaaGreatDoor
