import Derived.Test.YtbfkeoagmajcpaaGreatDoorSiteT
import Derived.Test.YtbfkeoagmajcpaaGreatDoorKGlOf
set_option maxRecDepth 100000
set_option linter.defProp false
set_option linter.unusedSectionVars false
set_option linter.unusedSimpArgs false
set_option linter.unusedVariables false
namespace Go.Proofs.YtbfkeoagmajcpaaGreatDoor
open _root_.Go.Proofs.Tryz
section
open Go.ChangeShapes
def jta:((List.range prog.types.size).all λu=>prog.typeName? 3 u !=some ("*"++ "errors.errorString")||u==320)=true:=oh
def jri:((List.range prog.types.size).all λe=>prog.typeName? 2 e !=some "errors.errorString"||(match (prog.info? e).map (·.desc)with|some (TypeDesc.named _ _)=>true|_=>false))=true:=oh
def ju1 (u:Tp) (h:prog.typeName? 3 u=some "*errors.errorString"):u=320:=typeName_ptr_named (nm:= "errors.errorString") jta jri oj u h
def jqr:∃f,prog.underlying 322=some (.struct #[f])/\f.type=9/\f.offset=0:=⟨_,underlying322,rfl,rfl⟩
def jnn:prog.cellsOf 322=1/\prog.cellsOf 9=1:=⟨oh,oh⟩
def jpj {W:Wl} {n:String} {y:List UInt8} {r:List (String×DataW Unit)} {g:Nat} {ti:Tp} (h:laidMet prog ((n,.iface "*errors.errorString" (.ptr (.agg [.lit (.string y)])))::r) W)
 (o:prog.globalNamed n=some g) (z:(prog.globals[g]?).map (·.type)=some ti) (k:∃p,prog.underlying ti=some (.interface p)):
 ∃b off u d t s,W.heap[g]?=some (.cells #[.iface 320 (.pointer (some (AD b off)))] u (0,0))/\W.heap[b]?=some (.cells d t (0,0))/\d[off]?=some (.string s):=by
 obtain⟨M,⟨N,O,q,P,Q,R,B,C,l,D,_,E⟩,_,m⟩:=h;obtain rfl:=mR (o.symm.trans B);obtain rfl:=mR (z.symm.trans C);obtain⟨p,k⟩:=k;obtain⟨f,F,G,H⟩:=jqr;subst E;have own:∀{x:Vl},q.toList=[x]->∃u,W.heap[g]?=some (.cells #[x] u (0,0)):=λ{x} hx=>by
  have I:q=#[x]:=Array.eq_one_of_toList hx;subst I;obtain⟨⟨c,t,j⟩,_⟩:=m g 0 (by simp[MemPlace.row]);unfold World.var? at l;rw[o,Option.bind_some,j]at l;exact⟨t,by rw[j,mR l]⟩
 obtain⟨a,s,J,i,_,_,rfl⟩:=errorString_of_trod k ju1 underlying320 F G H underlying9 jnn.1 jnn.2 D λu v e=>by
  obtain⟨t,j⟩:=own e;exact(m g 0 (by rw[Array.eq_one_of_toList e];simp[MemPlace.row])).2 u v (by simp[World.cell?,j])
 obtain⟨u,K⟩:=own J;obtain⟨b,off,L⟩:=a;obtain⟨⟨d,t,w⟩,_⟩:=m b off (by simp[MemPlace.row]);unfold World.cell? at i;simp only[w]at i;cases L with
 |some=>simp at i
 |none=>
  simp only[Option.isSome_none,Bool.false_eq_true,if_false]at i;exact⟨b,off,u,d,t,s,K,w,i⟩
end
noncomputable def jig:Wl:=(begin prog (λ_ _=>0) default).world
def jqz:((List.range 7).all λg=>((jig.heap[g]?).bind Obj.row?).isSome)=true:=oh
def jtb:(jig.heap[0]?).bind Obj.row?=some (#[U 0],3):=oh
def juo:((jig.heap[2]?).bind Obj.row?).map (·.1)=some #[.nilIface]:=oh
def jr0:jig.heap[7]?=some (.cells ((Array.range prog.types.size).map λt=>.int .u64 (Int.ofNat t)) 0):=oh
def jjf:prog.globals.size=7:=oh
variable {W:Wl}
variable {g:Nat} {t:Tp}
def jk7 (a:W.ShapedOpen prog) {z:Av} (b:g<7) (h:(jig.heap[g]?).bind Obj.row?=some (z,t)):∃i,W.heap[g]?=some (.cells i t)/\i.size=z.size:=by
 obtain⟨i,d,e,_⟩:=a.1 g z t (by rw[jjf];exact b) h;exact⟨i,d,e⟩
def jtc (b:W.ShapedOpen prog):W.heap[7]?=some (.cells ((Array.range prog.types.size).map λt=>.int .u64 (Int.ofNat t)) 0):=by
 have d:7<jig.heap.size:=(mw.1 jr0).1;obtain⟨o,f,h,i,a⟩:=b.2 7 (nk jjf) d;have e:o=f:=by
  rw[jjf]at a;simpa[World.looseAt]using a
 rw[h,e,<-i];exact jr0
variable {c:Av}
def jtq (h:∀x∈c,∃k z,x=.int k z) (p:Ren 7):VA ok1 p c c:=⟨rfl,λi x y a b=>by
 rw[a]at b;cases b;obtain⟨k,z,rfl⟩:=h x (mS a);exact .int k z⟩
def jje {n:String} {k:IntKind} {zs:List Int} (h:Lib.TabIs prog W n k zs) (b:prog.globalNamed n=some g) {f:Nat×Nat} (e:W.heap[g]?=some (.cells c t f)):∀x∈c,∃k z,x=.int k z:=by
 unfold Lib.TabIs World.var? at h;rw[b,Option.bind_some,e]at h;have h:c=_:=mR h;subst h;intro x a;rw[List.mem_toArray,List.mem_map]at a;obtain⟨z,_,rfl⟩:=a;exact⟨_,_,rfl⟩
def jsd:List Int:=[0,1,28,2,29,14,24,3,30,22,20,15,25,17,4,8,31,27,13,23,21,19,16,7,26,12,18,6,11,5,10,9]
def jr7:List Int:=[0,1,56,2,57,49,28,3,61,58,42,50,38,29,17,4,62,47,59,36,45,43,51,22,53,39,33,30,24,18,12,5,63,55,48,27,60,41,37,16,46,35,44,21,52,32,23,11,54,26,40,15,34,20,31,10,25,14,19,9,13,8,7,6]
def ju8 (h:laidMetH prog Rows.manyWorkersRow.laid W) (n:W.ShapedOpen prog):∃v w,jhi W v w:=by
 have R:laidMet prog [("math/bits.deBruijn32tab",Rows.laid_math_bits_deBruijn32tab),("math/bits.deBruijn64tab",Rows.laid_math_bits_deBruijn64tab),("internal/strconv.uint64pow10",Rows.laid_internal_strconv_uint64pow10),("strconv.ErrRange",Rows.laid_strconv_ErrRange),("strconv.ErrSyntax",Rows.laid_strconv_ErrSyntax)] W/\handlesMet prog [("errors.errorType",Rows.laid_errors_errorType)] W:=h;obtain⟨l,S⟩:=R;have A:Gl W:=jbw ⟨_,l.tail.tail⟩ ⟨_,l.tail.tail.tail⟩ S n;have T:Lib.TabIs prog W "math/bits.deBruijn32tab" .u8 jsd:=Lib.tabIs_of_head (g:=3) oh oh underlying279 underlying5 oh oh (zs:=jsd) l;have V:Lib.TabIs prog W "math/bits.deBruijn64tab" .u8 jr7:=Lib.tabIs_of_head (g:=4) oh oh underlying280 underlying5 oh oh (zs:=jr7) l.tail;obtain⟨w,off2,u2,d2,tt2,s2,D,E,F⟩:=jpj l.tail.tail.tail (g:=6) (ti:=24) oh oh ⟨_,underlying24⟩;obtain⟨v,off1,u1,d1,tt1,s1,G,H,I⟩:=jpj l.tail.tail.tail.tail (g:=5) (ti:=24) oh oh ⟨_,underlying24⟩;have J:=jtc n;obtain⟨m,X⟩:=A.ml;obtain⟨Y,K,Z⟩:=jk7 n oj jtb;obtain⟨ze,te,L⟩:∃z t,(jig.heap[2]?).bind Obj.row?=some (z,t)/\z.size=1:=by
  obtain⟨x,a,hy⟩:=mL.1 juo;exact⟨x.1,x.2,a,by rw[hy];rfl⟩
 obtain⟨M,N,se⟩:=jk7 n oj L.1;have O:∀{c:Av} {x:Vl},c.size=1->c[0]?=some x->c=#[x]:=λ{c x} j h2=>by
  apply Array.ext_getElem?;intro i;cases i with
  |zero=>rw[h2];rfl
  |succ i=>rw[mQ oe,mQ oi]
 have cmx:Y=#[U m]:=O Z (by simpa[World.cell?,K]using X);have P:M=#[.iface 267 (.agg #[.pointer (some (AD (7) (24)))])]:=O (se.trans L.2) (by simpa[World.cell?,N]using A.et);have cell:∀r,r<=7->∃c t,W.heap[r]?=some (.cells c t (0,0)):=λr B=>by
  by_cases q:r<7
  .have:=mW.1 jqz r (mT.2 q);obtain⟨⟨z,t⟩,C⟩:=Option.isSome_iff_exists.1 this;obtain⟨cs,j,_⟩:=jk7 n q C;exact⟨cs,t,j⟩
  obtain rfl:r=7:=oe;exact⟨_,_,J⟩
 have flat:∀r c t f,r<=7->r≠5->r≠6->W.heap[r]?=some (.cells c t f)->(∀x∈c,∃k z,x=.int k z)\/c=M:=λr c t f B o u e=>by
  have cs:r=0\/r=1\/r=2\/r=3\/r=4\/r=7:=oe;obtain rfl|rfl|rfl|rfl|rfl|rfl:=cs
  .rw[K]at e;cases e;left;rw[cmx];intro x a;exact⟨_,_,by simpa using a⟩
  .exact .inl (jje A.tab qr1 e)
  .rw[N]at e;cases e;exact .inr rfl
  .exact .inl (jje T oh e)
  .exact .inl (jje V oh e)
  rw[J]at e;cases e;left;intro x a;obtain⟨y,_,rfl⟩:=Array.mem_map.1 a;exact⟨_,_,rfl⟩
 have Q:∀{b off:Nat} {d:Av} {tt:Tp} {s:By},W.heap[b]?=some (.cells d tt (0,0))->d[off]?=some (.string s)->7<b:=λ{b off d tt s} j h2=>by
  by_cases q:b<=7
  .exfalso;by_cases o:b=5
   .subst o;rw[G]at j;cases j;cases off<;>simp at h2
   by_cases u:b=6
   .subst u;rw[D]at j;cases j;cases off<;>simp at h2
   obtain a|rfl:=flat b d tt _ q o u j
   .obtain⟨k,z,C⟩:=a _ (mS h2);cases C
   rw[P]at h2;cases off<;>simp at h2
  omega
 have pos:∀{d:Av} {off:Nat} {s:By},d[off]?=some (.string s)->d.size≠0:=λ{d off s} h q=>by
  rw[mQ oe]at h;cases h
 refine⟨v,w,⟨A,cell,λr c t f B o u e p hp=>?_,⟨_,_,_,G⟩,⟨_,_,_,D⟩,⟨_,_,H,pos I⟩,⟨_,_,E,pos F⟩,Q H I,Q E F⟩⟩;obtain a|rfl:=flat r c t f B o u e
 .exact jtq a p
 rw[P];exact Arr.one (.iface _ (VR.aggA (Arr.one (.ptr ⟨hp _ rfl,rfl,rfl⟩))))
end Go.Proofs.YtbfkeoagmajcpaaGreatDoor
