import Derived.Test.YtbfkeoagmajcpaaGreatDoorRows
import Derived.Test.YtbfkeoagmajcpaaGreatDoorSiteK
import Derived.LaidHandle
import Derived.Stop.LaidErr
set_option linter.defProp false
namespace Go.Proofs.YtbfkeoagmajcpaaGreatDoor
open _root_.Go.Proofs.Tryz
def q47:prog.globalNamed "errors.errorType"=some 2:=oh
def jbn:(prog.cutTypes.find? (·.1== "internal/reflectlite.rtype")).map (·.2)=some 267:=oh
def q5p:((List.range 350).filter λt=>prog.rowNamed t [101,114,114,111,114])=[24]:=oh
def q1i:prog.types.size=350:=oh
variable {W:Wl}
def jbe (h:handlesMet prog [("errors.errorType",Rows.laid_errors_errorType)] W):W.cell? (AD 2 0)=some (.iface 267 (.agg #[.pointer (some (AD 7 24))])):=by
 obtain⟨k,u,c,d,e,f,g,a⟩:=h _ (jcj.2 rfl);have i:=(jcu d).symm;subst i;obtain rfl:=jcu (jbn.symm.trans e);have b:c∈(List.range 350).filter λt=>prog.rowNamed t [101,114,114,111,114]:=jdq.2 ⟨mT.2 (by rw[<-q1i];exact f),g⟩;rw[q5p]at b;obtain rfl:=jcj.1 b
 have j:typeHandle prog 24=.pointer (some (AD 7 24)):=oh;rw[j]at a;simpa using World.var?_cell q47 a 0
def qpr {P:Pq} {n c:String} {d:DataW Unit} {r:List (String×DataW Unit)} {g:Nat} {a:Tp} {f:Array (String×Tp)} (h:laidMet P ((n,.iface c d)::r) W) (i:P.globalNamed n=some g) (j:(P.globals[g]?).map (·.type)=some a) (z:P.underlying a=some (.interface f)):∃t p,W.cell? (AD g 0)=some (.iface t p):=by
 obtain⟨A,⟨o,q,s,w,p0,x,b,k,l,m,_,y⟩,_⟩:=h;obtain rfl:=jcu (i.symm.trans b);obtain rfl:=jcu (j.symm.trans k);obtain⟨_,u,v,e,_⟩:=iface_of_trod z m;have:=World.var?_cell b l 0;rw[Array.eq_one_of_toList e]at this;exact⟨u,v,by simpa using this⟩
def jbw (c:∃r,laidMet prog (("internal/strconv.uint64pow10",Rows.laid_internal_strconv_uint64pow10)::r) W) (a:∃r,laidMet prog (("strconv.ErrRange",Rows.laid_strconv_ErrRange)::("strconv.ErrSyntax",Rows.laid_strconv_ErrSyntax)::r) W) (e:handlesMet prog [("errors.errorType",Rows.laid_errors_errorType)] W) (d:W.ShapedOpen prog):Gl W:=by
 obtain⟨f,c⟩:=c;obtain⟨g,a⟩:=a;obtain⟨o,_,b,_⟩:=d.2 7 (nk oh) (of_decide_eq_true oh);have b:=(jcs.1 b).1;exact⟨oe,jbe e,Lib.tabIs_of_head qr1 oh underlying198 underlying36 oh oh (zs:=Lib.pow10Tab) c,qpr a.tail oh oh underlying24,qpr a oh oh underlying24,cell_of_shapedOpen_int (t:=3) (zero:=#[U 0]) d (of_decide_eq_true oh) oh rfl oh oh underlying3⟩
end Go.Proofs.YtbfkeoagmajcpaaGreatDoor
