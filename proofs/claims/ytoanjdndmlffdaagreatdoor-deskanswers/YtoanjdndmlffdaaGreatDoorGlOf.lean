import Derived.Test.YtoanjdndmlffdaaGreatDoorRows
import Derived.Test.YtoanjdndmlffdaaGreatDoorSiteM
import Derived.LaidHandle
import Derived.Stop.LaidErr
namespace Go.Proofs.YtoanjdndmlffdaaGreatDoor
theorem q47:Tryz.prog.globalNamed "errors.errorType"=some 3:=by kernel_rfl
theorem jbn:(Tryz.prog.cutTypes.find? (·.1== "internal/reflectlite.rtype")).map (·.2)=some 312:=by kernel_rfl
theorem q5p:((List.range 377).filter λt=>Tryz.prog.rowNamed t [101,114,114,111,114])=[37]:=by kernel_rfl
theorem q1i:Tryz.prog.types.size=377:=by kernel_rfl
variable {W:World}
theorem jbe (h:handlesMet Tryz.prog [("errors.errorType",Rows.laid_errors_errorType)] W):W.cell? (AD 3 0)=some (.iface 312 (.agg #[.pointer (some (AD 10 37))])):=by
 obtain⟨k,u,c,d,e,f,g,a⟩:=h _ (jcj.2 rfl);have i:=(jcu d).symm;subst i;obtain rfl:=jcu (jbn.symm.trans e);have b:c∈(List.range 377).filter λt=>Tryz.prog.rowNamed t [101,114,114,111,114]:=jdq.2 ⟨List.mem_range.2 (by rw[<-q1i];exact f),g⟩;rw[q5p]at b;obtain rfl:=jcj.1 b
 have j:typeHandle Tryz.prog 37=.pointer (some (AD 10 37)):=by kernel_rfl
 rw[j]at a;simpa using World.var?_cell q47 a 0
theorem qpr {P:Program} {n c:String} {d:DataW Unit} {r:List (String×DataW Unit)} {g:Nat} {a:TypeId} {f:Array (String×TypeId)} (h:laidMet P ((n,.iface c d)::r) W) (i:P.globalNamed n=some g) (j:(P.globals[g]?).map (·.type)=some a) (hi:P.underlying a=some (.interface f)):∃t p,W.cell? (AD g 0)=some (.iface t p):=by
 obtain⟨ps,⟨o,q,s,w,p0,x,b,k,l,m,_,y⟩,_⟩:=h;obtain rfl:=jcu (i.symm.trans b);obtain rfl:=jcu (j.symm.trans k);obtain⟨_,u,v,e,_⟩:=iface_of_trod hi m;have:=World.var?_cell b l 0;rw[Array.eq_one_of_toList e]at this;exact⟨u,v,by simpa using this⟩
theorem jbw (c:∃r,laidMet Tryz.prog (("internal/strconv.uint64pow10",Rows.laid_internal_strconv_uint64pow10)::r) W) (a:∃r,laidMet Tryz.prog (("strconv.ErrRange",Rows.laid_strconv_ErrRange)::("strconv.ErrSyntax",Rows.laid_strconv_ErrSyntax)::r) W) (e:handlesMet Tryz.prog [("errors.errorType",Rows.laid_errors_errorType)] W) (d:W.ShapedOpen Tryz.prog):Gl W:=by
 obtain⟨f,c⟩:=c;obtain⟨g,a⟩:=a
 have b:∃o,W.heap[9]?=some o:=by
  obtain⟨i,h,_⟩:=d.1 9 (Array.replicate 64 (.int .u8 0)) 330 (of_decide_eq_true (by kernel_rfl)) (by kernel_rfl);exact⟨_,h⟩
 obtain⟨o,b⟩:=b;have b:=(jcs.1 b).1;exact⟨by omega,jbe e,Lib.tabIs_of_head qr1 (by kernel_rfl) Tryz.underlying252 Tryz.underlying192 (by kernel_rfl) (by kernel_rfl) (zs:=Lib.pow10Tab) c,qpr a.tail (by kernel_rfl) (by kernel_rfl) Tryz.underlying37,qpr a (by kernel_rfl) (by kernel_rfl) Tryz.underlying37,cell_of_shapedOpen_int (t:=3) (zero:=#[U 0]) d (of_decide_eq_true (by kernel_rfl)) (by kernel_rfl) rfl (by kernel_rfl) (by kernel_rfl) Tryz.underlying3⟩
end Go.Proofs.YtoanjdndmlffdaaGreatDoor
