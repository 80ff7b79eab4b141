import Derived.Test.YtemiamjnhoeniaaGreatDoorSiteA
namespace Go.Proofs.YtemiamjnhoeniaaGreatDoor
open Go.RowKit
theorem qcg {tmps:Array Value} {w:World} {b:Nat} {v:Ver} {ev:Value} (h:qag w b (qah v)) (a:tmps[6]?=some (.pointer (some ⟨b,0,none⟩))) (c:tmps[7]?=some ev):
 (results Tryz.f124 tmps).run Tryz.prog w=.ok (.tuple #[.agg (qah v).toArray,ev]) w:=by
 obtain⟨d,e,g,i,j,k⟩:=h.c6;simp[results,Tryz.results124,go_sem,a,c,d,e,g,i,j,k,qah]
end Go.Proofs.YtemiamjnhoeniaaGreatDoor
