import Derived.Test.YtoanjdndmlffdaaGreatDoorSiteA
namespace Go.Proofs.YtoanjdndmlffdaaGreatDoor
open Go.RowKit
theorem qa2 {tmps:Array Value} {w:World} {b:Nat} {v:Ver} {ev:Value} (h:qd w b (qh v)) (a:tmps[6]?=some (PP b)) (c:tmps[7]?=some ev):
 (results Tryz.f259 tmps).run Tryz.prog w=.ok (.tuple #[.agg (qh v).toArray,ev]) w:=by
 obtain⟨d,e,f,g,i,j⟩:=h.c6;simp[results,Tryz.results259,go_sem,a,c,d,e,f,g,i,j,qh]
end Go.Proofs.YtoanjdndmlffdaaGreatDoor
