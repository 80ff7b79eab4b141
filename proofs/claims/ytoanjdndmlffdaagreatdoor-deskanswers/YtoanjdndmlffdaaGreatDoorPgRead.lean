import Derived.Test.YtoanjdndmlffdaaGreatDoorSiteA
namespace Go.Proofs.YtoanjdndmlffdaaGreatDoor
open Go.RowKit
theorem qc1 {tmps:Array Value} {w:World} {b:Nat} {v:Ver} {ev:Value} (h:qag w b (qah v)) (a:tmps[6]?=some (.pointer (some ⟨b,0,none⟩))) (c:tmps[7]?=some ev):
 (results Tryz.f259 tmps).run Tryz.prog w=.ok (.tuple #[.agg (qah v).toArray,ev]) w:=by
 obtain⟨z0,d,z2,z3,z4,z5⟩:=h.c6;simp[results,Tryz.results259,go_sem,a,c,z0,d,z2,z3,z4,z5,qah]
end Go.Proofs.YtoanjdndmlffdaaGreatDoor
