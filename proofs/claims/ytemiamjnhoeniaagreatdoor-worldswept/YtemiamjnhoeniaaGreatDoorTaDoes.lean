/-
  A step of a tale (copsekeep's tale.does), as the model runs it, whatever it is.
-/
import Derived.Test.YtemiamjnhoeniaaGreatDoorTaDoesA
import Derived.Test.YtemiamjnhoeniaaGreatDoorTaDoesB
import Derived.Test.YtemiamjnhoeniaaGreatDoorTaDoesC
import Derived.Test.YtemiamjnhoeniaaGreatDoorTaDoesD
import Derived.Test.YtemiamjnhoeniaaGreatDoorTaDoesE
import Derived.Test.YtemiamjnhoeniaaGreatDoorSiteK
namespace Go.Proofs.YtemiamjnhoeniaaGreatDoor
open Go.RowKit

theorem tadoes_any {b : Nat} {G : Nat → Prop} {base : Nat → V4} {Tg T : TaleS} {m : Nat} (w : World) (h : TA w b G T) (hI : TI base Tg T m) (hm : m < 120) (a : ActS) (sw : Bool) (hg : w.cell? ⟨0, 0, none⟩ = some (.iface 209 (.agg #[.pointer (some ⟨1, 25, none⟩)]))) :
    Calls Tryz.prog 20 #[.pointer (some ⟨b, 0, none⟩), .agg #[.int .i64 a.what, .int .i64 a.k, .int .i64 a.n, .string a.data, .bool a.gone], .bool sw] w (DoesIs w b G T a sw) := by
  obtain ⟨what, ak, an, ad, ag⟩ := a
  by_cases q0 : what = 0
  · exact doesA_any w h hI hm what ak an ad ag sw hg (.inl q0)
  by_cases q1 : what = 1
  · exact doesA_any w h hI hm what ak an ad ag sw hg (.inr (.inl q1))
  by_cases q2 : what = 2
  · exact doesB_any w h hI hm what ak an ad ag sw hg (.inl q2)
  by_cases q3 : what = 3
  · exact doesB_any w h hI hm what ak an ad ag sw hg (.inr q3)
  by_cases q4 : what = 4
  · exact doesA_any w h hI hm what ak an ad ag sw hg (.inr (.inr q4))
  by_cases q5 : what = 5
  · exact doesC_any w h hI hm what ak an ad ag sw hg (.inl q5)
  by_cases q6 : what = 6
  · exact doesC_any w h hI hm what ak an ad ag sw hg (.inr (.inl q6))
  by_cases q7 : what = 7
  · exact doesD_any w h hI hm what ak an ad ag sw hg (.inl q7)
  by_cases q8 : what = 8
  · exact doesE_any w h hI hm what ak an ad ag sw hg (.inl q8)
  by_cases q9 : what = 9
  · exact doesE_any w h hI hm what ak an ad ag sw hg (.inr (.inl q9))
  by_cases q10 : what = 10
  · exact doesE_any w h hI hm what ak an ad ag sw hg (.inr (.inr q10))
  by_cases q11 : what = 11
  · exact doesC_any w h hI hm what ak an ad ag sw hg (.inr (.inr q11))
  by_cases q12 : what = 12
  · exact doesD_any w h hI hm what ak an ad ag sw hg (.inr q12)
  exact doesNo_any w h hI hm ak an ad ag sw hg what q0 q1 q2 q3 q4 q5 q6 q7 q8 q9 q10 q11 q12

end Go.Proofs.YtemiamjnhoeniaaGreatDoor

