/-
  PROVED: whatever its argument is, the law 'copselaw.DeskAnswers' returns true, and its argument reads behind the call as before it; the package-level variables on its road start as the program's text lays them, which the card ties ('Rows.DeskAnswersCardSaid' whole; the tie is the given one; it speaks of the pruned copy of the project).
-/
import Derived.Test.YtoanjdndmlffdaaGreatDoorTie
import Derived.Test.YtoanjdndmlffdaaGreatDoorCards
import Derived.Test.YtoanjdndmlffdaaGreatDoorAnProof0
set_option maxHeartbeats 8000000
set_option maxRecDepth 100000
namespace Go.Proofs.YtoanjdndmlffdaaGreatDoor
open Go.ChangeShapes Go.WideShapes Go.ChangeAt Go.ChangeMaps Go.RowKit
theorem qpx:joinedFacts Tryz.pinned.checked.prog 4 Tryz.f4 Rows.deskAnswersSpec Rows.deskAnswersRow=true:=by
 unfold joinedFacts;simp only[jct]
 repeat' apply And.intro
 all_goals (as_aux_lemma=>kernel_rfl)
theorem qmw:Rows.DeskAnswersSaid:=
 OpenClaim.holds_of_wide 4 Tryz.f4 rfl rfl rfl rfl rfl rfl rfl ⟨rfl,rfl,rfl,rfl,rfl⟩ rfl rfl rfl rfl rfl (by kernel_rfl) Tryz.func4 qpx
  (of_decide_eq_true (by kernel_rfl)) (by unfold Func.isWrapper;rw[if_neg (of_decide_eq_false (by kernel_rfl))];exact⟨rfl,rfl⟩)
  (λos a H enc _=>qk6 os a H enc)
theorem deskAnswers_card:Rows.DeskAnswersCardSaid:=
 Claim7.holds_tied_plain_at .later [] [.data,.data,.data,.data,.handle,.sentinel,.sentinel,.mapped,.pinned] true _ true
  qmw (λ_ h=>by cases h) (by kernel_rfl) (λ_ h=>by cases h) deskAnswers_row_tie rfl ⟨rfl,rfl⟩ (by kernel_rfl) rfl
  (λf fn b c=>by
    obtain rfl:f=4:=jcu ((show Tryz.prog.funcNamed Rows.deskAnswersRow.func=some 4 by kernel_rfl).symm.trans b)|>.symm;obtain rfl:fn=Tryz.f4:=(jcu (Tryz.func4.symm.trans c)).symm
    exact⟨by kernel_rfl,λj t a=>by
        rw[Tryz.params4]at a
        have d:t=9:=by
         rcases j with _|j
         ·simpa using a.symm
         ·simp at a
        subst d
        exact(show Tryz.prog.wantsStandIn 9=false by kernel_rfl)⟩)
  (by kernel_rfl)
end Go.Proofs.YtoanjdndmlffdaaGreatDoor
