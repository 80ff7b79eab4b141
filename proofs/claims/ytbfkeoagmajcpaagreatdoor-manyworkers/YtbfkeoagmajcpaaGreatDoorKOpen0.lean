import Derived.Test.YtbfkeoagmajcpaaGreatDoorSiteA
set_option linter.defProp false
namespace Go.Proofs.YtbfkeoagmajcpaaGreatDoor
open _root_.Go.Proofs.Tryz Go.ChangeShapes Go.WideShapes Go.ChangeAt Go.RowKit Go.Joins
def own:ownKnob prog.godebug=none:=oh
def laidOut:laidOutB prog=true:=oh
end Go.Proofs.YtbfkeoagmajcpaaGreatDoor
