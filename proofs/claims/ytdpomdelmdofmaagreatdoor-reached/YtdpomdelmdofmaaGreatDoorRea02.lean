import Derived.Test.YtdpomdelmdofmaaGreatDoorRea00
import Derived.Test.YtdpomdelmdofmaaGreatDoorRea01
import Derived.WideAt
set_option maxHeartbeats 4000000
namespace Go.Proofs.YtdpomdelmdofmaaGreatDoor
open Go.Proofs.Tryz Go.ChangeShapes Go.WideShapes Go.ChangeAt Go.RowKit
theorem Nj:Tryz.prog.funcNamed "amend/amendkeep.Reached" = some 12:=by kernel_rfl
theorem N9:false=Rows.reachedRow.goesBy Tryz.pinned.checked.prog:=by kernel_rfl
theorem Lu:joinedFacts Tryz.prog 12 Tryz.f12 Rows.reachedSpec Rows.reachedRow=true:=by
 unfold joinedFacts
 repeat' with_reducible apply cS
 all_goals as_aux_lemma=>kernel_rfl
end Go.Proofs.YtdpomdelmdofmaaGreatDoor
