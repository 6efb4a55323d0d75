import Derived.Test.YtdpomdelmdofmaaGreatDoorPfx00
import Derived.Test.YtdpomdelmdofmaaGreatDoorPfx01
import Derived.WideAt
set_option maxHeartbeats 4000000
namespace Go.Proofs.YtdpomdelmdofmaaGreatDoor
open Go.Proofs.Tryz Go.ChangeShapes Go.WideShapes Go.ChangeAt Go.RowKit
theorem MD:Tryz.prog.funcNamed "amend/amendkeep.Prefix" = some 6:=by kernel_rfl
theorem N8:false=Rows.prefixUptoRow.goesBy Tryz.pinned.checked.prog:=by kernel_rfl
theorem LK:joinedFacts Tryz.prog 6 Tryz.f6 (Rows.OpenSpec.upto Rows.prefixSpec).bare Rows.prefixUptoRow=true:=by
 unfold joinedFacts
 repeat' with_reducible apply YR
 all_goals as_aux_lemma=>kernel_rfl
end Go.Proofs.YtdpomdelmdofmaaGreatDoor
