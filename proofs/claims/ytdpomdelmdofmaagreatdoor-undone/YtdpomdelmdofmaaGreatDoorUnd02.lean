import Derived.Test.YtdpomdelmdofmaaGreatDoorUnd00
import Derived.Test.YtdpomdelmdofmaaGreatDoorUnd01
import Derived.WideAt
namespace Go.Proofs.YtdpomdelmdofmaaGreatDoor
open Go.Proofs.Tryz
section
set_option maxHeartbeats 4000000
open Go.ChangeShapes Go.WideShapes Go.ChangeAt Go.RowKit
theorem Mn:Tryz.prog.funcNamed "amend/amendkeep.Undone" = some 11:=by kernel_rfl
theorem NX:false=Rows.undoneRow.goesBy Tryz.pinned.checked.prog:=by kernel_rfl
theorem LV:joinedFacts Tryz.prog 11 Tryz.f11 Rows.undoneSpec Rows.undoneRow=true:=by
 unfold joinedFacts
 repeat' with_reducible apply YS
 all_goals as_aux_lemma=>kernel_rfl
end
end Go.Proofs.YtdpomdelmdofmaaGreatDoor
