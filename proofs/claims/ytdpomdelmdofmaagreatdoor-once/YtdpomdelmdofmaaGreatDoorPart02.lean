/-
  Facts on the program that the card of Once wants, reckoned by the kernel.
-/
import Derived.Test.YtdpomdelmdofmaaGreatDoorPart00
import Derived.Test.YtdpomdelmdofmaaGreatDoorPart01
import Derived.WideAt
namespace Go.Proofs.YtdpomdelmdofmaaGreatDoor
section
set_option maxHeartbeats 4000000
open Go.ChangeShapes Go.WideShapes Go.ChangeAt Go.RowKit
theorem once_named:Tryz.prog.funcNamed "amend/amendkeep.Once" = some 14:=by kernel_rfl
theorem once_goes:false=Rows.onceRow.goesBy Tryz.pinned.checked.prog:=by kernel_rfl
theorem once_closed:joinedFacts Tryz.prog 14 Tryz.f14 Rows.onceSpec Rows.onceRow=true:=by
 unfold joinedFacts
 repeat' with_reducible apply and_t
 all_goals as_aux_lemma=>kernel_rfl
end
end Go.Proofs.YtdpomdelmdofmaaGreatDoor
