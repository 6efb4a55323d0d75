/-
  Facts on the program that the card of Rolled wants, reckoned by the kernel.
-/
import Derived.Test.YtdpomdelmdofmaaGreatDoorPart00
import Derived.Test.YtdpomdelmdofmaaGreatDoorPart01
import Derived.WideAt
namespace Go.Proofs.YtdpomdelmdofmaaGreatDoor
open Go.ChangeShapes Go.WideShapes Go.ChangeAt Go.RowKit
theorem rolled_named:Tryz.prog.funcNamed "amend/amendkeep.Rolled" = some 9:=by kernel_rfl
theorem rolled_goes:false = Rows.rolledRow.goesBy Tryz.pinned.checked.prog:=by kernel_rfl
set_option maxHeartbeats 4000000 in
theorem rolled_closed:joinedFacts Tryz.prog 9 Tryz.f9 Rows.rolledSpec Rows.rolledRow = true:=by
 unfold joinedFacts
 repeat' with_reducible apply and_t
 all_goals as_aux_lemma=>kernel_rfl
end Go.Proofs.YtdpomdelmdofmaaGreatDoor
