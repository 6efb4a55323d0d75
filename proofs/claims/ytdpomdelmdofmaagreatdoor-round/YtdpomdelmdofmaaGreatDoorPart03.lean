/-
  Facts on the program that the card of Round wants, reckoned by the kernel.
-/
import Derived.Test.YtdpomdelmdofmaaGreatDoorPart00
import Derived.Test.YtdpomdelmdofmaaGreatDoorPart02
import Derived.WideAt
namespace Go.Proofs.YtdpomdelmdofmaaGreatDoor
open Go.ChangeShapes Go.WideShapes Go.ChangeAt Go.RowKit

theorem round_named : Tryz.prog.funcNamed "amend/amendkeep.Round" = some 4 := by kernel_rfl
theorem round_goes : false = Rows.roundRow.goesBy Tryz.pinned.checked.prog := by kernel_rfl
set_option maxHeartbeats 4000000 in
theorem round_closed : joinedFacts Tryz.prog 4 Tryz.f4 Rows.roundSpec Rows.roundRow = true := by
  unfold joinedFacts
  repeat' with_reducible apply and_t
  all_goals as_aux_lemma => kernel_rfl

end Go.Proofs.YtdpomdelmdofmaaGreatDoor
