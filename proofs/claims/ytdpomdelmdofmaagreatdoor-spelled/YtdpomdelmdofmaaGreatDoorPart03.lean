/-
  Facts on the program that the card of Spelled wants, reckoned by the kernel.
-/
import Derived.Test.YtdpomdelmdofmaaGreatDoorPart00
import Derived.Test.YtdpomdelmdofmaaGreatDoorPart02
import Derived.WideAt
namespace Go.Proofs.YtdpomdelmdofmaaGreatDoor
open Go.ChangeShapes Go.WideShapes Go.ChangeAt Go.RowKit

theorem spelled_named : Tryz.prog.funcNamed "amend/amendkeep.Spelled" = some 5 := by kernel_rfl
theorem spelled_goes : false = Rows.spelledRow.goesBy Tryz.pinned.checked.prog := by kernel_rfl
set_option maxHeartbeats 4000000 in
theorem spelled_closed : joinedFacts Tryz.prog 5 Tryz.f5 Rows.spelledSpec Rows.spelledRow = true := by
  unfold joinedFacts
  repeat' with_reducible apply and_t
  all_goals as_aux_lemma => kernel_rfl

end Go.Proofs.YtdpomdelmdofmaaGreatDoor
