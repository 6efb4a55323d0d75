/-
  Facts on the program that the card of Loads wants, reckoned by the kernel.
-/
import Derived.Test.YtdpomdelmdofmaaGreatDoorPart00
import Derived.Test.YtdpomdelmdofmaaGreatDoorPart02
import Derived.WideAt
namespace Go.Proofs.YtdpomdelmdofmaaGreatDoor
open Go.ChangeShapes Go.WideShapes Go.ChangeAt Go.RowKit

theorem loads_named : Tryz.prog.funcNamed "amend/amendlaw.Loads" = some 3 := by kernel_rfl
theorem loads_goes : false = Rows.loadsRow.goesBy Tryz.pinned.checked.prog := by kernel_rfl
set_option maxHeartbeats 4000000 in
theorem loads_closed : joinedFacts Tryz.prog 3 Tryz.f3 Rows.loadsSpec Rows.loadsRow = true := by
  unfold joinedFacts
  repeat' with_reducible apply and_t
  all_goals as_aux_lemma => kernel_rfl

end Go.Proofs.YtdpomdelmdofmaaGreatDoor
