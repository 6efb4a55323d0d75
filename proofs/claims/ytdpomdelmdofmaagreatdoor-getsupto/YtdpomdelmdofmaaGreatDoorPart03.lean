/-
  Facts on the program that the card of Gets wants, reckoned by the kernel.
-/
import Derived.Test.YtdpomdelmdofmaaGreatDoorPart00
import Derived.Test.YtdpomdelmdofmaaGreatDoorPart02
import Derived.WideAt
namespace Go.Proofs.YtdpomdelmdofmaaGreatDoor
open Go.ChangeShapes Go.WideShapes Go.ChangeAt Go.RowKit
theorem gets_named : Tryz.prog.funcNamed "amend/amendlaw.Gets" = some 7 := by kernel_rfl
theorem gets_goes : false = Rows.getsUptoRow.goesBy Tryz.pinned.checked.prog := by kernel_rfl
set_option maxHeartbeats 4000000 in
theorem gets_closed : joinedFacts Tryz.prog 7 Tryz.f7 (Rows.OpenSpec.upto Rows.getsSpec).bare Rows.getsUptoRow = true := by
 unfold joinedFacts
 repeat' with_reducible apply and_t
 all_goals as_aux_lemma => kernel_rfl
end Go.Proofs.YtdpomdelmdofmaaGreatDoor
