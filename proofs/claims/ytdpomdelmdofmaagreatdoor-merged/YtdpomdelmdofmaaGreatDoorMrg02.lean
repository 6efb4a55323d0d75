/-
  Facts on the program that the card of Merged wants, reckoned by the kernel.
-/
import Derived.Test.YtdpomdelmdofmaaGreatDoorMrg00
import Derived.Test.YtdpomdelmdofmaaGreatDoorMrg01
import Derived.WideAt
namespace Go.Proofs.YtdpomdelmdofmaaGreatDoor
section
set_option maxHeartbeats 4000000
open Go.ChangeShapes Go.WideShapes Go.ChangeAt Go.RowKit
theorem merged_named:Tryz.prog.funcNamed "amend/amendkeep.Merged" = some 13:=by kernel_rfl
theorem merged_goes:false=Rows.mergedRow.goesBy Tryz.pinned.checked.prog:=by kernel_rfl
theorem merged_closed:joinedFacts Tryz.prog 13 Tryz.f13 Rows.mergedSpec Rows.mergedRow=true:=by
 unfold joinedFacts
 repeat' with_reducible apply and_t
 all_goals as_aux_lemma=>kernel_rfl
end
end Go.Proofs.YtdpomdelmdofmaaGreatDoor
