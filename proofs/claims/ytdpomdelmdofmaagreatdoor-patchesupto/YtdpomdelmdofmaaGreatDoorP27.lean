import Derived.Test.YtdpomdelmdofmaaGreatDoorP00
import Derived.Test.YtdpomdelmdofmaaGreatDoorP26
import Derived.WideAt
set_option maxHeartbeats 4000000
namespace Go.Proofs.YtdpomdelmdofmaaGreatDoor
open Go.Proofs.Tryz Go.ChangeShapes Go.WideShapes Go.ChangeAt Go.RowKit
theorem OI:Tryz.prog.funcNamed "amend/amendlaw.Patches" = some 8:=by kernel_rfl
theorem Pz:false=Rows.patchesUptoRow.goesBy Tryz.pinned.checked.prog:=δ
theorem MS:joinedFacts Tryz.prog 8 Tryz.f8 (Rows.OpenSpec.upto Rows.patchesSpec).bare Rows.patchesUptoRow=true:=by
 unfold joinedFacts
 repeat' with_reducible apply oR
 all_goals as_aux_lemma=>kernel_rfl
