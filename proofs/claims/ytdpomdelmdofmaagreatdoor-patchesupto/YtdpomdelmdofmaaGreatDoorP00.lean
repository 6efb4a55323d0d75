import Derived.Test.YtdpomdelmdofmaaGreatDoorCards
import Derived.SevenTiedAt
namespace Go.Proofs.YtdpomdelmdofmaaGreatDoor
open Go.Proofs.Tryz
theorem oR{a b:Bool}(ha:a=true)(hb:b=true):(a && b)=true:=by grind
theorem gC:Tryz.pinned.checked.prog.mainIs=some (true, "8c174ce42d7d731ff02ab5ebb1f1fdb4f61f3f84a6bd551b7a8b7c5a17f966fc".toList):=by kernel_rfl
theorem Zy:true=Tryz.pinned.checked.prog.looks []:=by kernel_rfl
