import Derived.Test.YtdpomdelmdofmaaGreatDoorProg
import Derived.Shelf.SlicesE.Delete
import Derived.Shelf.SlicesE.Clone
import Derived.Shelf.SlicesE.Equal
namespace Go.Proofs
open Go.Shelf
def Tryz.eDelete_ren:Go.Shelf.Ren:=⟨fun|45=>290|n=>n,fun|22=>106|23=>80|3=>3|4=>4|0=>0|n=>n,fun|n=>n⟩
theorem Tryz.eDelete:Go.Proofs.SlLaysE.n45 Tryz.prog Tryz.eDelete_ren:=by
 constructor
 case f45=>exact⟨Tryz.f290.name,by decide,Tryz.func290.trans (congrArg some (by kernel_rfl))⟩
 all_goals first|kernel_rfl|(intro w;kernel_rfl)|decide
def Tryz.eClone_ren:Go.Shelf.Ren:=⟨fun|41=>289|n=>n,fun|22=>121|23=>9|4=>4|n=>n,fun|n=>n⟩
theorem Tryz.eClone:Go.Proofs.SlLaysE0.n41 Tryz.prog Tryz.eClone_ren:=by
 constructor
 case f41=>exact⟨Tryz.f289.name,by decide,Tryz.func289.trans (congrArg some (by kernel_rfl))⟩
 all_goals first|kernel_rfl|(intro w;kernel_rfl)|decide
def Tryz.eEqual_ren:Go.Shelf.Ren:=⟨fun|33=>202|n=>n,fun|22=>121|23=>9|4=>4|3=>3|0=>0|n=>n,fun|n=>n⟩
theorem Tryz.eEqual:Go.Proofs.SlLaysE.n33 Tryz.prog Tryz.eEqual_ren:=by
 constructor
 case f33=>exact⟨Tryz.f202.name,by decide,Tryz.func202.trans (congrArg some (by kernel_rfl))⟩
 all_goals first|kernel_rfl|(intro w;kernel_rfl)|decide
end Go.Proofs
