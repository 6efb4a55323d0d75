/-
  Plain facts on the functions of Sp: two spellings of one value.
-/
import Derived.Test.YtdpomdelmdofmaaGreatDoorPart39
import Derived.Test.YtdpomdelmdofmaaGreatDoorPart37
import Derived.Laws.BytesArg
import Derived.Laws.IdiomStrings
import Derived.Lib.MapLaws
import Derived.Test.YtdpomdelmdofmaaGreatDoorPart15
import Derived.BigRegion
import Derived.Deep.DeepCutAuto
namespace Go.Proofs.YtdpomdelmdofmaaGreatDoor
open Go.Maps
def Sp.Two (k:Nat) (a b:Sp.By):Prop:=∃ v,Sp.RdV k a v ∧ Sp.RdV k b v
theorem Sp.Two.mono {k k':Nat} {a b:Sp.By} (h:Sp.Two k a b) (hk:k ≤ k'):Sp.Two k' a b:=let ⟨v,h1,h2⟩:=h; ⟨v,h1.mono hk,h2.mono hk⟩
structure Sp.El where
 x:Sp.By
 p:Sp.By
 y:Sp.By
 q:Sp.By
 v:Sp.V
def Sp.El.ok (k:Nat) (e:Sp.El):Prop:=Sp.RdV k e.x e.v ∧ Sp.RdV k e.y e.v ∧ Sp.Bl e.p ∧ Sp.Bl e.q
def Sp.El.b (e:Sp.El):Sp.By:=e.p ++ (e.y ++ e.q)
def Sp.kA:List Sp.By:=[[],[34,107,34],[34,92,117,48,48,54,98,92,117,48,48,54,66,34],[34,126,47,34]]
structure Sp.Om where
 i:Nat
 x:Sp.By
 y:Sp.By
 p:Sp.By
 p1:Sp.By
 p2:Sp.By
 q:Sp.By
 v:Sp.V
def Sp.Om.ok (k:Nat) (m:Sp.Om):Prop:=Sp.RdV k m.x m.v ∧ Sp.RdV k m.y m.v ∧ Sp.Bl m.p ∧ Sp.Bl m.p1 ∧ Sp.Bl m.p2 ∧ Sp.Bl m.q
def Sp.Om.at (m:Sp.Om):Sp.By:=Sp.kA.getD m.i [] ++ 58 :: m.x
end Go.Proofs.YtdpomdelmdofmaaGreatDoor

namespace Go.Proofs.YtdpomdelmdofmaaGreatDoor
open Go.RowKit
def numAll:List Sp.By:=Sp.num7 ++ Sp.num0
theorem num_len {j:Nat} (hj:j < 13):(numAll.getD j []).length ≤ 8:=by
 have h:∀ j:Fin 13,(numAll.getD j.val []).length ≤ 8:=by decide
 exact h ⟨j,hj⟩
end Go.Proofs.YtdpomdelmdofmaaGreatDoor

namespace Go.Proofs.YtdpomdelmdofmaaGreatDoor
open Go.RowKit
def Op (A:ByteArray) (cs:List Nat) (n:Nat):Prop:=∃ A',A.data.toList = 34 :: A' ∧ Sp.Chs A' cs ∧ A.size ≤ 1 + 12 * n
end Go.Proofs.YtdpomdelmdofmaaGreatDoor

namespace Go.Proofs.YtdpomdelmdofmaaGreatDoor
open Go.RowKit
theorem ext_list (t:ByteArray) (p n:Nat):(t.extract p (p + n)).data.toList = (t.data.toList.drop p).take n:=by
 simp [List.take_drop]
end Go.Proofs.YtdpomdelmdofmaaGreatDoor
