/-
  Plain facts on the functions of Sp: values spelled with blanks between their parts.
-/
import Derived.Test.YtdpomdelmdofmaaGreatDoorMrg31
import Derived.Test.YtdpomdelmdofmaaGreatDoorMrg27
import Derived.Test.YtdpomdelmdofmaaGreatDoorMrg29
import Derived.Laws.BytesArg
import Derived.Laws.IdiomStrings
import Derived.Lib.MapLaws
import Derived.Test.YtdpomdelmdofmaaGreatDoorMrg13
import Derived.BigRegion
import Derived.Deep.DeepCutAuto
import Derived.Lib.SplitLaws
import Derived.Test.YtdpomdelmdofmaaGreatDoorMrg26
namespace Go.Proofs.YtdpomdelmdofmaaGreatDoor
section
open Go.Maps
def Sp.RdV (k:Nat) (l:Sp.By) (v:Sp.V):Prop:=Sp.Hd l ∧ ∀ (f:Nat) (lv:Int) (fl:Sp.Fl) (r:Sp.By),k<f→Sp.Nd r → ∃fl',Sp.val f lv (l++r) fl=some (v,r,fl') ∧ ∀d,lv+k≤d→Sp.OkF d 2 fl→Sp.OkF d 2 fl'
theorem Sp.RdV.mono {k k':Nat} {l:Sp.By} {v:Sp.V} (h:Sp.RdV k l v) (hk:k≤k'):Sp.RdV k' l v :=
 ⟨h.1,fun f lv fl r hf hr=>let ⟨fl',h1,h2⟩:=h.2 f lv fl r (by omega) hr; ⟨fl',h1,fun d hd=>h2 d (by omega)⟩⟩
structure Sp.Mb where
 p:Sp.By
 kq:Sp.By
 p1:Sp.By
 p2:Sp.By
 x:Sp.By
 q:Sp.By
 key:Sp.By
 v:Sp.V
def Sp.Mb.core (m:Sp.Mb):Sp.By:=m.kq++(m.p1++58::(m.p2++m.x))
def Sp.Mb.y (m:Sp.Mb):Sp.By×Sp.By×Sp.By:=(m.p,m.core,m.q)
def Sp.Mb.ok (k:Nat) (m:Sp.Mb):Prop:=Sp.Bl m.p∧(∃t,m.kq=34::t)∧(∀l,Sp.quo (m.kq++l)=some (m.key,l))∧Sp.Bl m.p1∧Sp.Bl m.p2∧Sp.RdV k m.x m.v∧Sp.Bl m.q
end

section
open Go.Maps
def Sp.Two (k:Nat) (a b:Sp.By):Prop:=∃v,Sp.RdV k a v∧Sp.RdV k b v
theorem Sp.Two.mono {k k':Nat} {a b:Sp.By} (h:Sp.Two k a b) (hk:k≤k'):Sp.Two k' a b:=let ⟨v,h1,h2⟩:=h; ⟨v,h1.mono hk,h2.mono hk⟩
structure Sp.El where
 x:Sp.By
 p:Sp.By
 y:Sp.By
 q:Sp.By
 v:Sp.V
def Sp.El.ok (k:Nat) (e:Sp.El):Prop:=Sp.RdV k e.x e.v∧Sp.RdV k e.y e.v∧Sp.Bl e.p∧Sp.Bl e.q
def Sp.El.b (e:Sp.El):Sp.By:=e.p++(e.y++e.q)
def Sp.pre (xs:List Sp.By):Sp.By:=xs.flatMap fun t=>t++[44]
def Sp.kA:List Sp.By:=[[],[34,107,34],[34,92,117,48,48,54,98,92,117,48,48,54,66,34],[34,126,47,34]]
structure Sp.Om where
 i:Nat
 x:Sp.By
 y:Sp.By
 p:Sp.By
 p1:Sp.By
 p2:Sp.By
 q:Sp.By
 v:Sp.V
def Sp.Om.ok (k:Nat) (m:Sp.Om):Prop:=Sp.RdV k m.x m.v∧Sp.RdV k m.y m.v∧Sp.Bl m.p∧Sp.Bl m.p1∧Sp.Bl m.p2∧Sp.Bl m.q
def Sp.Om.at (m:Sp.Om):Sp.By:=Sp.kA.getD m.i []++58::m.x
end

section
open Go.RowKit
def numAll:List Sp.By:=Sp.num7++Sp.num0
theorem num_len {j:Nat} (hj:j<13):(numAll.getD j []).length≤8:=by
 have h:∀j:Fin 13,(numAll.getD j.val []).length≤8:=by decide
 exact h ⟨j,hj⟩
end

section
open Go.RowKit
def Op (A:ByteArray) (cs:List Nat) (n:Nat):Prop:=∃A',A.data.toList=34::A'∧Sp.Chs A' cs∧A.size≤1+12*n
end

section
open Go.RowKit Go.Maps
theorem wpList_look {P:Program} {w:World} {ops:Array Oper} {rest:List Oper} {o:Oper} {a:Act} {Q:Exit→Act→World→Prop} (hg:o.guard=none) (m x:Operand) (t:TypeId) (c:Bool) (hop:o.op=Op.lookup t m x c)
  (mv key r:Value) (hm:a.eval m=mv) (hx:a.eval x=key) (hrun:(Instr.lookup t mv key c).run P w = .ok r w) (hK:wpList P ops Q rest (a.put o.dst r) w):wpList P ops Q (o::rest) a w:=by
 refine wpList_plain hg fun K' hK'=>?_
 unfold Oper.wp
 simp[execOp,hop,hm,hx,hrun,Result.andThen]
 exact hK' _ _ hK
theorem tokG_slice {w:World} {G:Nat→Prop} {v:Value} {l:List Sp.By} (h:TokG w G v l):∃a n c,v = .slice a n c:=by
 rcases h with⟨_,a,c,rfl,_⟩|⟨g,o,cap,rfl,_⟩
 ·exact⟨_,_,_,rfl⟩
 ·exact⟨_,_,_,rfl⟩
section
variable {f:Nat} {F:Nat→Prop} {w:World} {v:Value} {d:Sp.V} {m:Nat}
end
end
end Go.Proofs.YtdpomdelmdofmaaGreatDoor
