import Derived.Test.YtdpomdelmdofmaaGreatDoorUnd28
import Derived.Laws.BytesArg
import Derived.Laws.IdiomStrings
import Derived.Lib.MapLaws
namespace Go.Proofs.YtdpomdelmdofmaaGreatDoor
open Go.Proofs.Tryz
section
def Sp.blks:List Sp.By:=[[],[32],[10],[9,13]]
def Sp.Bl(b:Sp.By):Prop:=b∈Sp.blks
theorem X8{b:Sp.By}(h:Sp.Bl b):∀c∈b,Sp.isB c=true:=by
 unfold Sp.Bl Sp.blks at h;simp only[List.mem_cons,List.not_mem_nil,or_false] at h;rcases h with rfl|rfl|rfl|rfl;all_goals decide
theorem Sp.Bl.nd{b:Sp.By}(h:Sp.Bl b){r:Sp.By}(hr:Sp.Nd r):Sp.Nd (b++r):=by
 cases b with
 | nil=>exact hr
 | cons c t =>
  intro c' t' e;injection e with e1 e2;subst e1;have:=X8 h c (by simp);unfold Sp.isB at this;simp only[Bool.or_eq_true,beq_iff_eq] at this;rcases this with ((rfl|rfl)|rfl)|rfl;all_goals exact⟨by decide,by decide,by decide,by decide⟩
def Sp.num7:List Sp.By:=[[55],[55,46,48],[55,48,101,45,49],[48,46,55,69,49],[55,101,48],[55,46,48,48,101,43,48],[55,48,48,69,45,50],[48,46,48,48,55,101,51]]
def Sp.num0:List Sp.By:=[[45,48],[48],[48,46,48],[48,101,57,57],[45,48,46,48,69,45,53]]
def Sp.Ch(p:Sp.By)(c:Nat):Prop:=∀l,Sp.chr (p++l)=some (c,l)/\Sp.tk (p++l) 34=false
inductive Sp.Chs:Sp.By->List Nat->Prop
 | nil:Sp.Chs [] []
 | snoc {a:Sp.By} {cs:List Nat} {p:Sp.By} {c:Nat}:Sp.Chs a cs->Sp.Ch p c->Sp.Chs (a++p) (cs++[c])
end

section
open Go.Maps
def Sp.RdV(k:Nat)(l:Sp.By)(v:Sp.V):Prop:=Sp.Hd l /\ ∀ (f:Nat) (lv:Int) (fl:Sp.Fl) (r:Sp.By),k<f->Sp.Nd r -> ∃fl',Sp.val f lv (l++r) fl=some (v,r,fl') /\ ∀d,lv+k<=d->Sp.OkF d 2 fl->Sp.OkF d 2 fl'
theorem Sp.RdV.mono{k k':Nat}{l:Sp.By}{v:Sp.V}(h:Sp.RdV k l v)(hk:k<=k'):Sp.RdV k' l v :=
 ⟨h.1,fun f lv fl r hf hr=>let ⟨fl',h1,h2⟩:=h.2 f lv fl r (by omega) hr; ⟨fl',h1,fun d hd=>h2 d (by omega)⟩⟩
structure Sp.Mb where
 p:Sp.By
 kq:Sp.By
 p1:Sp.By
 p2:Sp.By
 x:Sp.By
 q:Sp.By
 key:Sp.By
 v:Sp.V
def Sp.Mb.core(m:Sp.Mb):Sp.By:=m.kq++(m.p1++58::(m.p2++m.x))
def Sp.Mb.y(m:Sp.Mb):Sp.By×Sp.By×Sp.By:=(m.p,m.core,m.q)
def Sp.Mb.ok(k:Nat)(m:Sp.Mb):Prop:=Sp.Bl m.p/\(∃t,m.kq=34::t)/\(∀l,Sp.quo (m.kq++l)=some (m.key,l))/\Sp.Bl m.p1/\Sp.Bl m.p2/\Sp.RdV k m.x m.v/\Sp.Bl m.q
end

section
open Go.Maps
def Sp.Two(k:Nat)(a b:Sp.By):Prop:=∃v,Sp.RdV k a v/\Sp.RdV k b v
theorem Sp.Two.mono{k k':Nat}{a b:Sp.By}(h:Sp.Two k a b)(hk:k<=k'):Sp.Two k' a b:=let ⟨v,h1,h2⟩:=h; ⟨v,h1.mono hk,h2.mono hk⟩
structure Sp.El where
 x:Sp.By
 p:Sp.By
 y:Sp.By
 q:Sp.By
 v:Sp.V
def Sp.El.ok(k:Nat)(e:Sp.El):Prop:=Sp.RdV k e.x e.v/\Sp.RdV k e.y e.v/\Sp.Bl e.p/\Sp.Bl e.q
def Sp.El.b(e:Sp.El):Sp.By:=e.p++(e.y++e.q)
def Sp.kA:List Sp.By:=[[],[34,107,34],[34,92,117,48,48,54,98,92,117,48,48,54,66,34],[34,126,47,34]]
structure Sp.Om where
 i:Nat
 x:Sp.By
 y:Sp.By
 p:Sp.By
 p1:Sp.By
 p2:Sp.By
 q:Sp.By
 v:Sp.V
def Sp.Om.ok(k:Nat)(m:Sp.Om):Prop:=Sp.RdV k m.x m.v/\Sp.RdV k m.y m.v/\Sp.Bl m.p/\Sp.Bl m.p1/\Sp.Bl m.p2/\Sp.Bl m.q
def Sp.Om.at(m:Sp.Om):Sp.By:=Sp.kA.getD m.i []++58::m.x
end

section
open Go.RowKit
def Ru:List Sp.By:=Sp.num7++Sp.num0
theorem OV{j:Nat}(hj:j<13):(Ru.getD j []).length<=8:=by
 have h:∀j:Fin 13,(Ru.getD j.val []).length<=8:=by decide
 exact h ⟨j,hj⟩
end

section
open Go.RowKit
def Op(A:ByteArray)(cs:List Nat)(n:Nat):Prop:=∃A',A.data.toList=34::A'/\Sp.Chs A' cs/\A.size<=1+12*n
end

section
open Go.RowKit
theorem Us(t:ByteArray)(p n:Nat):(t.extract p (p+n)).data.toList=(t.data.toList.drop p).take n:=by
 simp[List.take_drop]
end
end Go.Proofs.YtdpomdelmdofmaaGreatDoor
