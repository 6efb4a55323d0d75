import Derived.Test.YtdpomdelmdofmaaGreatDoorPfx19
namespace Go.Proofs.YtdpomdelmdofmaaGreatDoor
open Go.Proofs.Tryz Go.RowKit Go.Maps
def cZ:Nat->Nat->By->Option Nat
 | 0,v,_=>some v
 | _+1,_,[]=>none
 | k+1,v,c::r=>if 128<=c.toNat/\c.toNat<192 then cZ k (64*v+c.toNat-128) r else none
def bW(c:Nat):Nat×Nat:=
 if 240<=c/\c<248 then (4,c-240) else if 224<=c/\c<240 then (3,c-224) else if 192<=c/\c<224 then (2,c-192) else if 128<=c then (0,0) else (1,c)
def dM(n:Nat):Nat:=if n=2 then 128 else if n=3 then 2048 else if n=4 then 65536 else 0
def dA(l:By):Nat×Nat:=match l with
 | []=>(0,0)
 | c::r=>if (bW c.toNat).1=0\/r.length+1<(bW c.toNat).1 then (0,0) else match cZ ((bW c.toNat).1-1) (bW c.toNat).2 r with
  | none=>(0,0)
  | some v=>if v<dM (bW c.toNat).1\/1114111<v\/(55296<=v/\v<57344) then (0,0) else (v,(bW c.toNat).1)
def u8(l:By):Bool:=if _h:l=[] then true else if _h2:(dA l).2=0 then false else u8 (l.drop (dA l).2)
termination_by l.length
decreasing_by
 have:0<l.length:=List.length_pos_iff.2 _h;rw[List.length_drop];omega
def dB:List By:=[[],[32],[10],[9,13]]
def Bl(b:By):Prop:=b∈dB
theorem X0{b:By}(h:Bl b):∀c∈b,bP c=true:=by
 unfold Bl dB at h;simp only[List.mem_cons,List.not_mem_nil,or_false] at h;rcases h with rfl|rfl|rfl|rfl;all_goals decide
theorem Bl.nd{b:By}(h:Bl b){r:By}(hr:Nd r):Nd (b++r):=by
 cases b with
 | nil=>exact hr
 | cons c t=>
  intro c' t' e;injection e with e1 e2;subst e1;have:=X0 h c (by simp);unfold bP at this;simp only[Bool.or_eq_true,beq_iff_eq] at this;rcases this with ((rfl|rfl)|rfl)|rfl;all_goals exact⟨by decide,by decide,by decide,by decide⟩
def dN:List By:=[[55],[55,46,48],[55,48,101,45,49],[48,46,55,69,49],[55,101,48],[55,46,48,48,101,43,48],[55,48,48,69,45,50],[48,46,48,48,55,101,51]]
def dO:List By:=[[45,48],[48],[48,46,48],[48,101,57,57],[45,48,46,48,69,45,53]]
def Ch(p:By)(c:Nat):Prop:=∀l,Z5 (p++l)=some (c,l)/\Zn (p++l) 34=false
inductive cM:By->List Nat->Prop
 | nil:cM [] []
 | snoc {a:By} {cs:List Nat} {p:By} {c:Nat}:cM a cs->Ch p c->cM (a++p) (cs++[c])
def bB(k:Nat)(l:By)(v:To):Prop:=Hd l /\ ∀ (f:Nat) (lv:Int) (fl:Fl) (r:By),k<f->Nd r -> ∃fl',ZD f lv (l++r) fl=some (v,r,fl') /\ ∀d,lv+k<=d->aZ d 2 fl->aZ d 2 fl'
theorem bB.mono{k k':Nat}{l:By}{v:To}(h:bB k l v)(hk:k<=k'):bB k' l v:=
 ⟨h.1,fun f lv fl r hf hr=>let ⟨fl',h1,h2⟩:=h.2 f lv fl r (by omega) hr; (by grind)⟩
structure cN where
 p:By
 kq:By
 p1:By
 p2:By
 x:By
 q:By
 key:By
 v:To
def cN.core(m:cN):By:=m.kq++(m.p1++58::(m.p2++m.x))
def cN.y(m:cN):By×By×By:=(m.p,m.core,m.q)
def cN.ok(k:Nat)(m:cN):Prop:=Bl m.p/\(∃t,m.kq=34::t)/\(∀l,aE (m.kq++l)=some (m.key,l))/\Bl m.p1/\Bl m.p2/\bB k m.x m.v/\Bl m.q
def cS(k:Nat)(a b:By):Prop:=∃v,bB k a v/\bB k b v
theorem cS.mono{k k':Nat}{a b:By}(h:cS k a b)(hk:k<=k'):cS k' a b:=let ⟨v,h1,h2⟩:=h; ⟨v,h1.mono hk,h2.mono hk⟩
structure El where
 x:By
 p:By
 y:By
 q:By
 v:To
def El.ok(k:Nat)(e:El):Prop:=bB k e.x e.v/\bB k e.y e.v/\Bl e.p/\Bl e.q
def El.b(e:El):By:=e.p++(e.y++e.q)
def dW(xs:List By):By:=xs.flatMap fun t=>t++[44]
def kA:List By:=[[],[34,107,34],[34,92,117,48,48,54,98,92,117,48,48,54,66,34],[34,126,47,34]]
structure Om where
 i:Nat
 x:By
 y:By
 p:By
 p1:By
 p2:By
 q:By
 v:To
def Om.ok(k:Nat)(m:Om):Prop:=bB k m.x m.v/\bB k m.y m.v/\Bl m.p/\Bl m.p1/\Bl m.p2/\Bl m.q
def Om.at(m:Om):By:=kA.getD m.i []++58::m.x
end Go.Proofs.YtdpomdelmdofmaaGreatDoor
