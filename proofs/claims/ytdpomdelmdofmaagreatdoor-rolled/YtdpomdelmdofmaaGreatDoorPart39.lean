/-
  Plain functions: the reference's own way to a character's number; it is the library's.
-/
import Derived.Test.YtdpomdelmdofmaaGreatDoorPart36
import Derived.Test.YtdpomdelmdofmaaGreatDoorPart37
import Derived.Test.YtdpomdelmdofmaaGreatDoorPart16
namespace Go.Proofs.YtdpomdelmdofmaaGreatDoor
open Go.RowKit
def Sp.cnt:Nat → Nat → Sp.By → Option Nat
 | 0,v,_=>some v
 | _ + 1,_,[]=>none
 | k + 1,v,c :: r=>if 128 ≤ c.toNat ∧ c.toNat < 192 then Sp.cnt k (64 * v + c.toNat - 128) r else none
def Sp.lead (c:Nat):Nat × Nat :=
 if 240 ≤ c ∧ c < 248 then (4,c - 240) else if 224 ≤ c ∧ c < 240 then (3,c - 224) else if 192 ≤ c ∧ c < 224 then (2,c - 192) else if 128 ≤ c then (0,0) else (1,c)
def Sp.least (n:Nat):Nat:=if n = 2 then 128 else if n = 3 then 2048 else if n = 4 then 65536 else 0
def Sp.sca (l:Sp.By):Nat × Nat:=match l with
 | []=>(0,0)
 | c :: r=>if (Sp.lead c.toNat).1 = 0 ∨ r.length + 1 < (Sp.lead c.toNat).1 then (0,0) else match Sp.cnt ((Sp.lead c.toNat).1 - 1) (Sp.lead c.toNat).2 r with
  | none=>(0,0)
  | some v=>if v < Sp.least (Sp.lead c.toNat).1 ∨ 1114111 < v ∨ (55296 ≤ v ∧ v < 57344) then (0,0) else (v,(Sp.lead c.toNat).1)
end Go.Proofs.YtdpomdelmdofmaaGreatDoor

namespace Go.Proofs.YtdpomdelmdofmaaGreatDoor
open Go.RowKit
def Sp.u8 (l:Sp.By):Bool:=if _h:l = [] then true else if _h2:(Sp.sca l).2 = 0 then false else Sp.u8 (l.drop (Sp.sca l).2)
termination_by l.length
decreasing_by
 have:0 < l.length:=List.length_pos_iff.2 _h
 rw [List.length_drop]
 omega
end Go.Proofs.YtdpomdelmdofmaaGreatDoor

namespace Go.Proofs.YtdpomdelmdofmaaGreatDoor
def Sp.blks:List Sp.By:=[[],[32],[10],[9,13]]
def Sp.Bl (b:Sp.By):Prop:=b ∈ Sp.blks
theorem bl_all {b:Sp.By} (h:Sp.Bl b):∀ c ∈ b,Sp.isB c = true:=by
 unfold Sp.Bl Sp.blks at h
 simp only [List.mem_cons,List.not_mem_nil,or_false] at h
 rcases h with rfl | rfl | rfl | rfl
 all_goals decide
theorem Sp.Bl.nd {b:Sp.By} (h:Sp.Bl b) {r:Sp.By} (hr:Sp.Nd r):Sp.Nd (b ++ r):=by
 cases b with
 | nil=>exact hr
 | cons c t =>
  intro c' t' e
  injection e with e1 e2
  subst e1
  have:=bl_all h c (by simp)
  unfold Sp.isB at this
  simp only [Bool.or_eq_true,beq_iff_eq] at this
  rcases this with ((rfl | rfl) | rfl) | rfl
  all_goals exact ⟨by decide,by decide,by decide,by decide⟩
def Sp.num7:List Sp.By:=[[55],[55,46,48],[55,48,101,45,49],[48,46,55,69,49],[55,101,48],[55,46,48,48,101,43,48],[55,48,48,69,45,50],[48,46,48,48,55,101,51]]
def Sp.num0:List Sp.By:=[[45,48],[48],[48,46,48],[48,101,57,57],[45,48,46,48,69,45,53]]
def Sp.Ch (p:Sp.By) (c:Nat):Prop:=∀ l,Sp.chr (p ++ l) = some (c,l) ∧ Sp.tk (p ++ l) 34 = false
inductive Sp.Chs:Sp.By → List Nat → Prop
 | nil:Sp.Chs [] []
 | snoc {a:Sp.By} {cs:List Nat} {p:Sp.By} {c:Nat}:Sp.Chs a cs → Sp.Ch p c → Sp.Chs (a ++ p) (cs ++ [c])
end Go.Proofs.YtdpomdelmdofmaaGreatDoor

namespace Go.Proofs.YtdpomdelmdofmaaGreatDoor
open Go.Maps
def Sp.RdV (k:Nat) (l:Sp.By) (v:Sp.V):Prop:=Sp.Hd l ∧ ∀ (f:Nat) (lv:Int) (fl:Sp.Fl) (r:Sp.By),k < f → Sp.Nd r → ∃ fl',Sp.val f lv (l ++ r) fl = some (v,r,fl') ∧ ∀ d,lv + k ≤ d → Sp.OkF d 2 fl → Sp.OkF d 2 fl'
theorem Sp.RdV.mono {k k':Nat} {l:Sp.By} {v:Sp.V} (h:Sp.RdV k l v) (hk:k ≤ k'):Sp.RdV k' l v :=
 ⟨h.1,fun f lv fl r hf hr=>let ⟨fl',h1,h2⟩:=h.2 f lv fl r (by omega) hr; ⟨fl',h1,fun d hd=>h2 d (by omega)⟩⟩
structure Sp.Mb where
 p:Sp.By
 kq:Sp.By
 p1:Sp.By
 p2:Sp.By
 x:Sp.By
 q:Sp.By
 key:Sp.By
 v:Sp.V
def Sp.Mb.core (m:Sp.Mb):Sp.By:=m.kq ++ (m.p1 ++ 58 :: (m.p2 ++ m.x))
def Sp.Mb.y (m:Sp.Mb):Sp.By × Sp.By × Sp.By:=(m.p,m.core,m.q)
def Sp.Mb.ok (k:Nat) (m:Sp.Mb):Prop:=Sp.Bl m.p ∧ (∃ t,m.kq = 34 :: t) ∧ (∀ l,Sp.quo (m.kq ++ l) = some (m.key,l)) ∧ Sp.Bl m.p1 ∧ Sp.Bl m.p2 ∧ Sp.RdV k m.x m.v ∧ Sp.Bl m.q
end Go.Proofs.YtdpomdelmdofmaaGreatDoor
