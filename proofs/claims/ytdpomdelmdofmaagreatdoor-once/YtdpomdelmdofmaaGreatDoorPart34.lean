/-
  Walk of the statement on reading again what a document says.
-/
import Derived.Test.YtdpomdelmdofmaaGreatDoorPart31
import Derived.Test.YtdpomdelmdofmaaGreatDoorPart33
import Derived.Test.YtdpomdelmdofmaaGreatDoorPart25
import Derived.Test.YtdpomdelmdofmaaGreatDoorPart26
import Derived.Test.YtdpomdelmdofmaaGreatDoorPart29
import Derived.Test.YtdpomdelmdofmaaGreatDoorPart27
import Derived.OrdersIn
namespace Go.Proofs.YtdpomdelmdofmaaGreatDoor
section
open Go.RowKit
theorem read_two {t:Sp.By} {d x:Int}:(∃c,Sp.readTo t d x=(c,none)∧0<c) ∨ ∃v,Sp.readTo t d x=(0,some v):=by
 unfold Sp.readTo
 split
 ·exact Or.inl ⟨4,rfl,by omega⟩
 ·split
  ·exact Or.inl ⟨5,rfl,by omega⟩
  ·rename_i v r fl hv
   split
   ·split
    ·exact Or.inl ⟨6,rfl,by omega⟩
    ·split
     ·exact Or.inl ⟨7,rfl,by omega⟩
     ·split
      ·exact Or.inl ⟨8,rfl,by omega⟩
      ·exact Or.inr ⟨v,rfl⟩
   ·exact Or.inl ⟨5,rfl,by omega⟩
end

section
open Go.RowKit Go.Maps
namespace Sp
end Sp
theorem cfg_d {d e n:Int} (hc:Sp.cfg d e n=true):1≤d∧d≤20∧0≤e∧e≤400:=by
 unfold Sp.cfg Sp.inB at hc
 simp at hc
 omega
end

section
open Go.RowKit Go.Maps
theorem merge_goes {d e n:Int} (hc:Sp.cfg d e n=true) {t u:Sp.By} {v p:Sp.V} (hv:Sp.readTo t d e=(0,some v)) (hp:Sp.readTo u d e=(0,some p)):Sp.gd d e top 1 (Sp.mrg top (some v) [] p).1∧Sp.sz top (Sp.mrg top (some v) [] p).1≤16000:=by
 obtain⟨_,_,_,h4⟩:=cfg_d hc
 have g1:=read_gd hv
 have g2:=read_gd hp
 have c1:=read_cost hv h4
 have c2:=read_cost hp h4
 have h1:=Sp.mrg_ok top 1 (some v) [] p (Sp.sz top v) (by omega) (fun w hw=>by injection hw with hw;subst hw;exact⟨g1,Nat.le_refl _⟩) g2
 have h2:=Sp.mrg_sz top 1 (some v) [] p (by omega) (fun w hw=>by injection hw with hw;subst hw;exact g1) g2
 refine⟨h1.1,?_⟩
 have h3:Sp.osz top (some v)=Sp.sz top v:=rfl
 omega
theorem stMerge_ok {d e:Int} {u:Sp.By} {v:Sp.V×Sp.Inv} {p:Sp.V} (hp:Sp.readTo u d e=(0,some p)) (hg:Sp.gd d e top 1 (Sp.mrg top (some v.1) [] p).1) (hz:Sp.sz top (Sp.mrg top (some v.1) [] p).1≤16000):Sp.stMerge d e v u=((0,0,[]),((Sp.mrg top (some v.1) [] p).1,some (Sp.mrg top (some v.1) [] p).2.reverse)):=by
 unfold Sp.stMerge
 rw[hp]
 simp only
 unfold Sp.mergeA
 rw[if_neg (by have:=(Sp.can_sz hg).1;omega)]
def Sp.ons (doc pt:Sp.By):List Sp.St:=[(1,doc,[]),(6,pt,[]),(2,[],[]),(6,pt,[]),(2,[],[])]
theorem run_ons {d e n:Int} (hc:Sp.cfg d e n=true) (doc pt:Sp.By) :
  (∃c,0<c∧Sp.run d e n none (Sp.ons doc pt)=[(c,0,[]),(3,0,[]),(3,0,[]),(3,0,[]),(3,0,[])]) ∨
  (∃ (s:Sp.By) (c:Nat),0<c∧Sp.run d e n none (Sp.ons doc pt)=[(0,0,[]),(c,0,[]),(0,0,s),(c,0,[]),(0,0,s)]∧Sp.dmp d e pt=(c,[])) ∨
  (∃ (s t:Sp.By),Sp.run d e n none (Sp.ons doc pt)=[(0,0,[]),(0,0,[]),(0,0,s),(0,0,[]),(0,0,s)]∧Sp.dmp d e pt=(0,t)∧0<t.length∧(t.head? = some 123∨s=t)):=by
 obtain⟨h1,h2,h3,h4⟩:=cfg_d hc
 rcases read_two (t:=doc) (d:=d) (x:=e) with⟨c,hr,hpos⟩|⟨v,hr⟩
 ·refine Or.inl ⟨c,hpos,?_⟩
  simp only[Sp.ons,Sp.run,step_load hc,hr,Sp.ldd,step_none hc 2 (by omega) (by omega),step_none hc 6 (by omega) (by omega)]
 ·right
  rcases read_two (t:=pt) (d:=d) (x:=e) with⟨c,hp,hpos⟩|⟨p,hp⟩
  ·refine Or.inl ⟨Sp.can top v,c,hpos,?_,by unfold Sp.dmp;rw[hp]⟩
   have hm:∀i,Sp.stMerge d e (v,i) pt=((c,0,[]),(v,i)):=fun i=>by unfold Sp.stMerge;rw[hp]
   simp only[Sp.ons,Sp.run,step_load hc,hr,Sp.ldd,step_dump hc,step_merge hc,hm]
  ·obtain⟨g1,z1⟩:=merge_goes hc hr hp
   have hi:(Sp.mrg top (some (Sp.mrg top (some v) [] p).1) [] p).1=(Sp.mrg top (some v) [] p).1:=Sp.mrg_twice (d:=d) (x:=e) top (lv:=1) (by omega) (fun w hw=>by injection hw with hw;subst hw;exact read_gd hr) (read_gd hp)
   have m1:∀i,Sp.stMerge d e (v,i) pt=_:=fun i=>stMerge_ok (v:=(v,i)) hp g1 z1
   have m2:∀i,Sp.stMerge d e ((Sp.mrg top (some v) [] p).1,i) pt=_:=fun i=>stMerge_ok (v:=((Sp.mrg top (some v) [] p).1,i)) hp (by simp only[hi];exact g1) (by simp only[hi];exact z1)
   refine Or.inr ⟨Sp.can top (Sp.mrg top (some v) [] p).1,Sp.can top p,?_,by unfold Sp.dmp;rw[hp],?_,?_⟩
   ·simp only[Sp.ons,Sp.run,step_load hc,hr,Sp.ldd,step_dump hc,step_merge hc,m1,m2,hi]
   ·have h5:=Sp.sz_pos (read_gd hp)
    have h6:=(Sp.can_sz (read_gd hp)).2
    omega
   ·cases hob:Sp.isObj p with
    | true =>
     left
     obtain⟨ps,rfl⟩:∃ps,p = .map ps:=by
      cases p<;>first|exact⟨_,rfl⟩|cases hob
     rfl
    | false =>
     right
     have h7:(Sp.mrg (2000+1) (some v) [] p).1=Sp.pure_ (2000+1) p:=Sp.mrg_leaf (Or.inr hob)
     rw[show (Sp.mrg top (some v) [] p).1=p from h7.trans (_root_.Go.Proofs.YtdpomdelmdofmaaGreatDoor.pure_leaf hob)]
end

section
theorem wpAnyIn_inv {F:Fence} {n:Nat} {P:Program} {md:Region.Mode} {ops:Array Oper} {Q:Exit→Act→World→Prop} (I:Array Bool→Act→World→Prop)
  (hs:∀l a w,I l a w → ∀i,i∈Region.ready md ops l→wpOpIn F n P ops Q i (I (l.setIfInBounds i true)) a w)
  (he:∀l a w,I l a w→Region.ready md ops l=[]→Q .normal a w):∀ (fuel:Nat) (l:Array Bool) (a:Act) (w:World),lefts l≤fuel→I l a w→wpAnyIn F n P md ops Q fuel l a w:=by
 intro fuel
 induction fuel with
 | zero =>
  intro l a w hl hi
  have hr:Region.ready md ops l=[]:=by
   rw[List.eq_nil_iff_forall_not_mem]
   intro i hm
   have h1:=(ready_after hm).1
   rw[lefts_none (by omega) i] at h1
   cases h1
  exact⟨hr,he l a w hi hr⟩
 | succ n ih =>
  intro l a w hl hi
  refine⟨fun hr=>he l a w hi hr,fun i hm=>wpOpIn_mono (fun a' w' h'=>ih _ a' w' ?_ h') (hs l a w hi i hm)⟩
  have:=lefts_set (ready_after hm).1
  omega
theorem wpAnyIn_invC {F:Fence} {m:Nat} {P:Program} {md:Region.Mode} {ops:Array Oper} {Q:Exit→Act→World→Prop} (I:Array Bool→Act→World→Prop)
  (hs:∀l a w,Closed md ops l→I l a w → ∀i,i∈Region.ready md ops l→wpOpIn F m P ops Q i (I (l.setIfInBounds i true)) a w)
  (he:∀l a w,I l a w→Region.ready md ops l=[]→Q .normal a w) (n:Nat) (a:Act) (w:World) (h:I (Array.replicate n false) a w):wpAnyIn F m P md ops Q n (Array.replicate n false) a w:=by
 refine wpAnyIn_inv (fun l a w=>Closed md ops l∧I l a w) (fun l a w hI i hi=>?_) (fun l a w hI hr=>he l a w hI.2 hr) n _ a w ?_ ⟨?_,h⟩
 ·exact wpOpIn_mono (fun a' w' h'=>⟨hI.1.next hi,h'⟩) (hs l a w hI.1 hI.2 i hi)
 ·unfold lefts
  refine Nat.le_trans List.countP_le_length ?_
  simp
 ·intro i o _ hi
  exfalso
  rw[Array.getD_eq_getD_getElem?,Array.getElem?_replicate] at hi
  split at hi<;>cases hi
end

section
def upd (L:Nat→Bool) (i:Nat):Nat→Bool:=fun j=>if j=i then true else L j
def Afters (md:Region.Mode) (L:Nat→Bool) (o:Oper):Prop:=∀e∈o.after,Region.binds md e=true→L e.on=true
theorem upd_of {l:Array Bool} {i:Nat} (h:i<l.size):(fun j=>(l.setIfInBounds i true).getD j false)=upd (fun j=>l.getD j false) i:=by
 funext j
 unfold upd
 by_cases hj:j=i
 ·subst hj;simp[Array.getD,h]
 ·rw[if_neg hj];exact getD_set_ne _ (fun e=>hj e.symm)
theorem wpAnyIn_det {F:Fence} {m:Nat} {P:Program} {ops:Array Oper} {Q:Exit→Act→World→Prop} (A:(Nat→Bool)→Act) (Wd:(Nat→Bool)→World) (n:Nat) (hn:ops.size=n)
  (hw:(List.range ops.size).all (fun i=>((ops[i]?).map fun o=>o.after.all fun e=>!Region.binds .any e || decide (e.on<i)).getD true)=true)
  (hs:∀L i o,ops[i]? = some o→i<n→L i=false→Afters .any L o→(∀j oj,ops[j]? = some oj→L j=true→Afters .any L oj) → ∀K:Act→World→Prop,K (A (upd L i)) (Wd (upd L i))→wpOpIn F m P ops Q i K (A L) (Wd L))
  (he:∀L,(∀i,i<n→L i=true)→Q .normal (A L) (Wd L)):wpAnyIn F m P .any ops Q ops.size (Array.replicate ops.size false) (A fun _=>false) (Wd fun _=>false):=by
 subst hn
 refine wpAnyIn_invC (fun l a w=>l.size=ops.size∧a=A (fun j=>l.getD j false)∧w=Wd (fun j=>l.getD j false)) ?_ ?_ _ _ _ ⟨by simp,?_,?_⟩
 ·rintro l a w hcl ⟨hsz,rfl,rfl⟩ i hi
  obtain⟨hno,haft⟩:=ready_after hi
  obtain⟨_,o,ho,_⟩:=mem_ready.1 hi
  have hlt:=(Array.getElem?_eq_some_iff.1 ho).1
  refine hs _ i o ho hlt (by simpa[Array.getD,hsz,hlt] using hno) (fun e h1 h2=>haft o ho e h1 h2) (fun j oj hj hL e h1 h2=>hcl j oj hj hL e h1 h2) _ ?_
  exact⟨by simp[hsz],by rw[upd_of (by omega)],by rw[upd_of (by omega)]⟩
 ·rintro l a w ⟨hsz,rfl,rfl⟩ hr
  exact he _ (ready_none hsz hw hr)
 all_goals (
  congr 1
  funext j
  simp[Array.getD])
end
end Go.Proofs.YtdpomdelmdofmaaGreatDoor
