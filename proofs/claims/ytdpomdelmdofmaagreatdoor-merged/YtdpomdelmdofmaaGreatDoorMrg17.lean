/-
  Plain facts: what a pointer leads to is well made, and its canonical text is no longer; a pointer's tokens are no longer than it.
-/
import Derived.Test.YtdpomdelmdofmaaGreatDoorMrg13
import Derived.Test.YtdpomdelmdofmaaGreatDoorMrg16
import Derived.Test.YtdpomdelmdofmaaGreatDoorMrg03
import Derived.Shelf.LaysC
import Derived.Shelf.Strings.Cut
import Derived.Shelf.Strings.Shaped
import Derived.Shelf.Strings.Split
import Derived.Shelf.Strings.SlTrimAscii
import Derived.Shelf.Strconv.AtoiAll
import Derived.Shelf.Unicode.ValidAny
import Derived.Test.YtdpomdelmdofmaaGreatDoorMrg14
import Derived.Test.YtdpomdelmdofmaaGreatDoorMrg01
namespace Go.Proofs.YtdpomdelmdofmaaGreatDoor
section
open Go.RowKit Go.Maps
theorem can_up {dd xx:Int}:∀ (f g:Nat) (lv:Int) (d:Sp.V),Sp.gd dd xx f lv d→f≤g→Sp.can g d=Sp.can f d
 | 0,_,_,_,h,_=>h.elim
 | f+1,0,_,_,_,hg=>by omega
 | f+1,g+1,lv,d,h,hg=>by
  obtain⟨_,h⟩:=h
  rcases h with⟨k,_,rfl⟩|⟨s,_,rfl⟩|⟨n,_,_,_,rfl⟩|⟨es,h,rfl⟩|⟨es,hp,hk,rfl⟩
  ·rfl
  ·rfl
  ·rfl
  ·rw[Sp.can_arr,Sp.can_arr,List.map_congr_left fun e he=>can_up f g _ e (h e he) (by omega)]
  ·have hks:∀p∈es,∃s,p.1 = .string s:=fun p hpm=>by obtain⟨⟨s,hs,_⟩,_⟩:=hk p hpm;exact⟨s,hs⟩
   rw[obj_text hp hks,obj_text hp hks,List.map_congr_left fun p hpm=>show Sp.entT g p=Sp.entT f p by unfold Sp.entT;rw[can_up f g _ p.2 (hk p hpm).2 (by omega)]]
theorem Rep.up1:∀ {f:Nat} {F:Nat→Prop} {w:World} {v:Value} {d:Sp.V},Rep f F w v d→Rep (f+1) F w v d:=by
 intro f
 induction f with
 | zero=>intro F w v d h;exact h.elim
 | succ f ih =>
  intro F w v d h
  obtain⟨b,hv,hb,h⟩:=h
  rcases h with h|h|h|⟨es,sl,ps,hd,h,ho,hs,ha⟩|⟨es,m,n,D,hd,h,hm,ho,hp⟩
  ·exact⟨b,hv,hb,Or.inl h⟩
  ·exact⟨b,hv,hb,Or.inr (Or.inl h)⟩
  ·exact⟨b,hv,hb,Or.inr (Or.inr (Or.inl h))⟩
  ·exact⟨b,hv,hb,Or.inr (Or.inr (Or.inr (Or.inl ⟨es,sl,ps,hd,h,ho,hs,ha.mono fun _ _ h=>ih h⟩)))⟩
  ·exact⟨b,hv,hb,Or.inr (Or.inr (Or.inr (Or.inr ⟨es,m,n,D,hd,h,hm,ho,hp.mono fun _ _ h=>ih h⟩)))⟩
theorem Rep.up {F:Nat→Prop} {w:World} {v:Value} {d:Sp.V} {f g:Nat} (h:Rep f F w v d) (hg:f≤g):Rep g F w v d:=by
 induction g with
 | zero =>
  obtain rfl:f=0:=by omega
  exact h
 | succ g ih =>
  by_cases e:f=g+1
  ·subst e;exact h
  ·exact (ih (by omega)).up1
end

section
open Go.RowKit
theorem map_at {α β:Type} {f g:α→β} {l:List α} (h:∀a∈l,f a=g a):l.map f=l.map g:=List.map_congr_left h
theorem flat_at {α β:Type} {f g:α→List β} {l:List α} (h:∀a∈l,f a=g a):l.flatMap f=l.flatMap g:=by
 induction l with
 | nil=>rfl
 | cons a r ih=>rw[List.flatMap_cons,List.flatMap_cons,h a (by simp),ih fun b hb=>h b (by simp[hb])]
theorem TRep.up1:∀ {f:Nat} {w:World} {v:Value} {a:Sp.A},TRep f w v a→TRep (f+1) w v a∧Sp.fp (f+1) a=Sp.fp f a∧Sp.str (f+1) a=Sp.str f a
 | 0,_,_,_,h=>h.elim
 | f+1,w,v,a,h=>by
  obtain⟨b,g,x,rfl,hv,h⟩:=h
  rcases h with⟨k,h1,h2,rfl,h⟩|⟨n,h2,rfl,h,hbd⟩|⟨s,h2,rfl,h⟩|⟨al,sl,ps,rfl,h,ho,hs,ha⟩|⟨es,n,D,rfl,h,ho,hp⟩
  ·exact⟨⟨b,g,_,rfl,hv,Or.inl ⟨k,h1,h2,rfl,h⟩⟩,rfl,rfl⟩
  ·exact⟨⟨b,g,_,rfl,hv,Or.inr (Or.inl ⟨n,h2,rfl,h,hbd⟩)⟩,rfl,rfl⟩
  ·exact⟨⟨b,g,_,rfl,hv,Or.inr (Or.inr (Or.inl ⟨s,h2,rfl,h⟩))⟩,rfl,rfl⟩
  ·have hk:∀c∈al,Sp.fp (f+1) c=Sp.fp f c∧Sp.str (f+1) c=Sp.str f c:=fun c hc=>by
    obtain⟨u,hu⟩:=ha.right hc
    exact (TRep.up1 hu).2
   refine⟨⟨b,g,_,rfl,hv,Or.inr (Or.inr (Or.inr (Or.inl ⟨al,sl,ps,rfl,h,ho,hs,ha.mono fun _ _ h=>(TRep.up1 h).1⟩)))⟩,?_,?_⟩
   ·rw[Sp.fp_arr,Sp.fp_arr,flat_at fun c hc=>(hk c hc).1]
   ·rw[Sp.str_arr,Sp.str_arr,map_at fun c hc=>(hk c hc).2]
  ·have hk:∀p∈es,Sp.fp (f+1) p.2=Sp.fp f p.2∧Sp.str (f+1) p.2=Sp.str f p.2:=fun p hpm=>by
    obtain⟨u,hu⟩:=hp.right hpm
    exact (TRep.up1 hu).2
   refine⟨⟨b,g,_,rfl,hv,Or.inr (Or.inr (Or.inr (Or.inr ⟨es,n,D,rfl,h,ho,hp.mono fun _ _ h=>(TRep.up1 h).1⟩)))⟩,?_,?_⟩
   ·rw[Sp.fp_obj,Sp.fp_obj,flat_at fun p hpm=>(hk p hpm).1]
   ·rw[Sp.str_obj,Sp.str_obj,map_at (g:=fun p=>(p.1,Sp.str f p.2)) fun p hpm=>by rw[(hk p hpm).2]]
theorem TRep.up {f g:Nat} {w:World} {v:Value} {a:Sp.A} (h:TRep f w v a) (hg:f≤g):TRep g w v a∧Sp.fp g a=Sp.fp f a∧Sp.str g a=Sp.str f a:=by
 induction g with
 | zero =>
  obtain rfl:f=0:=by omega
  exact h.elim
 | succ g ih =>
  by_cases e:f=g+1
  ·subst e;exact⟨h,rfl,rfl⟩
  ·obtain⟨h1,h2,h3⟩:=ih (by omega)
   obtain⟨h4,h5,h6⟩:=h1.up1
   exact⟨h4,h5.trans h2,h6.trans h3⟩
theorem TRep.uniq {f f':Nat} {w w':World} {u u':Value} {a:Sp.A} (h:TRep f w u a) (h':TRep f' w' u' a):u=u':=by
 cases f with
 | zero=>exact h.elim
 | succ f =>
  cases f' with
  | zero=>exact h'.elim
  | succ f' =>
   obtain⟨b,g,x,rfl,rfl,_⟩:=h
   obtain⟨b2,g2,x2,e,rfl,_⟩:=h'
   have e1:Sp.nd b g x=Sp.nd b2 g2 x2:=e
   unfold Sp.nd at e1
   injection e1 with e1
   injection e1 with e1 _
   injection e1 with e1
   injection e1 with _ e1
   rw[show b=b2 by omega]
namespace Sp
def er:Nat→A→A
 | 0,a=>a
 | f+1,a=>match a with
  | .agg [.lit (.int k b),.lit (.int l g),x]=>(match x with
   | .slice al y=>.agg [.lit (.int k b),.lit (.int l 0),.slice (al.map (er f)) y]
   | .map es=>.agg [.lit (.int k b),.lit (.int l g),.map (es.map fun p=>(p.1,er f p.2))]
   | z=>.agg [.lit (.int k b),.lit (.int l g),z])
  | y=>y
theorem er_arr (f b g:Nat) (al:List A):er (f+1) (nd b g (.slice al []))=nd b 0 (.slice (al.map (er f)) []):=rfl
theorem er_obj (f b g:Nat) (es:List (Lit×A)):er (f+1) (nd b g (.map es))=nd b g (.map (es.map fun p=>(p.1,er f p.2))):=rfl
theorem er_word (f b g k:Nat):er (f+1) (nd b g (vWord k))=nd b g (vWord k):=rfl
theorem er_num (f b g:Nat) (n:Nm):er (f+1) (nd b g (vNum n))=nd b g (vNum n):=rfl
theorem er_str' (f b g:Nat) (s:By):er (f+1) (nd b g (vStr s))=nd b g (vStr s):=rfl
theorem form (a:A):(∃k b l g al y,a = .agg [.lit (.int k b),.lit (.int l g),.slice al y])∨(∃k b l g es,a = .agg [.lit (.int k b),.lit (.int l g),.map es])∨((∀f,er f a=a)∧kids a=[] ∧ ∀i c,kid a i c=a):=by
 by_cases h1:∃k b l g al y,a = .agg [.lit (.int k b),.lit (.int l g),.slice al y]
 ·exact Or.inl h1
 by_cases h2:∃k b l g es,a = .agg [.lit (.int k b),.lit (.int l g),.map es]
 ·exact Or.inr (Or.inl h2)
 refine Or.inr (Or.inr ⟨fun f=>?_,?_,fun i c=>?_⟩)
 ·cases f with
  | zero=>rfl
  | succ f =>
   unfold er
   split
   ·split
    ·exact absurd ⟨_,_,_,_,_,_,rfl⟩ h1
    ·exact absurd ⟨_,_,_,_,_,rfl⟩ h2
    ·rfl
   ·rfl
 ·unfold kids
  split
  ·split
   ·exact absurd ⟨_,_,_,_,_,_,rfl⟩ h1
   ·exact absurd ⟨_,_,_,_,_,rfl⟩ h2
   ·rfl
  ·rfl
 ·unfold kid
  split
  ·split
   ·exact absurd ⟨_,_,_,_,_,_,rfl⟩ h1
   ·exact absurd ⟨_,_,_,_,_,rfl⟩ h2
   ·rfl
  ·rfl
theorem str_er:∀ (f:Nat) (a:A),str f (er f a)=str f a
 | 0,_=>rfl
 | f+1,a=>by
  rcases form a with⟨k,b,l,g,al,y,rfl⟩|⟨k,b,l,g,es,rfl⟩|⟨h,_,_⟩
  ·show vArr ((al.map (er f)).map (str f))=vArr (al.map (str f))
   rw[List.map_map,map_at fun c _=>(show (str f ∘ er f) c=str f c from str_er f c)]
  ·show vObj ((es.map fun p=>(p.1,er f p.2)).map fun p=>(p.1,str f p.2))=vObj (es.map fun p=>(p.1,str f p.2))
   rw[List.map_map,map_at (g:=fun p=>(p.1,str f p.2)) fun p _=>(show ((fun p=>(p.1,str f p.2)) ∘ fun p:Lit×A=>(p.1,er f p.2)) p=(p.1,str f p.2) by show (p.1,str f (er f p.2))=_;rw[str_er f p.2])]
  ·rw[h]
theorem er_kids (f:Nat) (a:A):kids (er (f+1) a)=(kids a).map (er f):=by
 rcases form a with⟨k,b,l,g,al,y,rfl⟩|⟨k,b,l,g,es,rfl⟩|⟨h,h2,_⟩
 ·rfl
 ·show (es.map fun p=>(p.1,er f p.2)).map Prod.snd=(es.map Prod.snd).map (er f)
  rw[List.map_map,List.map_map];rfl
 ·rw[h,h2];rfl
theorem er_sub:∀ (p:List Nat) (f:Nat) (a:A),sub p (er (f+p.length) a)=(sub p a).map (er f)
 | [],_,_=>rfl
 | i::r,f,a=>by
  show sub (i::r) (er ((f+r.length)+1) a)=_
  rw[sub,sub,er_kids,List.getElem?_map]
  cases (kids a)[i]? with
  | none=>rfl
  | some c=>exact er_sub r f c
theorem modify_map {α β:Type} (q:α→β) (u:α→α) (u':β→β) (h:∀a,q (u a)=u' (q a)):∀ (l:List α) (i:Nat),(l.modify i u).map q=(l.map q).modify i u'
 | [],i=>by simp
 | a::r,0=>by simp[h]
 | a::r,i+1=>by simp[modify_map q u u' h r i]
theorem er_kid (f i:Nat) (a c:A):er (f+1) (kid a i c)=kid (er (f+1) a) i (er f c):=by
 rcases form a with⟨k,b,l,g,al,y,rfl⟩|⟨k,b,l,g,es,rfl⟩|⟨h,h2,h3⟩
 ·show DataW.agg [.lit (.int k b),.lit (.int l 0),.slice ((al.set i c).map (er f)) []]=DataW.agg [.lit (.int k b),.lit (.int l 0),.slice ((al.map (er f)).set i (er f c)) []]
  rw[List.map_set]
 ·show DataW.agg [.lit (.int k b),.lit (.int l g),.map ((es.modify i fun p=>(p.1,c)).map fun p=>(p.1,er f p.2))]=DataW.agg [.lit (.int k b),.lit (.int l g),.map ((es.map fun p=>(p.1,er f p.2)).modify i fun p=>(p.1,er f c))]
  rw[modify_map (fun p:Lit×A=>(p.1,er f p.2)) (fun p=>(p.1,c)) (fun p=>(p.1,er f c)) fun p=>rfl]
 ·rw[h3,h,h3]
theorem er_put:∀ (p:List Nat) (f:Nat) {a n:A} (n':A),sub p a=some n→er (f+p.length) (put p n' a)=put p (er f n') (er (f+p.length) a)
 | [],_,_,_,_,_=>rfl
 | i::r,f,a,n,n',h=>by
  obtain⟨c,hc,h2⟩:=sub_cons h
  rw[put_cons n' hc]
  have hc':(kids (er ((f+r.length)+1) a))[i]? = some (er (f+r.length) c):=by rw[er_kids,List.getElem?_map,hc];rfl
  show er ((f+r.length)+1) _=put (i::r) _ (er ((f+r.length)+1) a)
  rw[put_cons _ hc',er_kid,er_put r f n' h2]
theorem kid_self {a c:A} {i:Nat} (h:(kids a)[i]? = some c) (hy:∀k b l g al y,a = .agg [.lit (.int k b),.lit (.int l g),.slice al y]→y=[]):kid a i c=a:=by
 rcases kids_form h with⟨k,b,l,g,al,x,rfl,h7⟩|⟨k,b,l,g,es,key,rfl,h7⟩
 ·obtain rfl:=hy _ _ _ _ _ _ rfl
  show DataW.agg [.lit (.int k b),.lit (.int l g),.slice (al.set i c) []]=_
  have h8:=List.getElem?_eq_some_iff.1 h7
  rw[show al.set i c=al by rw[← h8.2];exact List.set_getElem_self h8.1]
 ·show DataW.agg [.lit (.int k b),.lit (.int l g),.map (es.modify i fun p=>(p.1,c))]=_
  obtain⟨l1,l2,rfl,rfl⟩:=flat_split (fun _=>([]:List Nat)) es i _ h7
  rw[modify_at]
theorem kid_at {a c:A} {i:Nat} (hc:(kids a)[i]? = some c) (x:A):(kids (kid a i x))[i]? = some x:=by
 rcases kids_form hc with⟨k,b,l,g,al,y,rfl,h7⟩|⟨k,b,l,g,es,key,rfl,h7⟩
 ·show (al.set i _)[i]? = _
  rw[List.getElem?_set_self (List.getElem?_eq_some_iff.1 h7).1]
 ·show ((es.modify i fun p=>(p.1,x)).map Prod.snd)[i]? = _
  rw[List.getElem?_map,List.getElem?_modify,h7]
  simp
theorem sub_put:∀ {p:List Nat} {a n:A} (n':A),sub p a=some n→sub p (put p n' a)=some n'
 | [],_,_,_,_=>rfl
 | i::r,a,n,n',h=>by
  obtain⟨c,hc,h2⟩:=sub_cons h
  rw[put_cons n' hc]
  have hk:(kids (kid a i (put r n' c)))[i]? = some (put r n' c):=kid_at hc _
  rw[sub,hk]
  exact sub_put n' h2
theorem kid_kid {a c x y:A} {i:Nat} (h:(kids a)[i]? = some c):kid (kid a i x) i y=kid a i y:=by
 rcases kids_form h with⟨k,b,l,g,al,z,rfl,h7⟩|⟨k,b,l,g,es,key,rfl,h7⟩
 ·show DataW.agg [.lit (.int k b),.lit (.int l g),.slice ((al.set i x).set i y) []]=DataW.agg [.lit (.int k b),.lit (.int l g),.slice (al.set i y) []]
  rw[List.set_set]
 ·show DataW.agg [.lit (.int k b),.lit (.int l g),.map ((es.modify i fun p=>(p.1,x)).modify i fun p=>(p.1,y))]=DataW.agg [.lit (.int k b),.lit (.int l g),.map (es.modify i fun p=>(p.1,y))]
  obtain⟨l1,l2,rfl,rfl⟩:=flat_split (fun _=>([]:List Nat)) es i _ h7
  rw[modify_at,modify_at,modify_at]
theorem put_put:∀ {p:List Nat} {a n:A} (x y:A),sub p a=some n→put p y (put p x a)=put p y a
 | [],_,_,_,_,_=>rfl
 | i::r,a,n,x,y,h=>by
  obtain⟨c,hc,h2⟩:=sub_cons h
  rw[put_cons x hc,put_cons y hc]
  have hk:(kids (kid a i (put r x c)))[i]? = some (put r x c):=kid_at hc _
  rw[put_cons y hk,put_put x y h2,kid_kid hc]
end Sp
theorem TRep.spare {f:Nat} {w:World} {u:Value} {a:Sp.A} (h:TRep f w u a):∀k b l g al y,a = .agg [.lit (.int k b),.lit (.int l g),.slice al y]→y=[]:=by
 cases f with
 | zero=>exact h.elim
 | succ f =>
  intro k b l g al y e
  obtain⟨b2,g2,x,rfl,hv,h⟩:=h
  unfold Sp.nd at e
  injection e with e;injection e with _ e;injection e with _ e;injection e with e _
  rcases h with⟨j,_,_,rfl,h⟩|⟨n,_,rfl,h,hbd⟩|⟨s,_,rfl,h⟩|⟨al2,sl,ps,rfl,_⟩|⟨es,n,D,rfl,_⟩
  ·cases e
  ·cases e
  ·cases e
  ·injection e with _ e;exact e.symm
  ·cases e
theorem TRep.put_self {f:Nat} {w:World}:∀ {p:List Nat} {u:Value} {a n:Sp.A},TRep (f+p.length) w u a→Sp.sub p a=some n→Sp.put p n a=a
 | [],_,_,_,_,h=>by injection h with h;exact h.symm
 | i::r,u,a,n,ht,h=>by
  obtain⟨c,hc,h2⟩:=Sp.sub_cons h
  have h':TRep ((f+r.length)+1) w u a:=ht
  obtain⟨x,hx⟩:∃u,TRep (f+r.length) w u c:=TRep.at (f:=f+r.length) (p:=[i]) h' (show Sp.sub [i] a=some c by simp[Sp.sub,hc])
  rw[Sp.put_cons n hc,hx.put_self h2]
  exact Sp.kid_self hc ht.spare
theorem TRep.er_arr {f b g:Nat} {w:World} {u:Value} {a:Sp.A} {al:List Sp.A} (h:TRep (f+1) w u a) (e:Sp.er (f+1) a=Sp.er (f+1) (Sp.nd b g (.slice al []))):∃g' al',a=Sp.nd b g' (.slice al' [])∧al'.map (Sp.er f)=al.map (Sp.er f):=by
 obtain⟨b2,g2,x,rfl,hv,h⟩:=h
 rcases h with⟨j,_,_,rfl,h⟩|⟨n,_,rfl,h,hbd⟩|⟨s,_,rfl,h⟩|⟨al2,sl,ps,rfl,_⟩|⟨es,n,D,rfl,_⟩
 ·rw[Sp.er_word,Sp.er_arr] at e;unfold Sp.nd at e;injection e with e;injection e with _ e;injection e with _ e;injection e with e _;cases e
 ·rw[Sp.er_num,Sp.er_arr] at e;unfold Sp.nd at e;injection e with e;injection e with _ e;injection e with _ e;injection e with e _;cases e
 ·rw[Sp.er_str',Sp.er_arr] at e;unfold Sp.nd at e;injection e with e;injection e with _ e;injection e with _ e;injection e with e _;cases e
 ·rw[Sp.er_arr,Sp.er_arr] at e
  unfold Sp.nd at e;injection e with e;injection e with e1 e;injection e with _ e;injection e with e2 _
  injection e1 with e1;injection e1 with _ e1
  injection e2 with e2
  exact⟨g2,al2,by rw[show b2=b by omega],e2⟩
 ·rw[Sp.er_obj,Sp.er_arr] at e;unfold Sp.nd at e;injection e with e;injection e with _ e;injection e with _ e;injection e with e _;cases e
theorem TRep.er_obj {f b g:Nat} {w:World} {u:Value} {a:Sp.A} {es:List (Lit×Sp.A)} (h:TRep (f+1) w u a) (e:Sp.er (f+1) a=Sp.er (f+1) (Sp.nd b g (.map es))):∃es',a=Sp.nd b g (.map es')∧es'.map (fun p=>(p.1,Sp.er f p.2))=es.map (fun p=>(p.1,Sp.er f p.2)):=by
 obtain⟨b2,g2,x,rfl,hv,h⟩:=h
 rcases h with⟨j,_,_,rfl,h⟩|⟨n,_,rfl,h,hbd⟩|⟨s,_,rfl,h⟩|⟨al2,sl,ps,rfl,_⟩|⟨es2,n,D,rfl,_⟩
 ·rw[Sp.er_word,Sp.er_obj] at e;unfold Sp.nd at e;injection e with e;injection e with _ e;injection e with _ e;injection e with e _;cases e
 ·rw[Sp.er_num,Sp.er_obj] at e;unfold Sp.nd at e;injection e with e;injection e with _ e;injection e with _ e;injection e with e _;cases e
 ·rw[Sp.er_str',Sp.er_obj] at e;unfold Sp.nd at e;injection e with e;injection e with _ e;injection e with _ e;injection e with e _;cases e
 ·rw[Sp.er_arr,Sp.er_obj] at e;unfold Sp.nd at e;injection e with e;injection e with _ e;injection e with _ e;injection e with e _;cases e
 ·rw[Sp.er_obj,Sp.er_obj] at e
  unfold Sp.nd at e;injection e with e;injection e with e1 e;injection e with e3 e;injection e with e2 _
  injection e1 with e1;injection e1 with _ e1
  injection e3 with e3;injection e3 with _ e3
  injection e2 with e2
  exact⟨es2,by rw[show b2=b by omega,show g2=g by omega],e2⟩
end

section
open Go.RowKit Go.Maps
theorem tkey (s:Sp.By) (h:s.length≤1048576):keyOf Tryz.prog 9 (.string ⟨s.toArray⟩)=some (.string s):=by
 have:=Go.WideMaps.keyOf_string_mk Tryz.underlying9 (s:=⟨s.toArray⟩) (by rw[bs_size];unfold maxLen;omega)
 simpa using this
section
variable {w:World} {b:Nat} {F:Nat→Prop} {t:Sp.By}
end
end

section
open Go.RowKit
def TokAt (w:World) (g o:Nat) (l:List Sp.By):Prop:=g<w.heap.size ∧ ∀k (hk:k<l.length),w.cell? ⟨g,o+k,none⟩=some (.string ⟨l[k].toArray⟩)
def Toks (w:World) (v:Value) (l:List Sp.By):Prop :=
 (l=[] ∧ ∃a c,v = .slice a 0 c∧c≤maxLen) ∨ ∃g o cap,v = .slice (some ⟨g,o,none⟩) l.length cap∧l.length≤cap∧cap≤maxLen∧TokAt w g o l
end

section
open Go.RowKit Go.Maps
namespace Sp
end Sp
theorem sub_snoc {i:Nat} {c n:Sp.A} (hc:(Sp.kids n)[i]? = some c):∀ {p:List Nat} {a:Sp.A},Sp.sub p a=some n→Sp.sub (p++[i]) a=some c
 | [],a,h=>by
  injection h with h
  subst h
  simp[Sp.sub,hc]
 | j::r,a,h=>by
  obtain⟨x,hx,h2⟩:=Sp.sub_cons h
  rw[List.cons_append,Sp.sub,hx]
  exact sub_snoc hc h2
theorem TRep.bel {f:Nat} {w w':World} {v:Value} {a:Sp.A} (h:TRep f w v a) (hb:Below w.heap.size w w'):TRep f w' v a:=h.move fun k hk=>hb.block k (h.lt k hk)
end
end Go.Proofs.YtdpomdelmdofmaaGreatDoor
