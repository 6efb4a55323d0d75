/-
  Plain facts: how long what a merge leaves is at most.
-/
import Derived.Test.YtdpomdelmdofmaaGreatDoorMrg28
import Derived.Test.YtdpomdelmdofmaaGreatDoorMrg26
import Derived.Test.YtdpomdelmdofmaaGreatDoorMrg17
import Derived.Test.YtdpomdelmdofmaaGreatDoorMrg05
namespace Go.Proofs.YtdpomdelmdofmaaGreatDoor
section
open Go.RowKit Go.Maps
namespace Sp
theorem costs_cons (f:Nat) (p:Lit×V) (l:List (Lit×V)):costs f (p::l)=(quoT (strOf p.1)).length+2+sz f p.2+costs f l:=by
 unfold costs;rw[List.map_cons,List.sum_cons]
theorem costs_filter (f:Nat) (P:Lit×V→Bool):∀l:List (Lit×V),costs f (l.filter P)≤costs f l
 | []=>Nat.le_refl _
 | p::l=>by
  have h:=costs_filter f P l
  rw[List.filter_cons,costs_cons]
  split
  ·rw[costs_cons];omega
  ·omega
theorem costs_mdel {f:Nat} {k:By} {v:V}:∀ {es:List (Lit×V)},(Lit.string k,v)∈es→costs f (mdel (.string k) es)+((quoT k).length+2+sz f v)≤costs f es
 | p::r,h=>by
  rw[costs_cons]
  unfold mdel
  rw[List.filter_cons]
  rcases List.mem_cons.1 h with rfl|h
  ·rw[if_neg (by simp[sameKey_str.2 rfl])]
   have:=costs_filter f (fun p=>!p.1.sameKey (.string k)) r
   exact Nat.le_trans (Nat.add_le_add_right this _) (Nat.le_of_eq (Nat.add_comm _ _))
  ·have:=costs_mdel (f:=f) h
   unfold mdel at this
   split
   ·rw[costs_cons];omega
   ·omega
theorem costs_insert (f:Nat) (x:Lit×V):∀l:List (Lit×V),costs f (DataW.insert x l)=(quoT (strOf x.1)).length+2+sz f x.2+costs f l
 | []=>by show costs f [x]=_;rw[costs_cons]
 | a::l=>by
  unfold DataW.insert
  split
  ·rw[costs_cons]
  ·rw[costs_cons,costs_insert f x l,costs_cons];omega
theorem costs_mput (f:Nat) (k:By) (c:V) (es:List (Lit×V)):costs f (mput (.string k) c es)=(quoT k).length+2+sz f c+costs f (mdel (.string k) es):=by
 unfold mput
 rw[costs_insert]
 rfl
theorem pure_sz:∀ (f:Nat) (p:V),sz f (pure_ f p)≤sz f p
 | 0,_=>Nat.le_refl _
 | f+1,p=>by
  cases hob:isObj p with
  | false=>rw[pure_leaf hob];exact Nat.le_refl _
  | true =>
   obtain⟨ps,rfl⟩:∃ps,p = .map ps:=by
    cases p with
    | map ps=>exact⟨ps,rfl⟩
    | _=>cases hob
   show 2+costs f ((ps.filter fun q=>!isNull q.2).map fun q=>(q.1,pure_ f q.2))≤2+costs f ps
   have h1:∀l:List (Lit×V),costs f (l.map fun q=>(q.1,pure_ f q.2))≤costs f l:=by
    intro l
    induction l with
    | nil=>exact Nat.le_refl _
    | cons a l ih =>
     rw[List.map_cons,costs_cons,costs_cons]
     have:=pure_sz f a.2
     simp only
     omega
   have h2:=costs_filter f (fun q=>!isNull q.2) ps
   exact Nat.add_le_add_left (Nat.le_trans (h1 _) h2) 2
section
variable {d x:Int}
def osz (f:Nat) (o:Option V):Nat:=match o with
 | some v=>sz f v
 | none=>0
def MrgSz (d x:Int) (f:Nat):Prop:=∀ (lv:Int) (o:Option V) (s:List By) (p:V),1≤lv→(∀v,o=some v→gd d x f lv v)→gd d x f lv p→sz f (mrg f o s p).1≤osz f o+sz f p
theorem mem_costs {f:Nat} {es:List (Lit×V)} {p:Lit×V} (h:p∈es):sz f p.2≤costs f es:=by
 have h1:=sz_mem (f:=f) h
 have h2:sz (f+1) (.map es)=2+costs f es:=sz_obj f es
 omega
theorem mall_sz {f:Nat} (ih:MrgSz d x f) {lv:Int} (hlv:1≤lv) (s:List By):∀ (l es:List (Lit×V)),Mok d x f lv es→Mok d x f lv l→costs f (mall (mrg f) s l es).1≤costs f es+costs f l
 | [],es,_,_=>Nat.le_refl _
 | q::l,es,he,hl=>by
  have hq1:Mok d x f lv [q]:=⟨List.pairwise_singleton _ _,fun p hp=>hl.2 p (by rw[List.mem_singleton.1 hp];exact List.mem_cons_self)⟩
  have h1:Mok d x f lv (mstep (mrg f) s q es).1:=(mall_ok (mrg_ok f) hlv (B:=costs f es) s [q] es he hq1 fun r _ c hc=>mem_costs hc).1
  have h2:=mall_sz ih hlv s l (mstep (mrg f) s q es).1 h1 ⟨(List.pairwise_cons.1 hl.1).2,fun p hp=>hl.2 p (List.mem_cons_of_mem _ hp)⟩
  obtain⟨⟨k,ek,_⟩,hq⟩:=hl.2 q List.mem_cons_self
  obtain⟨qk,qv⟩:=q
  simp only at ek hq
  subst ek
  have h3:costs f (mstep (mrg f) s (.string k,qv) es).1≤costs f es+((quoT k).length+2+sz f qv):=by
   unfold mstep
   split
   ·split
    ·exact Nat.le_add_right _ _
    ·have:=costs_filter f (fun p=>!p.1.sameKey (.string k)) es
     exact Nat.le_trans this (Nat.le_add_right _ _)
   ·simp only
    rw[costs_mput]
    cases hg:get? es (.string k) with
    | none =>
     have h4:=ih (lv+1) none (s++[keyB (.string k)]) qv (by omega) (fun v h=>by cases h) hq
     have h5:=costs_filter f (fun p=>!p.1.sameKey (.string k)) es
     have h6:costs f (mdel (.string k) es)≤costs f es:=h5
     unfold osz at h4
     simp only at h4
     omega
    | some o =>
     have hm:=get_gd he hg
     have h4:=ih (lv+1) (some o) (s++[keyB (.string k)]) qv (by omega) (fun v h=>by injection h with h;exact h▸(he.2 _ hm).2) hq
     have h5:=costs_mdel (f:=f) hm
     unfold osz at h4
     simp only at h4
     omega
  have h4:costs f ((Lit.string k,qv)::l)=(quoT k).length+2+sz f qv+costs f l:=costs_cons _ _ _
  show costs f (mall (mrg f) s l (mstep (mrg f) s (.string k,qv) es).1).1≤_
  omega
theorem mrg_sz:∀f:Nat,MrgSz d x f
 | 0=>fun _ _ _ _ _ _ h=>h.elim
 | f+1=>fun lv o s p hlv ho hp=>by
  have hps:=pure_sz (f+1) p
  cases o with
  | none=>exact Nat.le_trans hps (Nat.le_add_left _ _)
  | some v =>
   by_cases hob:isObj v=true∧isObj p=true
   ·obtain⟨h1,h2⟩:=hob
    obtain⟨es,rfl⟩:∃es,v = .map es:=by
     cases v with
     | map es=>exact⟨es,rfl⟩
     | _=>cases h1
    obtain⟨ps,rfl⟩:∃ps,p = .map ps:=by
     cases p with
     | map ps=>exact⟨ps,rfl⟩
     | _=>cases h2
    have e:mrg (f+1) (some (.map es)) s (.map ps)=(.map (mall (mrg f) s ps es).1,(mall (mrg f) s ps es).2):=mrgs_eq _ _ _ _
    rw[e]
    have h3:=mall_sz (mrg_sz f) hlv s ps es (gd_map (ho _ rfl)).2 (gd_map hp).2
    show 2+costs f (mall (mrg f) s ps es).1≤(2+costs f es)+(2+costs f ps)
    omega
   ·have e:(mrg (f+1) (some v) s p).1=pure_ (f+1) p:=by
     cases v<;>cases p<;>first|rfl|exact absurd ⟨rfl,rfl⟩ hob
    rw[e]
    exact Nat.le_trans hps (Nat.le_add_left _ _)
theorem mok_on {B P:Nat} {o:Opn} (h:MOk d x B P o) (hd:d≤500) (hP:P≤200000):OnOk d x B o:=by
 refine⟨Nat.le_trans h.2.1 hP,fun h1=>?_⟩
 obtain⟨f,lv,hlv,hg,hs⟩:=h.2.2 h1
 have g1:=gd_lvl (s:=1-lv) hg
 rw[show lv+(1-lv)=1 by omega] at g1
 have g2:gd d x f 1 o.2.2:=gd_mono (by omega) g1
 refine⟨gd_fuel g2 (by unfold top;omega),hd,?_⟩
 have g3:gd d x (max f top) 1 o.2.2:=gd_fuel g2 (by have:top≤max f top:=Nat.le_max_right _ _;unfold top at this ⊢; omega)
 have e1:=sz_up g2 (Nat.le_max_left f top)
 have e2:=sz_up (gd_fuel (f:=top) g2 (by unfold top;omega)) (Nat.le_max_right f top)
 omega
end
end Sp
end

section
open Go.RowKit Go.Maps
namespace Sp
def kcost (f:Nat) (xs:List (Lit×V)) (k:By):Nat:=match get? xs (.string k) with
 | some v=>(quoT k).length+2+sz f v
 | none=>0
theorem get_mdel {k j:By} {xs:List (Lit×V)} (h:Skey xs) (hne:j≠k):get? (mdel (.string k) xs) (.string j)=get? xs (.string j):=by
 rcases key_two xs j with⟨c,hc⟩|hno
 ·rw[get_yes h hc,get_yes (mdel_skey h) (mem_mdel.2 ⟨hc,fun e=>hne (by injection e)⟩)]
 ·rw[get_no hno,get_no fun p hp=>hno p (mem_mdel.1 hp).1]
theorem kcost_mdel {f:Nat} {k j:By} {xs:List (Lit×V)} (h:Skey xs) (hne:j≠k):kcost f (mdel (.string k) xs) j=kcost f xs j:=by
 unfold kcost
 rw[get_mdel h hne]
theorem pick_sum (f:Nat):∀ {l:List By} {xs:List (Lit×V)},Skey xs→l.Nodup→(l.map (kcost f xs)).sum≤costs f xs
 | [],_,_,_=>Nat.zero_le _
 | k::l,xs,h,hn=>by
  have h1:=List.nodup_cons.1 hn
  have h2:=pick_sum f (mdel_skey (k:=.string k) h) h1.2
  have h3:l.map (kcost f (mdel (.string k) xs))=l.map (kcost f xs):=List.map_congr_left fun j hj=>kcost_mdel h fun e=>h1.1 (e▸hj)
  rw[h3] at h2
  rw[List.map_cons,List.sum_cons]
  rcases key_two xs k with⟨c,hc⟩|hno
  ·have h4:=costs_mdel (f:=f) hc
   have h5:kcost f xs k=(quoT k).length+2+sz f c:=by unfold kcost;rw[get_yes h hc]
   omega
  ·have h5:kcost f xs k=0:=by unfold kcost;rw[get_no hno]
   have h6:costs f (mdel (.string k) xs)≤costs f xs:=costs_filter f (fun p=>!p.1.sameKey (.string k)) xs
   omega
theorem diffO_len {f:Nat} {m:List By→V→V→List Opn} {s:List By} {xs bs:List (Lit×V)}:∀ {l:List By},(∀k∈l,get? xs (.string k)≠none∨get? bs (.string k)≠none)→(∀k∈l,∀x y,get? xs (.string k)=some x→get? bs (.string k)=some y→(m (s++[k]) x y).length≤sz f x+sz f y) →
  (diffO m s xs bs l).length≤(l.map (kcost f xs)).sum+(l.map (kcost f bs)).sum
 | [],_,_=>Nat.zero_le _
 | k::l,hk,hm=>by
  have ih:=diffO_len (l:=l) (fun j hj=>hk j (List.mem_cons_of_mem _ hj)) fun j hj=>hm j (List.mem_cons_of_mem _ hj)
  have h0:=hk k List.mem_cons_self
  have h1:=hm k List.mem_cons_self
  rw[diffO,List.length_append,List.map_cons,List.map_cons,List.sum_cons,List.sum_cons]
  cases hx:get? xs (.string k) with
  | none =>
   cases hy:get? bs (.string k) with
   | none=>rw[hx,hy] at h0;simp at h0
   | some y =>
    have e1:kcost f bs k=(quoT k).length+2+sz f y:=by unfold kcost;rw[hy]
    simp only[List.length_cons,List.length_nil]
    omega
  | some x =>
   have e1:kcost f xs k=(quoT k).length+2+sz f x:=by unfold kcost;rw[hx]
   cases hy:get? bs (.string k) with
   | none =>
    simp only[List.length_cons,List.length_nil]
    omega
   | some y =>
    have e2:kcost f bs k=(quoT k).length+2+sz f y:=by unfold kcost;rw[hy]
    have h2:=h1 x y hx hy
    simp only
    omega
end Sp
end

section
open Go.RowKit Go.Maps
namespace Sp
noncomputable def mst (m:V→V→Option V) (xs:List (Lit×V)) (k:Lit) (y:V):Option (Option V):=match get? xs k with
 | some x=>if veq x y=true then some none else if isNull y=true then none else (m x y).map some
 | none=>if isNull y=true then none else (m (.map []) y).map some
section
variable {m:V→V→Option V} {xs:List (Lit×V)}
theorem mdfs_cons (k:Lit) (y:V) (r out:List (Lit×V)):mdfs m xs ((k,y)::r) out=(match mst m xs k y with
  | none=>none
  | some none=>mdfs m xs r out
  | some (some z)=>mdfs m xs r (mput k z out)):=by
 rw[mdfs]
 unfold mst
 cases get? xs k with
 | some x =>
  simp only
  by_cases h1:veq x y=true
  ·rw[if_pos h1,if_pos h1]
  ·rw[if_neg h1,if_neg h1]
   by_cases h2:isNull y=true
   ·rw[if_pos h2,if_pos h2]
   ·rw[if_neg h2,if_neg h2]
    cases m x y<;>rfl
 | none =>
  simp only
  by_cases h2:isNull y=true
  ·rw[if_pos h2,if_pos h2]
  ·rw[if_neg h2,if_neg h2]
   cases m (.map []) y<;>rfl
theorem mdfs_fail:∀ {l out:List (Lit×V)},(∃q∈l,mst m xs q.1 q.2=none)→mdfs m xs l out=none
 | [],_,⟨_,h,_⟩=>by cases h
 | (k,y)::r,out,⟨q,hq,h⟩=>by
  rw[mdfs_cons]
  cases hm:mst m xs k y with
  | none=>rfl
  | some o =>
   have hr:∃q∈r,mst m xs q.1 q.2=none:=by
    rcases List.mem_cons.1 hq with rfl|hq
    ·rw[hm] at h;cases h
    ·exact⟨q,hq,h⟩
   cases o with
   | none=>exact mdfs_fail hr
   | some z=>exact mdfs_fail hr
def Like (es es':List (Lit×V)) (k:Lit):Prop:=Maps.has (.map es:V) k=Maps.has (.map es':V) k∧(DataW.map es).atKey k .nil=(DataW.map es').atKey k .nil
theorem mput_same (k:By) (z:V) (es:List (Lit×V)):Maps.has (.map (mput (.string k) z es):V) (.string k)=true∧(DataW.map (mput (.string k) z es)).atKey (.string k) .nil=z :=
 ⟨has_put_same (D:=.map es) ⟨_,rfl⟩ (by exact trivial) z,atKey_put_same (D:=.map es) ⟨_,rfl⟩ (by exact trivial) z .nil⟩
theorem mput_other {k:Lit} {j:Lit} (h:j≠k) (z:V) (es:List (Lit×V)):Like (mput k z es) es j :=
 ⟨has_put_other (D:=.map es) h z,atKey_put_other (D:=.map es) h z .nil⟩
theorem mdfs_ok:∀ {l out:List (Lit×V)},Skey l→Skey out→(∀q∈l,mst m xs q.1 q.2≠none) → ∃out',mdfs m xs l out=some out'∧Skey out' ∧ ∀k:By,
  (∀y,(Lit.string k,y)∈l→(mst m xs (.string k) y=some none→Like out' out (.string k)) ∧ ∀z,mst m xs (.string k) y=some (some z)→Maps.has (.map out':V) (.string k)=true∧(DataW.map out').atKey (.string k) .nil=z) ∧
  ((∀p∈l,p.1≠Lit.string k)→Like out' out (.string k))
 | [],out,_,ho,_=>⟨out,rfl,ho,fun k=>⟨(fun y h=>by cases h),fun _=>⟨rfl,rfl⟩⟩⟩
 | (jl,y)::r,out,hs,ho,hn=>by
  obtain⟨j,ej⟩:=hs.2 _ List.mem_cons_self
  simp only at ej
  subst ej
  have hp:=List.pairwise_cons.1 hs.1
  have hs':Skey r:=⟨hp.2,fun p h=>hs.2 p (List.mem_cons_of_mem _ h)⟩
  have hne:∀p∈r,p.1≠Lit.string j:=fun p h e=>by
   have:=hp.1 p h
   rw[e,before_irr] at this
   cases this
  have hn':∀q∈r,mst m xs q.1 q.2≠none:=fun q h=>hn q (List.mem_cons_of_mem _ h)
  rw[mdfs_cons]
  have hnj:=hn _ List.mem_cons_self
  simp only at hnj
  cases hm:mst m xs (.string j) y with
  | none=>exact absurd hm hnj
  | some o =>
   cases o with
   | none =>
    obtain⟨out',e,h1,h2⟩:=mdfs_ok hs' ho hn'
    refine⟨out',e,h1,fun k=>⟨fun y' h=>?_,fun h=>(h2 k).2 fun p hp=>h p (List.mem_cons_of_mem _ hp)⟩⟩
    rcases List.mem_cons.1 h with h|h
    ·injection h with e1 e2
     injection e1 with e1
     subst e1 e2
     exact⟨fun _=>(h2 k).2 hne,fun z hz=>by rw[hm] at hz;cases hz⟩
    ·exact (h2 k).1 y' h
   | some z =>
    obtain⟨out',e,h1,h2⟩:=mdfs_ok (out:=mput (.string j) z out) hs' (mput_skey ho) hn'
    refine⟨out',e,h1,fun k=>⟨fun y' h=>?_,fun h=>?_⟩⟩
    ·rcases List.mem_cons.1 h with h|h
     ·injection h with e1 e2
      injection e1 with e1
      subst e1 e2
      refine⟨(fun h=>by rw[hm] at h;cases h),fun z' hz=>?_⟩
      rw[hm] at hz
      injection hz with hz
      injection hz with hz
      subst hz
      have h3:=(h2 k).2 hne
      have h4:=mput_same k z out
      exact⟨h3.1.trans h4.1,h3.2.trans h4.2⟩
     ·have hkj:(Lit.string k) ≠ .string j:=hne _ h
      have h3:=(h2 k).1 y' h
      have h4:=mput_other hkj z out
      exact⟨fun he=>⟨(h3.1 he).1.trans h4.1,(h3.1 he).2.trans h4.2⟩,h3.2⟩
    ·have hkj:(Lit.string k) ≠ .string j:=fun e=>h _ List.mem_cons_self e.symm
     have h3:=(h2 k).2 fun p hp=>h p (List.mem_cons_of_mem _ hp)
     have h4:=mput_other hkj z out
     exact⟨h3.1.trans h4.1,h3.2.trans h4.2⟩
def gone (xs bs:List (Lit×V)):List (Lit×V):=(xs.filter fun p=>!Maps.has (.map bs:V) p.1).map fun p=>(p.1,vWord 0)
theorem gone_skey {bs:List (Lit×V)} (h:Skey xs):Skey (gone xs bs):=by
 unfold gone
 refine⟨List.pairwise_map.2 (h.1.filter _),fun p hp=>?_⟩
 obtain⟨q,hq,rfl⟩:=List.mem_map.1 hp
 exact h.2 q (List.mem_filter.1 hq).1
theorem skey_canon {es:List (Lit×V)} (h:Skey es):Maps.Canon (.map es:V):=⟨es,rfl,h.1,fun p hp=>by obtain⟨s,e⟩:=h.2 p hp;rw[e];trivial⟩
theorem gone_has {bs:List (Lit×V)} (h:Skey xs) (k:Lit):Maps.has (.map (gone xs bs):V) k=(Maps.has (.map xs:V) k && !Maps.has (.map bs:V) k)∧(Maps.has (.map (gone xs bs):V) k=true→(DataW.map (gone xs bs)).atKey k .nil=vWord 0):=by
 have key:∀q∈gone xs bs,∃p∈xs,q.1=p.1∧Maps.has (.map bs:V) p.1=false∧q.2=vWord 0:=fun q hq=>by
  unfold gone at hq
  obtain⟨p,hp,rfl⟩:=List.mem_map.1 hq
  have h2:=List.mem_filter.1 hp
  exact⟨p,h2.1,rfl,by simpa using h2.2,rfl⟩
 constructor
 ·rw[Bool.eq_iff_iff,Bool.and_eq_true]
  constructor
  ·intro h1
   obtain⟨q,hq,hs⟩:=List.any_eq_true.1 (show (gone xs bs).any (fun q=>q.1.sameKey k)=true from h1)
   obtain⟨p,hp1,e1,e2,_⟩:=key q hq
   have ek:p.1=k:=by rw[← e1];exact WideAt.sameKey_eq hs
   exact⟨List.any_eq_true.2 ⟨p,hp1,by rw[← e1];exact hs⟩,by rw[← ek,e2];rfl⟩
  ·rintro⟨h1,h2⟩
   obtain⟨p,hp1,hs⟩:=List.any_eq_true.1 (show xs.any (fun q=>q.1.sameKey k)=true from h1)
   have ek:p.1=k:=WideAt.sameKey_eq hs
   refine List.any_eq_true.2 ⟨(p.1,vWord 0),List.mem_map.2 ⟨p,List.mem_filter.2 ⟨hp1,?_⟩,rfl⟩,hs⟩
   rw[ek];exact h2
 ·intro h1
  obtain⟨q,hq,hs⟩:=List.any_eq_true.1 (show (gone xs bs).any (fun q=>q.1.sameKey k)=true from h1)
  obtain⟨p,hp1,e1,e2,e3⟩:=key q hq
  have ek:q.1=k:=WideAt.sameKey_eq hs
  have hap:=apart_of_rising (gone_skey (bs:=bs) h).1
  have h3:=WideAt.atKey_mem .nil (by obtain⟨s,e⟩:=(gone_skey (bs:=bs) h).2 q hq;rw[e];trivial) hap (show (q.1,q.2)∈gone xs bs from hq)
  rw[ek] at h3
  rw[h3,e3]
end
end Sp
end

section
open Go.RowKit Go.Maps
def Src (f:Nat) (F:Nat→Prop) (w:World) (v:Value) (a:Sp.V):Prop:=∃b x n s sl mv,v = .pointer (some ⟨b,0,none⟩)∧VB w b x n s sl mv ∧
 ((mv = .map none∧Sp.memsOf a=[]) ∨ ∃m n' D,mv = .map (some m)∧w.ownsMap Tryz.prog 9 RV m n' (.map D)∧Pt (Rep f F w) D (Sp.memsOf a))
theorem src_of {f:Nat} {F:Nat→Prop} {w:World} {v:Value} {a:Sp.V} (h:Rep (f+1) F w v a):Src f F w v a:=by
 obtain⟨b,rfl,_,h⟩:=h
 rcases h with⟨k,_,rfl,h⟩|⟨n,rfl,h,_⟩|⟨s,rfl,h⟩|⟨es,sl,ps,rfl,h,_⟩|⟨es,m,n,D,rfl,h,_,ho,hp⟩
 ·exact⟨b,_,_,_,_,_,rfl,h,Or.inl ⟨rfl,rfl⟩⟩
 ·exact⟨b,_,_,_,_,_,rfl,h,Or.inl ⟨rfl,rfl⟩⟩
 ·exact⟨b,_,_,_,_,_,rfl,h,Or.inl ⟨rfl,rfl⟩⟩
 ·exact⟨b,_,_,_,_,_,rfl,h,Or.inl ⟨rfl,rfl⟩⟩
 ·exact⟨b,_,_,_,_,_,rfl,h,Or.inr ⟨m,n,D,rfl,ho,hp⟩⟩
theorem src_look {f:Nat} {F:Nat→Prop} {w:World} {mv x:Value} {xs:List (Lit×Sp.V)} {kl:Lit} (h:(mv = .map none∧xs=[]) ∨ ∃m n' D,mv = .map (some m)∧w.ownsMap Tryz.prog 9 RV m n' (.map D)∧Pt (Rep f F w) D xs) (hk:keyOf Tryz.prog 9 x=some kl) :
  ∃y,(match Sp.get? xs kl with|none=>y = .pointer none|some c=>Rep f F w y c) ∧ ∀w',Below w.heap.size w w'→(Instr.lookup 109 mv x true).run Tryz.prog w' = .ok (.tuple #[y,.bool (Sp.get? xs kl).isSome]) w':=by
 rcases h with⟨rfl,rfl⟩|⟨m,n',D,rfl,ho,hp⟩
 ·exact⟨.pointer none,rfl,fun w' _=>Maps.look_nil true mlaw Tryz.underlying109 (mzero w') hk⟩
 ·have hml:=map_lt ho
  have hh:=hp.has kl
  cases hc:has (.map D:DataW Value) kl with
  | false =>
   have e1:Sp.get? xs kl=none:=by
    unfold Sp.get?
    rw[if_neg (by rw[← hh,hc];simp)]
   rw[e1]
   refine⟨.pointer none,rfl,fun w' hbw=>?_⟩
   obtain⟨v1,ps1,r1,q1⟩:=(map_kept ho (hbw.block m hml)).look_ok mlaw Tryz.underlying109 (mzero w') (zd:=.held (.pointer none)) (zp:=[]) rfl hk
   obtain⟨rfl,_⟩:=rv_held q1 (atKey_of_not_has hc _)
   rw[hc] at r1
   exact r1
  | true =>
   obtain⟨y,e4,hy⟩:=hp.at kl hc
   have e1:Sp.get? xs kl=some ((DataW.map xs).atKey kl .nil):=by
    unfold Sp.get?
    rw[if_pos (by rw[← hh,hc])]
   rw[e1]
   refine⟨y,hy,fun w' hbw=>?_⟩
   obtain⟨v1,ps1,r1,q1⟩:=(map_kept ho (hbw.block m hml)).look_ok mlaw Tryz.underlying109 (mzero w') (zd:=.held (.pointer none)) (zp:=[]) rfl hk
   obtain⟨rfl,_⟩:=rv_held q1 (e4 _)
   rw[hc] at r1
   exact r1
structure MapS (f N:Nat) (w:World) (F1:Nat→Prop) (H:Lit→Bool) (Z:Lit→Sp.V) (cnt:Nat) (wr:World):Prop where
 bel:Below w.heap.size w wr
 sz:w.heap.size<wr.heap.size
 el:∃n' D' es',n'+cnt≤N∧wr.ownsMap Tryz.prog 9 RV w.heap.size n' (.map D')∧Pt (Rep f F1 wr) D' es'∧(∀k,Maps.has (.map es':DataW Unit) k=H k) ∧ ∀k,H k=true→(DataW.map es').atKey k .nil=Z k
section
variable {f N:Nat} {w:World} {F1:Nat→Prop} {H:Lit→Bool} {Z:Lit→Sp.V} {cnt:Nat} {wr:World}
theorem MapS.grow {w1:World} {it:Option Nat} {F2:Nat→Prop} (h:MapS f N w F1 H Z cnt wr) (hg:wr.grownBy w1 it) (hit:some w.heap.size≠it) (hlt:∀i,it=some i→w.heap.size≤i) (h2:∀k,F1 k→k<wr.heap.size→some k≠it∧F2 k):MapS f N w F2 H Z cnt w1:=by
 have hs:=h.sz
 have hs1:=hg.size
 obtain⟨n',D',es',g1,g2,g3,g4⟩:=h.el
 refine⟨⟨hg.os.trans h.bel.os,hg.tape.trans h.bel.tape,hg.output.trans h.bel.output,by omega,fun j hj=>(hg.block j (by omega) (fun e=>by have:=hlt j e.symm;omega)).trans (h.bel.block j hj)⟩,by omega,n',D',es',g1,map_kept g2 (hg.block _ (by omega) hit),g3.mono fun _ _ hr=>hr.move fun k hk hkl=>⟨hg.block k hkl (h2 k hk hkl).1,(h2 k hk hkl).2⟩,g4⟩
theorem MapS.low {w1:World} (h:MapS f N w F1 H Z cnt wr) (hb:Below wr.heap.size wr w1):MapS f N w F1 H Z cnt w1:=by
 obtain⟨n',D',es',g1,g2,g3,g4⟩:=h.el
 exact⟨h.bel.trans (hb.mono h.bel.size),Nat.lt_of_lt_of_le h.sz hb.size,n',D',es',g1,map_kept g2 (hb.block _ h.sz),g3.mono fun _ _ hr=>hr.bel hb,g4⟩
theorem MapS.as {H':Lit→Bool} {Z':Lit→Sp.V} {cnt1:Nat} (h:MapS f N w F1 H Z cnt wr) (hc:cnt1≤cnt) (hH:∀k,H k=H' k) (hZ:∀k,H' k=true→Z k=Z' k):MapS f N w F1 H' Z' cnt1 wr:=by
 obtain⟨n',D',es',g1,g2,g3,g4,g5⟩:=h.el
 exact⟨h.bel,h.sz,n',D',es',by omega,g2,g3,fun k=>(g4 k).trans (hH k),fun k hk=>(g5 k (by rw[hH];exact hk)).trans (hZ k hk)⟩
theorem MapS.put {cnt1:Nat} (h:MapS f N w F1 H Z cnt wr) (hc:cnt1<cnt) (hN:N<maxLen) (hF:∀k,F1 k→k≠w.heap.size) {x:Value} {kl:Lit} (hkey:keyOf Tryz.prog 9 x=some kl) (kk:WideAt.IsKeyLit kl) {p:Addr} {d:Sp.V} (hv:Rep f F1 wr (.pointer (some p)) d) :
  ∃w3,(Instr.mapUpdate 109 (.map (some w.heap.size)) x (.pointer (some p))).run Tryz.prog wr = .ok () w3∧MapS f N w F1 (fun k=>k.sameKey kl || H k) (fun k=>if k.sameKey kl=true then d else Z k) cnt1 w3∧wr.grownBy w3 (some w.heap.size):=by
 have hs:=h.sz
 obtain⟨n',D',es',g1,g2,g3,g4,g5⟩:=h.el
 obtain⟨w3,hrun,ho3,hg⟩:=g2.update mlaw Tryz.underlying109 (by omega) hkey (val:=.pointer (some p)) (d:=.held (.pointer (some p))) (ps:=[]) rfl
 have hs3:=hg.size
 have hk:∀j,j<wr.heap.size→j≠w.heap.size→w3.heap[j]? = wr.heap[j]?:=fun j h1 h2=>hg.block j h1 (fun e=>h2 (Option.some.inj e))
 obtain⟨D2,es2,e1,e2,ht⟩:=Pt.put kl (.pointer (some p)) d hv g3
 rw[e1] at ho3
 refine⟨w3,hrun,⟨⟨hg.os.trans h.bel.os,hg.tape.trans h.bel.tape,hg.output.trans h.bel.output,by omega,fun j hj=>(hk j (by omega) (by omega)).trans (h.bel.block j hj)⟩,by omega,n'+1,D2,es2,by omega,ho3,ht.mono fun _ _ hr=>hr.move fun k h1 h2=>⟨hk k h2 (hF k h1),h1⟩,fun k=>?_,fun k=>?_⟩,hg⟩
 ·rw[← e2]
  by_cases hkk:k=kl
  ·subst hkk
   rw[has_put_same ⟨_,rfl⟩ kk,WideAt.sameKey_self kk];rfl
  ·rw[has_put_other hkk,g4,mgKey_ne hkk];rfl
 ·rw[← e2]
  by_cases hkk:k=kl
  ·subst hkk
   intro _
   rw[atKey_put_same ⟨_,rfl⟩ kk,if_pos (WideAt.sameKey_self kk)]
  ·rw[atKey_put_other hkk,mgKey_ne hkk]
   intro hh
   rw[if_neg (by decide)]
   exact g5 k (by simpa using hh)
end
end

section
open Go.RowKit
namespace Sp
end Sp
theorem PTab.below {w w':World} {B:Nat} (h:PTab w) (hb:Below B w w') (hB:4<B):PTab w':=by
 obtain⟨t,fr,e⟩:=h;exact⟨t,fr,(hb.block _ hB).trans e⟩
theorem PTab.kept {w w':World} (h:PTab w) (hb:Below w.heap.size w w'):PTab w':=by
 refine h.below hb ?_
 obtain⟨t,fr,e⟩:=h
 exact (Array.getElem?_eq_some_iff.1 e).1
theorem pes_i0 (w:World):(Instr.index 256 (.agg pescCells) (.int .i64 0)).run Tryz.prog w = .ok (.agg #[.string ⟨#[126,48]⟩,.int .u8 126]) w:=by kernel_rfl
theorem pes_i1 (w:World):(Instr.index 256 (.agg pescCells) (.int .i64 1)).run Tryz.prog w = .ok (.agg #[.string ⟨#[126,49]⟩,.int .u8 47]) w:=by kernel_rfl
def pesK (j:Nat):ByteArray:=if j=0 then ⟨#[126,48]⟩ else ⟨#[126,49]⟩
def pesB (j:Nat):Int:=if j=0 then 126 else 47
theorem pes_idx (j:Nat) (hj:j<2) (w:World):(Instr.index 256 (.agg pescCells) (.int .i64 j)).run Tryz.prog w = .ok (.agg #[.string (pesK j),.int .u8 (pesB j)]) w:=by
 match j,hj with
 | 0,_=>exact pes_i0 w
 | 1,_=>exact pes_i1 w
theorem pesK_size (j:Nat) (hj:j<2):(pesK j).size=2:=by
 match j,hj with
 | 0,_=>rfl
 | 1,_=>rfl
end
end Go.Proofs.YtdpomdelmdofmaaGreatDoor
