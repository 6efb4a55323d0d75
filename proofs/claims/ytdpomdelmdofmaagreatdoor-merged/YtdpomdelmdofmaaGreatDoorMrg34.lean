/-
  What the statement's own script of patching is answered.
-/
import Derived.Test.YtdpomdelmdofmaaGreatDoorMrg18
import Derived.Test.YtdpomdelmdofmaaGreatDoorMrg31
import Derived.Test.YtdpomdelmdofmaaGreatDoorMrg25
import Derived.Test.YtdpomdelmdofmaaGreatDoorMrg26
import Derived.Test.YtdpomdelmdofmaaGreatDoorMrg33
import Derived.Test.YtdpomdelmdofmaaGreatDoorMrg29
namespace Go.Proofs.YtdpomdelmdofmaaGreatDoor
section
def Sp.p1:Sp.By:=[91,49,44,50,93]
def Sp.p2:Sp.By:=[91,123,34,111,112,34,58,34,97,100,100,34,44,34,112,97,116,104,34,58,34,47,49,34,44,34,118,97,108,117,101,34,58,57,125,93]
def Sp.p3:Sp.By:=[47,49]
def Sp.p4:Sp.By:=[91,49,44,57,44,50,93]
def Sp.pv2:Sp.V:=Sp.vArr [Sp.vNum (false,[49],0),Sp.vNum (false,[57],0),Sp.vNum (false,[50],0)]
def Sp.ps:List Sp.St:=[(1,Sp.p1,[]),(5,Sp.p2,[]),(2,[],[]),(7,[],[]),(3,Sp.p3,[])]
theorem step_dump {d e n:Int} (hc:Sp.cfg d e n=true) (v:Sp.V×Sp.Inv) (s t:Sp.By):Sp.step d e n (some v) (2,s,t)=((0,0,Sp.can top v.1),some v):=by
 unfold Sp.step;rw[hc,if_pos rfl,if_neg (by simp),if_neg (by simp)];rfl
theorem step_load {d e n:Int} (hc:Sp.cfg d e n=true) (doc:Sp.Doc) (s t:Sp.By):Sp.step d e n doc (1,s,t)=Sp.ldd (Sp.readTo s d e) doc:=by
 unfold Sp.step;rw[hc,if_pos rfl,if_neg (by simp),if_pos rfl]
theorem step_merge {d e n:Int} (hc:Sp.cfg d e n=true) (v:Sp.V×Sp.Inv) (s t:Sp.By):Sp.step d e n (some v) (6,s,t)=((Sp.stMerge d e v s).1,some (Sp.stMerge d e v s).2):=by
 unfold Sp.step;rw[hc,if_pos rfl,if_neg (by simp),if_neg (by simp)];rfl
theorem step_diff {d e n:Int} (hc:Sp.cfg d e n=true) (v:Sp.V×Sp.Inv) (s t:Sp.By):Sp.step d e n (some v) (8,s,t)=(Sp.stDiff d e n v s,some v):=by
 unfold Sp.step;rw[hc,if_pos rfl,if_neg (by simp),if_neg (by simp)];rfl
theorem step_mdiff {d e n:Int} (hc:Sp.cfg d e n=true) (v:Sp.V×Sp.Inv) (s t:Sp.By):Sp.step d e n (some v) (9,s,t)=(Sp.stMergeDiff d e v s,some v):=by
 unfold Sp.step;rw[hc,if_pos rfl,if_neg (by simp),if_neg (by simp)];rfl
theorem step_none {d e n:Int} (hc:Sp.cfg d e n=true) (k:Int) (h1:1<k) (h9:k≤9) (s t:Sp.By):Sp.step d e n none (k,s,t)=((3,0,[]),none):=by
 unfold Sp.step;rw[hc,if_pos rfl,if_neg (by simp;omega),if_neg (by simp;omega)]
end

section
open Go.RowKit
theorem read_two {t:Sp.By} {d x:Int}:(∃c,Sp.readTo t d x=(c,none)∧0<c) ∨ ∃v,Sp.readTo t d x=(0,some v):=by
 unfold Sp.readTo
 split
 ·exact Or.inl ⟨4,rfl,by omega⟩
 ·split
  ·exact Or.inl ⟨5,rfl,by omega⟩
  ·rename_i v r fl hv
   split
   ·split
    ·exact Or.inl ⟨6,rfl,by omega⟩
    ·split
     ·exact Or.inl ⟨7,rfl,by omega⟩
     ·split
      ·exact Or.inl ⟨8,rfl,by omega⟩
      ·exact Or.inr ⟨v,rfl⟩
   ·exact Or.inl ⟨5,rfl,by omega⟩
theorem stp_quote {c:UInt8} (h:c.toNat=34) {b o:Bool} {st:Bool×Bool} (hs:Sp.stp (b,o) c=some st):st=(if o then b else !b,false):=by
 obtain rfl:c=34:=UInt8.toNat_inj.1 h
 cases b<;>cases o<;>(injection hs with hs;exact hs.symm)
theorem stp_other {c:UInt8} (h:¬ c.toNat=34) {b o:Bool} {st:Bool×Bool} (hs:Sp.stp (b,o) c=some st):st=(b,c == 92 && !o)∧(c.toNat=32→b=true)∧32≤c.toNat:=by
 have e:(c == 34)=false:=by rw[ofNat_beq];simpa using h
 unfold Sp.stp at hs
 simp only[e,Bool.false_and,Bool.false_eq_true,if_false] at hs
 split at hs
 ·cases hs
 ·rename_i hn
  injection hs with hs
  refine⟨hs.symm,fun h2=>?_,by omega⟩
  cases b with
  | true=>rfl
  | false=>exact absurd (Or.inr ⟨h2,rfl⟩) hn
end

section
open Go.RowKit Go.Maps
namespace Sp
end Sp
theorem cfg_d {d e n:Int} (hc:Sp.cfg d e n=true):1≤d∧d≤20∧0≤e∧e≤400:=by
 unfold Sp.cfg Sp.inB at hc
 simp at hc
 omega
end

section
open Go.RowKit Go.Maps
theorem stMerge_ok {d e:Int} {u:Sp.By} {v:Sp.V×Sp.Inv} {p:Sp.V} (hp:Sp.readTo u d e=(0,some p)) (hg:Sp.gd d e top 1 (Sp.mrg top (some v.1) [] p).1) (hz:Sp.sz top (Sp.mrg top (some v.1) [] p).1≤16000):Sp.stMerge d e v u=((0,0,[]),((Sp.mrg top (some v.1) [] p).1,some (Sp.mrg top (some v.1) [] p).2.reverse)):=by
 unfold Sp.stMerge
 rw[hp]
 simp only
 unfold Sp.mergeA
 rw[if_neg (by have:=(Sp.can_sz hg).1;omega)]
end

section
open Go.RowKit Go.Maps
section
variable {d x:Int}
theorem mdf_any:∀f:Nat,MdfAt d x f
 | 0=>fun g _ _ _ _ _ _ _ _ h=>by omega
 | f+1=>fun g lv F F' w v v' a b hfg ha hma hca hb hF' hgb hsb=>by
  obtain rfl:f=g:=by omega
  cases hob:Sp.isObj b with
  | false=>exact mdf_leaf ha hb hob
  | true =>
   obtain⟨bs,rfl⟩:∃bs,b = .map bs:=by
    cases b with
    | map bs=>exact⟨bs,rfl⟩
    | _=>cases hob
   obtain⟨tb,rfl,_,h⟩:=hb
   have h2:Sp.sz (f+1) (.map bs)=2+Sp.costs f bs:=Sp.sz_obj f bs
   rcases h with⟨k,_,e,_⟩|⟨n,e,_⟩|⟨s,e,_⟩|⟨es',sl,ps,e,_⟩|⟨es',m,n,D,e,hv,_,ho,hp⟩
   ·cases e
   ·cases e
   ·cases e
   ·cases e
   ·injection e with e
    subst e
    exact mdf_obj (mdf_any f) ha hma hca hv ho hp (Sp.gd_map hgb).2 (by omega) hF'
def MdfBd (d x:Int) (f:Nat):Prop:=∀ (lv:Int) (a b z:Sp.V) (C:Nat),Sp.gd d x f lv b→(∀g,f=g+1→Sp.Mok d x g lv (Sp.memsOf a)∧Sp.costs g (Sp.memsOf a)≤C)→Sp.mdf f a b=some z→Sp.gd d x f lv z∧Sp.sz f z≤(2*C+1)*Sp.sz f b
theorem mdfs_bd {f C:Nat} {lv:Int} {m:Sp.V→Sp.V→Option Sp.V} {xs:List (Lit×Sp.V)}:∀ {l out out':List (Lit×Sp.V)},Sp.mdfs m xs l out=some out'→Sp.Mok d x f lv l→Sp.Mok d x f lv out →
  (∀q∈l,∀z,Sp.mst m xs q.1 q.2=some (some z)→Sp.gd d x f (lv+1) z∧Sp.sz f z≤(2*C+1)*Sp.sz f q.2)→Sp.Mok d x f lv out'∧Sp.costs f out'≤Sp.costs f out+(2*C+1)*Sp.costs f l
 | [],out,out',e,_,ho,_=>by
  have e':some out=some out':=e
  injection e' with e'
  subst e'
  exact⟨ho,Nat.le_add_right _ _⟩
 | (jl,y)::r,out,out',e,hl,ho,hz=>by
  obtain⟨⟨j,ej,hut⟩,_⟩:=hl.2 _ List.mem_cons_self
  simp only at ej
  subst ej
  have hl':Sp.Mok d x f lv r:=⟨(List.pairwise_cons.1 hl.1).2,fun p hp=>hl.2 p (List.mem_cons_of_mem _ hp)⟩
  have hz':=fun q (hq:q∈r)=>hz q (List.mem_cons_of_mem _ hq)
  have hc:Sp.costs f ((Lit.string j,y)::r)=(Sp.quoT j).length+2+Sp.sz f y+Sp.costs f r:=Sp.costs_cons _ _ _
  rw[Sp.mdfs_cons] at e
  rw[hc,Nat.mul_add]
  cases hm:Sp.mst m xs (.string j) y with
  | none=>rw[hm] at e;cases e
  | some o =>
   rw[hm] at e
   cases o with
   | none =>
    obtain⟨h1,h2⟩:=mdfs_bd e hl' ho hz'
    exact⟨h1,by omega⟩
   | some z =>
    obtain⟨g1,g2⟩:=hz _ List.mem_cons_self z hm
    simp only at g2
    obtain⟨h1,h2⟩:=mdfs_bd (out:=Sp.mput (.string j) z out) e hl' (ho.mput hut g1) hz'
    refine⟨h1,?_⟩
    rw[Sp.costs_mput] at h2
    have h3:Sp.costs f (Sp.mdel (.string j) out)≤Sp.costs f out:=Sp.costs_filter f (fun p=>!p.1.sameKey (.string j)) out
    have h4:(Sp.quoT j).length+2≤(2*C+1)*((Sp.quoT j).length+2):=Nat.le_mul_of_pos_left _ (by omega)
    rw[Nat.mul_add]
    omega
theorem gone_bd {f:Nat} {lv:Int} {xs bs:List (Lit×Sp.V)} (h:Sp.Mok d x f lv xs):Sp.Mok d x f lv (Sp.gone xs bs)∧Sp.costs f (Sp.gone xs bs)≤2*Sp.costs f xs:=by
 have hnull:∀p∈xs,Sp.gd d x f (lv+1) (Sp.vWord 0)∧Sp.sz f (Sp.vWord 0)=4:=fun p hp=>by
  have h1:=(h.2 p hp).2
  cases f with
  | zero=>exact h1.elim
  | succ f=>exact⟨⟨Sp.gd_lv h1,Or.inl ⟨0,by omega,rfl⟩⟩,rfl⟩
 constructor
 ·refine⟨(Sp.gone_skey (bs:=bs) h.skey).1,fun p hp=>?_⟩
  unfold Sp.gone at hp
  obtain⟨q,hq,rfl⟩:=List.mem_map.1 hp
  have hq':=(List.mem_filter.1 hq).1
  exact⟨(h.2 q hq').1,(hnull q hq').1⟩
 ·have key:∀l:List (Lit×Sp.V),(∀p∈l,p∈xs)→Sp.costs f (l.map fun p=>(p.1,Sp.vWord 0))≤2*Sp.costs f l:=by
   intro l
   induction l with
   | nil=>intro _;exact Nat.zero_le _
   | cons a l ih =>
    intro hl
    have h1:=ih fun p hp=>hl p (List.mem_cons_of_mem _ hp)
    have h2:=(hnull a (hl a List.mem_cons_self)).2
    obtain⟨⟨s,es,_⟩,_⟩:=h.2 a (hl a List.mem_cons_self)
    rw[List.map_cons,Sp.costs_cons,Sp.costs_cons]
    simp only
    rw[h2]
    have h3:2≤(Sp.quoT (strOf a.1)).length:=by simp[Sp.quoT]
    omega
  have h1:=key (xs.filter fun p=>!Maps.has (.map bs:Sp.V) p.1) fun p hp=>(List.mem_filter.1 hp).1
  have h2:=Sp.costs_filter f (fun p=>!Maps.has (.map bs:Sp.V) p.1) xs
  exact Nat.le_trans h1 (Nat.mul_le_mul_left 2 h2)
theorem mdf_bd:∀f:Nat,MdfBd d x f
 | 0=>fun _ _ _ _ _ h=>h.elim
 | f+1=>fun lv a b z C hb ha e=>by
  cases hob:Sp.isObj b with
  | false =>
   have e1:Sp.mdf (f+1) a b=some b:=by cases b<;>first|rfl|cases hob
   rw[e1] at e
   injection e with e
   subst e
   exact⟨hb,Nat.le_mul_of_pos_left _ (by omega)⟩
  | true =>
   obtain⟨bs,rfl⟩:∃bs,b = .map bs:=by
    cases b with
    | map bs=>exact⟨bs,rfl⟩
    | _=>cases hob
   obtain⟨hlv,hmb⟩:=Sp.gd_map hb
   obtain⟨hma,hca⟩:=ha f rfl
   obtain⟨g1,g2⟩:=gone_bd (bs:=bs) hma
   have e1:(Sp.mdfs (Sp.mdf f) (Sp.memsOf a) bs (Sp.gone (Sp.memsOf a) bs)).map DataW.map=some z:=e
   cases hm:Sp.mdfs (Sp.mdf f) (Sp.memsOf a) bs (Sp.gone (Sp.memsOf a) bs) with
   | none=>rw[hm] at e1;cases e1
   | some out =>
    rw[hm] at e1
    have e2:some (DataW.map out)=some z:=e1
    injection e2 with e2
    subst e2
    obtain⟨h1,h2⟩:=mdfs_bd (C:=C) hm hmb g1 fun q hq z hz=>by
     have hgq:=(hmb.2 q hq).2
     unfold Sp.mst at hz
     cases hg:Sp.get? (Sp.memsOf a) q.1 with
     | none =>
      rw[hg] at hz
      simp only at hz
      split at hz
      ·cases hz
      ·obtain⟨z',hz',e3⟩:=Option.map_eq_some_iff.1 hz
       injection e3 with e3
       subst e3
       exact mdf_bd f (lv+1) (.map []) q.2 z' C hgq (fun g _=>⟨⟨List.Pairwise.nil,fun p hp=>by cases hp⟩,Nat.zero_le _⟩) hz'
     | some y =>
      rw[hg] at hz
      simp only at hz
      split at hz
      ·cases hz
      ·split at hz
       ·cases hz
       ·obtain⟨z',hz',e3⟩:=Option.map_eq_some_iff.1 hz
        injection e3 with e3
        subst e3
        obtain⟨s,hs⟩:=get_kl hma.skey hg
        have hgy:=(hma.2 _ hs).2
        have hsy:Sp.sz f y≤Sp.costs f (Sp.memsOf a):=Sp.mem_costs hs
        refine mdf_bd f (lv+1) y q.2 z' C hgq (fun g hg=>?_) hz'
        subst hg
        exact⟨(mems_ok hgy).1,Nat.le_trans (mems_ok hgy).2 (Nat.le_trans hsy hca)⟩
    refine⟨h1.gd hlv,?_⟩
    show 2+Sp.costs f out≤(2*C+1)*(2+Sp.costs f bs)
    rw[Nat.mul_add]
    omega
end
end
end Go.Proofs.YtdpomdelmdofmaaGreatDoor
