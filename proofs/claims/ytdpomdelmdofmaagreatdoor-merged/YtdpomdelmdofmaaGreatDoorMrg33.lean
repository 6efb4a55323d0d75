/-
  Walk of MergePatch.
-/
import Derived.Test.YtdpomdelmdofmaaGreatDoorMrg29
import Derived.Test.YtdpomdelmdofmaaGreatDoorMrg32
import Derived.Deep.CutBlock
import Derived.Test.YtdpomdelmdofmaaGreatDoorMrg26
import Derived.Test.YtdpomdelmdofmaaGreatDoorMrg23
import Derived.Test.YtdpomdelmdofmaaGreatDoorMrg13
import Derived.Test.YtdpomdelmdofmaaGreatDoorMrg12
namespace Go.Proofs.YtdpomdelmdofmaaGreatDoor
section
set_option maxRecDepth 100000
set_option maxHeartbeats 8000000
open Go.RowKit Go.Maps
def MdfEnd (f:Nat) (F':Nat→Prop) (a b:Sp.V) (w:World) (e:Ending) (w':World):Prop:=Below w.heap.size w w'∧match Sp.mdf f a b with
 | none=>e = .returned (.tuple #[.pointer none,.bool false])
 | some z=>∃p,e = .returned (.tuple #[.pointer (some p),.bool true])∧Rep f (fun k=>F' k∨w.heap.size≤k) w' (.pointer (some p)) z
def MdfAt (d x:Int) (f:Nat):Prop:=∀ (g:Nat) (lv:Int) (F F':Nat→Prop) (w:World) (v v':Value) (a b:Sp.V),f=g+1→Src g F w v a→Sp.Mok d x g lv (Sp.memsOf a)→Sp.costs g (Sp.memsOf a)≤1000000→Rep f F' w v' b→(∀k,F' k→k<w.heap.size)→Sp.gd d x f lv b→Sp.sz f b≤1000000 →
 Calls Tryz.prog 89 #[v,v'] w (MdfEnd f F' a b w)
section
variable {d x:Int}
theorem mdf_leaf {g:Nat} {F F':Nat→Prop} {w:World} {v v':Value} {a b:Sp.V} (hs:Src g F w v a) (h:Rep (g+1) F' w v' b) (hb:Sp.isObj b=false) :
  Calls Tryz.prog 89 #[v,v'] w (MdfEnd (g+1) F' a b w):=by
 obtain⟨ab,ax,an,ast,asl,amv,rfl,_⟩:=hs
 obtain⟨tb,tx,tn,ts,tsl,tmv,rfl,ht,_,e6⟩:=rep_kind h
 rw[hb] at e6
 have e1:(tx != 6)=true:=e6
 have c0:=ht.c0
 have HR:=hide h
 have HE:=hide (show Sp.mdf (g+1) a b=some b by cases b<;>first|rfl|cases hb)
 obtain⟨Q,hQ⟩:∃Q,Q=MdfEnd (g+1) F' a b w:=⟨_,rfl⟩
 rw[← hQ]
 have HQ:=hide hQ
 clear h hb e6 ht hQ
 go_enter Tryz.func89,Tryz.ntmps89
 go_wp2_with (fail)
 show Q (.returned (.tuple #[.pointer (some ⟨tb,0,none⟩),.bool true])) _
 rw[unhide HQ]
 refine⟨Below.refl _ _,?_⟩
 rw[unhide HE]
 exact⟨_,rfl,(unhide HR).move fun k hk _=>⟨rfl,Or.inl hk⟩⟩
noncomputable def fate (f:Nat) (xs bs:List (Lit×Sp.V)) (k:Lit):Option (Option Sp.V):=Sp.mst (Sp.mdf f) xs k ((DataW.map bs).atKey k .nil)
noncomputable def fateH (f:Nat) (xs bs:List (Lit×Sp.V)) (left:Lit→Bool) (k:Lit):Bool:=if Maps.has (.map bs:DataW Unit) k=true then (!left k && (match fate f xs bs k with|some (some _)=>true|_=>false)) else Maps.has (.map xs:DataW Unit) k
noncomputable def fateZ (f:Nat) (xs bs:List (Lit×Sp.V)) (k:Lit):Sp.V:=if Maps.has (.map bs:DataW Unit) k=true then (match fate f xs bs k with|some (some z)=>z|_=>Sp.vWord 0) else Sp.vWord 0
theorem skey_has {es:List (Lit×Sp.V)} {k:Lit} (h:Sp.Skey es) (hh:Maps.has (.map es:DataW Unit) k=true):∃s c,k = .string s∧(Lit.string s,c)∈es∧(DataW.map es).atKey k .nil=c:=by
 obtain⟨p,hp,hs⟩:=List.any_eq_true.1 (show (es.any fun p=>p.1.sameKey k)=true from hh)
 obtain⟨s,e⟩:=h.2 p hp
 have ek:p.1=k:=WideAt.sameKey_eq hs
 obtain⟨pk,pv⟩:=p
 simp only at e ek
 subst e
 subst ek
 exact⟨s,pv,rfl,hp,WideAt.atKey_mem .nil (by exact trivial) (apart_of_rising h.1) hp⟩
theorem mem_has {es:List (Lit×Sp.V)} {s:Sp.By} {c:Sp.V} (h:Sp.Skey es) (hm:(Lit.string s,c)∈es):Maps.has (.map es:DataW Unit) (.string s)=true∧(DataW.map es).atKey (.string s) .nil=c :=
 ⟨List.any_eq_true.2 ⟨_,hm,Sp.sameKey_str.2 rfl⟩,WideAt.atKey_mem .nil (by exact trivial) (apart_of_rising h.1) hm⟩
theorem mdf_never {f:Nat} {a:Sp.V} {bs:List (Lit×Sp.V)} (hb:Sp.Skey bs) {k:Lit} (hh:Maps.has (.map bs:DataW Unit) k=true) (hn:fate f (Sp.memsOf a) bs k=none):Sp.mdf (f+1) a (.map bs)=none:=by
 obtain⟨s,c,rfl,hm,e⟩:=skey_has hb hh
 unfold fate at hn
 rw[e] at hn
 show (Sp.mdfs (Sp.mdf f) (Sp.memsOf a) bs (Sp.gone (Sp.memsOf a) bs)).map DataW.map=none
 rw[Sp.mdfs_fail ⟨_,hm,hn⟩];rfl
theorem mdf_done {f N cnt:Nat} {w wr w2:World} {F2 F':Nat→Prop} {a:Sp.V} {bs:List (Lit×Sp.V)} {left:Lit→Bool} (hM:MapS f N w F2 (fateH f (Sp.memsOf a) bs left) (fateZ f (Sp.memsOf a) bs) cnt wr) (hl:∀k,left k=false) (hok:∀k,Maps.has (.map bs:DataW Unit) k=true→left k=false→fate f (Sp.memsOf a) bs k≠none)
  (hsx:Sp.Skey (Sp.memsOf a)) (hsb:Sp.Skey bs) (hb:Below wr.heap.size wr w2) (hvb:VB w2 wr.heap.size 6 n0 [] (.slice none 0 0) (.map (some w.heap.size))) (hF2:∀k,F2 k→F' k∨w.heap.size≤k) :
  ∃z,Sp.mdf (f+1) a (.map bs)=some z∧Rep (f+1) (fun k=>F' k∨w.heap.size≤k) w2 (.pointer (some ⟨wr.heap.size,0,none⟩)) z∧Below w.heap.size w w2:=by
 obtain⟨out,e,hso,hk⟩:=Sp.mdfs_ok (m:=Sp.mdf f) (xs:=Sp.memsOf a) hsb (Sp.gone_skey (bs:=bs) hsx) (fun q hq=>by
  obtain⟨s,es⟩:=hsb.2 q hq
  obtain⟨qk,qv⟩:=q
  simp only at es
  subst es
  obtain⟨h1,h2⟩:=mem_has hsb hq
  have:=hok _ h1 (hl _)
  unfold fate at this
  rw[h2] at this
  exact this)
 obtain⟨n',D',es',g1,g2,g3,g4,g5⟩:=hM.el
 have c':=g3.canon (g2.canon mlaw)
 have hall:∀k,Maps.has (.map es':DataW Unit) k=Maps.has (.map out:DataW Unit) k∧(Maps.has (.map es':DataW Unit) k=true→(DataW.map es').atKey k .nil=(DataW.map out).atKey k .nil):=by
  intro k
  rw[g4]
  by_cases hstr:∃s,k = .string s
  ·obtain⟨s,rfl⟩:=hstr
   rcases Sp.key_two bs s with⟨c,hc⟩|hno
   ·obtain⟨h1,h2⟩:=mem_has hsb hc
    have hf:fate f (Sp.memsOf a) bs (.string s)=Sp.mst (Sp.mdf f) (Sp.memsOf a) (.string s) c:=by unfold fate;rw[h2]
    have hz:=(hk s).1 c hc
    rw[← hf] at hz
    have hne:=hok _ h1 (hl _)
    have gh:=Sp.gone_has (bs:=bs) hsx (.string s)
    cases hfa:fate f (Sp.memsOf a) bs (.string s) with
    | none=>exact absurd hfa hne
    | some o =>
     cases o with
     | none =>
      have h3:=hz.1 hfa
      have e1:fateH f (Sp.memsOf a) bs left (.string s)=false:=by unfold fateH;rw[if_pos h1,hfa];simp
      have e2:Maps.has (.map out:DataW Unit) (.string s)=false:=by rw[h3.1,gh.1,h1];simp
      rw[e1,e2]
      exact⟨rfl,fun h=>by cases h⟩
     | some z =>
      have h3:=hz.2 z hfa
      have e1:fateH f (Sp.memsOf a) bs left (.string s)=true:=by unfold fateH;rw[if_pos h1,hfa,hl];rfl
      refine⟨e1.trans h3.1.symm,fun h=>?_⟩
      rw[g5 _ h,h3.2]
      unfold fateZ;rw[if_pos h1,hfa]
   ·have h1:Maps.has (.map bs:DataW Unit) (.string s)=false:=by
     cases h:Maps.has (.map bs:DataW Unit) (.string s) with
     | false=>rfl
     | true =>
      obtain⟨s',c,e1,hm,_⟩:=skey_has hsb h
      exact absurd e1.symm (hno _ hm)
    have h3:=(hk s).2 hno
    have gh:=Sp.gone_has (bs:=bs) hsx (.string s)
    have e1:fateH f (Sp.memsOf a) bs left (.string s)=Maps.has (.map (Sp.memsOf a):DataW Unit) (.string s):=by unfold fateH;rw[if_neg (by rw[h1];decide)]
    have e2:Maps.has (.map out:DataW Unit) (.string s)=Maps.has (.map (Sp.memsOf a):DataW Unit) (.string s):=by rw[h3.1,gh.1,h1];simp
    refine⟨e1.trans e2.symm,fun h=>?_⟩
    rw[g5 _ h,h3.2,gh.2 (by rw[← h3.1,e2,← e1];exact h)]
    unfold fateZ;rw[if_neg (by rw[h1];decide)]
  ·have no:∀es:List (Lit×Sp.V),Sp.Skey es→Maps.has (.map es:DataW Unit) k=false:=fun es h=>by
    cases hh:Maps.has (.map es:DataW Unit) k with
    | false=>rfl
    | true =>
     obtain⟨s,_,e1,_⟩:=skey_has h hh
     exact absurd ⟨s,e1⟩ hstr
   have e1:fateH f (Sp.memsOf a) bs left k=false:=by unfold fateH;rw[if_neg (by rw[no bs hsb];decide),no _ hsx]
   rw[e1,no out hso]
   exact⟨rfl,fun h=>by cases h⟩
 have heq:es'=out:=obj_eq c' (Sp.skey_canon hso) (fun k=>(hall k).1) (fun k hh=>(hall k).2 hh)
 subst heq
 refine⟨.map es',?_,⟨wr.heap.size,rfl,Or.inr (Nat.le_of_lt hM.sz),Or.inr (Or.inr (Or.inr (Or.inr ⟨es',w.heap.size,n',D',rfl,hvb,Or.inr (Nat.le_refl _),map_kept g2 (hb.block _ hM.sz),g3.mono fun _ _ hr=>hr.move fun k h1 h2=>⟨hb.block k h2,hF2 k h1⟩⟩)))⟩,hM.bel.trans (hb.mono hM.bel.size)⟩
 show (Sp.mdfs (Sp.mdf f) (Sp.memsOf a) bs (Sp.gone (Sp.memsOf a) bs)).map DataW.map=some (.map es')
 rw[e];rfl
theorem fate_skip {f N cnt cnt1:Nat} {w w3:World} {F2:Nat→Prop} {xs bs:List (Lit×Sp.V)} {left:Lit→Bool} {kl:Lit} (h:MapS f N w F2 (fateH f xs bs left) (fateZ f xs bs) cnt w3) (hc:cnt1<cnt) (hb:Maps.has (.map bs:DataW Unit) kl=true) (hf:fate f xs bs kl=some none) :
  MapS f N w F2 (fateH f xs bs (fun z=>left z && !z.sameKey kl)) (fateZ f xs bs) cnt1 w3:=by
 refine h.as (by omega) (fun k=>?_) (fun k _=>rfl)
 unfold fateH
 by_cases hkk:k=kl
 ·subst hkk
  rw[if_pos hb,if_pos hb,hf];simp
 ·simp[mgKey_ne hkk]
theorem fate_put {f N cnt cnt1:Nat} {w w3:World} {F2:Nat→Prop} {xs bs:List (Lit×Sp.V)} {left:Lit→Bool} {kl:Lit} {x:Value} {p:Addr} {z:Sp.V} (h:MapS f N w F2 (fateH f xs bs left) (fateZ f xs bs) cnt w3) (hc:cnt1<cnt) (hN:N<maxLen) (hF:∀k,F2 k→k≠w.heap.size) (hkey:keyOf Tryz.prog 9 x=some kl) (hkk:WideAt.IsKeyLit kl)
  (hb:Maps.has (.map bs:DataW Unit) kl=true) (hf:fate f xs bs kl=some (some z)) (hv:Rep f F2 w3 (.pointer (some p)) z) :
  ∃w4,(Instr.mapUpdate 109 (.map (some w.heap.size)) x (.pointer (some p))).run Tryz.prog w3 = .ok () w4∧MapS f N w F2 (fateH f xs bs (fun z=>left z && !z.sameKey kl)) (fateZ f xs bs) cnt1 w4∧w3.grownBy w4 (some w.heap.size):=by
 obtain⟨w4,hrun,hM,hg⟩:=h.put hc hN hF hkey hkk hv
 refine⟨w4,hrun,hM.as (Nat.le_refl _) (fun k=>?_) (fun k _=>?_),hg⟩
 ·unfold fateH
  by_cases hk:k=kl
  ·subst hk
   rw[if_pos hb,if_pos hb,hf];simp[WideAt.sameKey_self hkk]
  ·simp[mgKey_ne hk]
 ·by_cases hk:k=kl
  ·subst hk
   rw[if_pos (WideAt.sameKey_self hkk)]
   unfold fateZ
   rw[if_pos hb,hf]
  ·rw[mgKey_ne hk,if_neg (by decide)]
theorem fate_none {f:Nat} {xs bs:List (Lit×Sp.V)} {kl:Lit} (hg:Sp.get? xs kl=none):fate f xs bs kl=if Sp.isNull ((DataW.map bs).atKey kl .nil)=true then none else (Sp.mdf f (.map []) ((DataW.map bs).atKey kl .nil)).map some:=by
 unfold fate Sp.mst;rw[hg]
theorem fate_some {f:Nat} {xs bs:List (Lit×Sp.V)} {kl:Lit} {y:Sp.V} (hg:Sp.get? xs kl=some y):fate f xs bs kl=if veq y ((DataW.map bs).atKey kl .nil)=true then some none else if Sp.isNull ((DataW.map bs).atKey kl .nil)=true then none else (Sp.mdf f y ((DataW.map bs).atKey kl .nil)).map some:=by
 unfold fate Sp.mst;rw[hg]
theorem get_kl {xs:List (Lit×Sp.V)} {kl:Lit} {y:Sp.V} (hs:Sp.Skey xs) (hg:Sp.get? xs kl=some y):∃s,(Lit.string s,y)∈xs:=by
 unfold Sp.get? at hg
 split at hg
 ·rename_i h
  obtain⟨s,c,rfl,hm,e⟩:=skey_has hs h
  injection hg with hg
  exact⟨s,by rw[← hg,e];exact hm⟩
 ·cases hg
theorem mems_ok {g:Nat} {lv:Int} {v:Sp.V} (h:Sp.gd d x (g+1) lv v):Sp.Mok d x g lv (Sp.memsOf v)∧Sp.costs g (Sp.memsOf v)≤Sp.sz (g+1) v:=by
 cases v with
 | map es =>
  refine⟨(Sp.gd_map h).2,?_⟩
  have h2:Sp.sz (g+1) (.map es)=2+Sp.costs g es:=Sp.sz_obj g es
  rw[h2];exact Nat.le_add_left _ _
 | _=>exact⟨⟨List.Pairwise.nil,fun p hp=>by cases hp⟩,Nat.zero_le _⟩
theorem mdf_obj {f:Nat} {lv:Int} {F F':Nat→Prop} {w:World} {v:Value} {tb mt nt:Nat} {Dt:List (Lit×DataW Value)} {a:Sp.V} {bs:List (Lit×Sp.V)} (hS:MdfAt d x f) (ha:Src f F w v a) (hma:Sp.Mok d x f lv (Sp.memsOf a)) (hca:Sp.costs f (Sp.memsOf a)≤1000000)
  (ht:VB w tb 6 n0 [] (.slice none 0 0) (.map (some mt))) (hto:w.ownsMap Tryz.prog 9 RV mt nt (.map Dt)) (htp:Pt (Rep f F' w) Dt bs) (hmb:Sp.Mok d x f lv bs) (hcb:Sp.costs f bs≤1000000) (hF':∀k,F' k→k<w.heap.size) :
  Calls Tryz.prog 89 #[v,.pointer (some ⟨tb,0,none⟩)] w (MdfEnd (f+1) F' a (.map bs) w):=by
 have hml:=mlaw
 have hmz:=mzero
 have hmm:=@run_makeMap Tryz.prog
 obtain⟨ab,ax,an,ast,asl,mv,rfl,hav,hsrc⟩:=ha
 obtain⟨xs,hxs⟩:∃xs,xs=Sp.memsOf a:=⟨_,rfl⟩
 rw[← hxs] at hma hca hsrc
 have t0:=ht.c0
 have t6:=ht.c6
 have a6:=hav.c6
 have hal:=hav.lt
 have htl:=ht.lt
 have hmtl:=map_lt hto
 obtain⟨W1,hW1⟩:∃W1,W1=w.alloc (.map #[] 0):=⟨_,rfl⟩
 have hs1:W1.heap.size=w.heap.size+1:=by rw[hW1];simp
 have hb1:Below w.heap.size w W1:=by rw[hW1];exact (Below.refl _ _).alloc (Nat.le_refl _) _
 have d6:W1.cell? ⟨ab,6,none⟩=some mv:=(World.cell?_of_block (w:=w) (a:=⟨ab,6,none⟩) (hb1.block ab hal)).trans a6
 have u6:W1.cell? ⟨tb,6,none⟩=some (.map (some mt)):=(World.cell?_of_block (w:=w) (a:=⟨tb,6,none⟩) (hb1.block tb htl)).trans t6
 have hM0:MapS f (xs.length+bs.length) w (fun k=>(F' k∨w.heap.size≤k)∧k≠w.heap.size∧k≠w.heap.size+1) (fun _=>false) (fun _=>Sp.vWord 0) (xs.length+bs.length) W1:=by
  have hmade:=World.ownsMap_made w Tryz.prog 9 RV
  rw[← hW1] at hmade
  exact⟨hb1,by omega,0,[],[],by omega,hmade,trivial,fun _=>rfl,fun k hk=>by cases hk⟩
 have HM0:=hide hM0
 have HB1:=hide hb1
 have HS1:=hide hs1
 have HSRC:=hide hsrc
 have HTO:=hide hto
 have HTP:=hide htp
 have HMA:=hide hma
 have HMB:=hide hmb
 have HCA:=hide hca
 have HCB:=hide hcb
 have HFT:=hide hF'
 have HS:=hide hS
 have HXS:=hide hxs
 have HW1:=hide hW1
 have A6:=hide (show mv=mv∧w.cell? ⟨ab,6,none⟩=some mv from⟨rfl,a6⟩)
 rw[hW1] at d6 u6
 obtain⟨Q,hQ⟩:∃Q,Q=MdfEnd (f+1) F' a (.map bs) w:=⟨_,rfl⟩
 rw[← hQ]
 have HQ:=hide hQ
 clear hM0 hsrc hto htp hma hmb hca hcb hF' hS hxs hav ht hb1 hs1 hW1 a6 hQ
 go_enter Tryz.func89,Tryz.ntmps89
 go_upto_region 4 with (fail)
 rw[← unhide HW1]
 go_cut [27] (fun s27 wx=>s27 = .pointer (some ⟨w.heap.size+1,0,none⟩)∧Hid (Below W1.heap.size W1 wx∧wx.heap.size=w.heap.size+2∧((mv = .map none∧xs=[]∧wx=W1.alloc (.mapIter none 0 #[] 0)) ∨ ∃m n' D,mv = .map (some m)∧Pt (Rep f F w) D xs∧w.ownsMap Tryz.prog 9 RV m n' (.map D)∧wx.ranges Tryz.prog 9 RV m (w.heap.size+1) n' (.map D) (has (.map D:DataW Value)) (Maps.size (.map D:DataW Value)))))
 case first =>
  rw[← unhide HW1] at d6
  rcases unhide HSRC with⟨rfl,hx0⟩|⟨m,n',D,rfl,ho,hp⟩
  ·have hrg:=run_range_nilMap (P:=Tryz.prog) W1 109 9 80 Tryz.underlying109
   go_wp2_with (fail)
   go_meet
   exact⟨by rw[unhide HS1],(Below.refl _ _).alloc (Nat.le_refl _) _,by simp[unhide HS1],Or.inl ⟨trivial,hx0,rfl⟩⟩
  ·have HO1:=hide (map_kept ho ((unhide HB1).block m (map_lt ho)))
   have HO:=hide ho
   have HP:=hide hp
   clear ho hp
   go_wp2_with (first
    | (at_range;refine wpList_range_own _ rfl _ 109 rfl 9 80 hml Tryz.underlying109 RV m n' _ rfl (unhide HO1) ?_;intro w0 hrg0 hg0 hs0)
    | go_in)
   have e0:=unhide HS1
   have HRG:=hide hrg0
   rw[e0] at HRG hs0
   have HG:=hide (below_of_grown hg0)
   clear hrg0 hg0
   simp only[e0]
   go_wp2_with (fail)
   go_meet
   exact⟨rfl,unhide HG,hs0,Or.inr ⟨m,n',D,rfl,unhide HP,unhide HO,unhide HRG⟩⟩
 case rest =>
  obtain⟨rfl,HC⟩:=hcut
  go_upto_block 0 with fail
  go_cut [] (fun wx=>Hid (MapS f (xs.length+bs.length) w (fun k=>(F' k∨w.heap.size≤k)∧k≠w.heap.size∧k≠w.heap.size+1) (fun k=>Maps.has (.map xs:DataW Unit) k && !Maps.has (.map bs:DataW Unit) k) (fun _=>Sp.vWord 0) bs.length wx))
  case first =>
   obtain⟨hb2,hs2,hc⟩:=unhide HC
   rcases hc with⟨_,hx0,rfl⟩|⟨m,n',D,_,hp,ho,hrg⟩
   ·have hnx:∀ty,(Instr.next (.pointer (some ⟨W1.heap.size,0,none⟩)) false ty).run Tryz.prog (W1.alloc (.mapIter none 0 #[] 0))=_:=fun ty=>run_next_nilMap W1 ty 0 0 #[]
    rw[unhide HS1] at hnx
    have HM1:=hide ((unhide HM0).low hb2)
    clear hb2 hs2 HC
    go_wp2_with (fail)
    refine wp_loop_rounds 1 ?_
    rw[rounds_succ]
    go_wp2_with (fail)
    go_meet
    exact (unhide HM1).as (by omega) (fun k=>by rw[hx0];rfl) (fun k h=>by rfl)
   ·have HM1:=hide ((unhide HM0).low hb2)
    have HP:=hide hp
    clear hb2 hp HC
    go_wp2_with (fail)
    go_loopw [] (fun wr=>∃ (left:Lit→Bool) (cnt:Nat),wr.ranges Tryz.prog 9 RV m (w.heap.size+1) n' (.map D) left cnt∧Hid (MapS f (xs.length+bs.length) w (fun k=>(F' k∨w.heap.size≤k)∧k≠w.heap.size∧k≠w.heap.size+1) (fun k=>Maps.has (.map xs:DataW Unit) k && !left k && !Maps.has (.map bs:DataW Unit) k) (fun _=>Sp.vWord 0) (cnt+bs.length) wr))
     (fun wr=>wr.rangeLeft m (w.heap.size+1))
    case atStart =>
     refine⟨_,_,hrg,(unhide HM1).as ?_ (fun k=>?_) (fun k _=>rfl)⟩
     ·have:=(unhide HP).size
      rw[Maps.size_eq];omega
     ·rw[(unhide HP).has k]
      cases Maps.has (.map xs:DataW Unit) k<;>rfl
    case round =>
     obtain⟨left,cnt,hrg,G⟩:=hrel
     go_wp2_with (first
      | (at_next;refine wpList_next_ranges _ rfl _ rfl 9 hml RV id id (fun key _ _=>⟨key,rfl⟩) (fun v _ _=>⟨v,rfl⟩) m (w.heap.size+1) n' _ _ _ rfl hrg ?_ ?_)
      | go_in)
     ·intro _ hl0
      have HM2:=hide ((unhide G).as (H':=fun k=>Maps.has (.map xs:DataW Unit) k && !Maps.has (.map bs:DataW Unit) k) (Z':=fun _=>Sp.vWord 0) (cnt1:=bs.length) (by omega) (fun k=>by rw[hl0];simp) (fun k _=>rfl))
      clear hrg
      go_wp2_with (fail)
      go_meet
      exact unhide HM2
     ·intro x c kl yd yp w1 cnt1 hkey hlx hv hat hrg1 hlt hg1 hs1' hen
      have hv2:DataW.held c=yd:=congrArg Prod.fst (Option.some.inj hv)
      subst hv2
      have hasD:Maps.has (.map D:DataW Value) kl=true:=has_true_of_atKey hat
      obtain⟨c',_,hrep⟩:=(unhide HP).at kl hasD
      have hasX:Maps.has (.map xs:DataW Unit) kl=true:=by rw[← (unhide HP).has kl];exact hasD
      obtain⟨g0,rfl⟩:∃g0,f=g0+1:=by
       cases f with
       | zero=>exact hrep.elim
       | succ g0=>exact⟨g0,rfl⟩
      have G1:=hide ((unhide G).grow hg1 (by simp) (fun i hi=>by have:=Option.some.inj hi;omega) (F2:=fun k=>(F' k∨w.heap.size≤k)∧k≠w.heap.size∧k≠w.heap.size+1) (fun k hk _=>⟨fun e=>hk.2.2 (Option.some.inj e),hk⟩))
      have u6':w1.cell? ⟨tb,6,none⟩=some (.map (some mt)):=(World.cell?_of_block (w:=w) (a:=⟨tb,6,none⟩) ((unhide G1).bel.block tb htl)).trans t6
      have htw1:=map_kept (unhide HTO) ((unhide G1).bel.block mt hmtl)
      have HHX:=hide hasX
      have hhb:=(unhide HTP).has kl
      have hkk:=key_lit (Sp.skey_canon (unhide HMA).skey) hasX
      cases hh:Maps.has (.map Dt:DataW Value) kl with
      | true =>
       have hb2:Maps.has (.map bs:DataW Unit) kl=true:=by rw[← hhb,hh]
       have G2:=hide ((unhide G1).as (H':=fun k=>Maps.has (.map xs:DataW Unit) k && !(left k && !k.sameKey kl) && !Maps.has (.map bs:DataW Unit) k) (Z':=fun _=>Sp.vWord 0) (cnt1:=cnt1+bs.length) (by omega) (fun k=>by
        by_cases hkk:k=kl
        ·subst hkk
         rw[hb2];simp
        ·rw[mgKey_ne hkk];simp) (fun k _=>rfl))
       clear hat hrep hasX hasD hv hhb hb2 hkk
       go_wp2_with (first
        | (at_lookup;refine wpList_lookup_own_ok _ rfl _ _ 109 rfl 9 80 hml Tryz.underlying109 RV (hmz _) (.held (.pointer none)) [] rfl mt nt (.map Dt) rfl htw1 _ kl rfl hkey ?_;intro v2 ps2 hv2;rw[hh];go_frame)
        | go_in)
       go_roundw
       case rel=>exact⟨_,cnt1,hrg1,G2⟩
       case measure=>rw[hrg1.left_eq,hrg.left_eq];exact hlt
      | false =>
       have hb2:Maps.has (.map bs:DataW Unit) kl=false:=by rw[← hhb,hh]
       obtain⟨w2,hw2⟩:∃w2,w2=w1.alloc (.cells #[.int .i64 0,.bool false,.string ⟨#[]⟩,.int .i64 0,.string ⟨#[]⟩,.slice none 0 0,.map none] 111):=⟨_,rfl⟩
       have hbw:Below w1.heap.size w1 w2:=by rw[hw2];exact (Below.refl _ _).alloc (Nat.le_refl _) _
       have hvb:VB w2 w1.heap.size 0 n0 [] (.slice none 0 0) (.map none):=by rw[hw2];exact heap_alloc_new w1 _
       have hs1w:=(unhide G1).sz
       have hsz1:w.heap.size+1<w1.heap.size:=hrg1.lt
       obtain⟨w3,hrun,hM3,hg3⟩:=((unhide G1).low hbw).put (cnt1:=cnt1+bs.length) (by omega) (by have:=Sp.costs_ge (g0+1) xs;have:=Sp.costs_ge (g0+1) bs;have:=unhide HCA;have:=unhide HCB;unfold maxLen;omega) (fun k hk=>hk.2.1) hkey hkk (p:=⟨w1.heap.size,0,none⟩) (d:=Sp.vWord 0) ⟨w1.heap.size,rfl,⟨Or.inr (by omega),by omega,by omega⟩,Or.inl ⟨0,by omega,rfl,hvb⟩⟩
       have HM3:=hide (hM3.as (H':=fun k=>Maps.has (.map xs:DataW Unit) k && !(left k && !k.sameKey kl) && !Maps.has (.map bs:DataW Unit) k) (Z':=fun _=>Sp.vWord 0) (cnt1:=cnt1+bs.length) (Nat.le_refl _) (fun k=>by
        by_cases hkk:k=kl
        ·subst hkk
         rw[WideAt.sameKey_self (by assumption),unhide HHX,hb2];simp
        ·rw[mgKey_ne hkk];simp) (fun k _=>by split<;>rfl))
       have hrg3:=(hrg1.kept (grown_of_below hbw) (by simp) (by simp)).kept hg3 (fun e=>by have:=Option.some.inj e;have:=map_lt ho;omega) (fun e=>by have:=Option.some.inj e;omega)
       rw[hw2,hs1'] at hrun
       clear hat hrep hasX hasD hv hhb hb2 hkk hM3 hvb hbw hg3
       go_wp2_with (first
        | (at_lookup;refine wpList_lookup_own_ok _ rfl _ _ 109 rfl 9 80 hml Tryz.underlying109 RV (hmz _) (.held (.pointer none)) [] rfl mt nt (.map Dt) rfl htw1 _ kl rfl hkey ?_;intro v2 ps2 hv2;rw[hh];go_frame)
        | go_in)
       go_roundw
       case rel=>exact⟨_,cnt1,hrg3,HM3⟩
       case measure=>rw[hrg3.left_eq,hrg.left_eq];exact hlt
  case rest =>
   have hM:=unhide hcut
   have u6c:wc.cell? ⟨tb,6,none⟩=some (.map (some mt)):=(World.cell?_of_block (w:=w) (a:=⟨tb,6,none⟩) (hM.bel.block tb htl)).trans t6
   have HTC:=hide (map_kept (unhide HTO) (hM.bel.block mt hmtl))
   have HMC:=hide hM
   have hszc:=hM.sz
   clear hM hcut d6 u6
   go_wp2_with (first
    | (at_range;refine wpList_range_own _ rfl _ 109 rfl 9 80 hml Tryz.underlying109 RV mt nt _ rfl (unhide HTC) ?_;intro w0 hrg0 hg0 hs0)
    | go_in)
   have HM1:=hide (((unhide HMC).grow (it:=none) hg0 (by simp) (fun i hi=>by cases hi) (F2:=fun k=>(F' k∨w.heap.size≤k)∧k≠w.heap.size∧k≠wc.heap.size) (fun k hk hkl=>⟨by simp,hk.1,hk.2.1,by omega⟩)).as (H':=fateH f xs bs (has (.map Dt:DataW Value))) (Z':=fateZ f xs bs) (cnt1:=Maps.size (.map Dt:DataW Value)) (by have:=(unhide HTP).size;rw[Maps.size_eq];omega) (fun k=>by
     unfold fateH
     rw[(unhide HTP).has k]
     cases h:Maps.has (.map bs:DataW Unit) k<;>simp) (fun k hk=>by
     unfold fateH at hk
     rw[(unhide HTP).has k] at hk
     unfold fateZ
     cases h:Maps.has (.map bs:DataW Unit) k with
     | true=>rw[h] at hk;simp at hk
     | false=>rfl))
   clear hg0 hs0 u6c
   go_loopw [] (fun wr=>∃ (left:Lit→Bool) (cnt:Nat),wr.ranges Tryz.prog 9 RV mt wc.heap.size nt (.map Dt) left cnt∧Hid (MapS f (xs.length+bs.length) w (fun k=>(F' k∨w.heap.size≤k)∧k≠w.heap.size∧k≠wc.heap.size) (fateH f xs bs left) (fateZ f xs bs) cnt wr ∧ ∀k,Maps.has (.map bs:DataW Unit) k=true→left k=false→fate f xs bs k≠none))
    (fun wr=>wr.rangeLeft mt wc.heap.size)
   case atStart =>
    refine⟨_,_,hrg0,unhide HM1,fun k h1 h2=>?_⟩
    rw[(unhide HTP).has k,h1] at h2
    cases h2
   case round =>
    obtain⟨left,cnt,hrg,G0⟩:=hrel
    go_wp2_with (first
     | (at_next;refine wpList_next_ranges _ rfl _ rfl 9 hml RV id id (fun key _ _=>⟨key,rfl⟩) (fun v _ _=>⟨v,rfl⟩) mt wc.heap.size nt _ _ _ rfl hrg ?_ ?_)
     | go_in)
    ·intro _ hl0
     have hx:=unhide HXS
     have HD:=hide (fun (w2:World) (hb:Below wr.heap.size wr w2) (hv:VB w2 wr.heap.size 6 n0 [] (.slice none 0 0) (.map (some w.heap.size)))=>mdf_done (F':=F') (F2:=fun k=>(F' k∨w.heap.size≤k)∧k≠w.heap.size∧k≠wc.heap.size) (a:=a) (by rw[← hx];exact (unhide G0).1) hl0 (by rw[← hx];exact (unhide G0).2) (by rw[← hx];exact (unhide HMA).skey) (unhide HMB).skey hb hv (fun k hk=>hk.1))
     clear hrg0 hrg hx
     go_wp2_with (fail)
     show Q (.returned (.tuple #[.pointer (some ⟨wr.heap.size,0,none⟩),.bool true])) _
     rw[unhide HQ]
     obtain⟨z,e1,e2,e3⟩:=unhide HD _ ((Below.refl _ _).alloc (Nat.le_refl _) _) (heap_alloc_new wr _)
     refine⟨e3,?_⟩
     rw[e1]
     exact⟨_,rfl,e2⟩
    ·intro kx c kl yd yp w1 cnt1 hkey hlx hv hat hrg1 hlt hg1 hs1' hen
     have hv2:DataW.held c=yd:=congrArg Prod.fst (Option.some.inj hv)
     subst hv2
     have hasD:Maps.has (.map Dt:DataW Value) kl=true:=has_true_of_atKey hat
     obtain⟨c',e1,hrep⟩:=(unhide HTP).at kl hasD
     have e2:c'=c:=by
      have e3:=(e1 .nil).symm.trans (hat .nil)
      injection e3
     subst e2
     have hasB:Maps.has (.map bs:DataW Unit) kl=true:=by rw[← (unhide HTP).has kl];exact hasD
     obtain⟨g0,hg0f⟩:∃g0,f=g0+1:=by
      cases f with
      | zero=>exact hrep.elim
      | succ g0=>exact⟨g0,rfl⟩
     obtain⟨ks,yc,hks,hym,hye⟩:=skey_has (unhide HMB).skey hasB
     obtain⟨y,hy⟩:∃y,y=(DataW.map bs).atKey kl .nil:=⟨_,rfl⟩
     rw[← hy] at hrep hye
     subst hye
     obtain⟨_,hgy⟩:=(unhide HMB).2 _ hym
     have hsy:Sp.sz f y≤1000000:=Nat.le_trans (Sp.mem_costs hym) (unhide HCB)
     have hlv:=Sp.gd_lv hgy
     have hM1:=(unhide G0).1.grow hg1 (by simp;omega) (fun i hi=>by have:=Option.some.inj hi;omega) (F2:=fun k=>(F' k∨w.heap.size≤k)∧k≠w.heap.size∧k≠wc.heap.size) (fun k hk _=>⟨fun e=>hk.2.2 (Option.some.inj e),hk⟩)
     have hok:=(unhide G0).2
     have hwc1:wc.heap.size<w1.heap.size:=hrg1.lt
     have hbw1:=hM1.bel
     obtain⟨pb,pk,pn,pst,psl,pmv,hcp,hpv,hk0,_⟩:=rep_kind hrep
     subst hcp
     have ck:w1.cell? ⟨pb,0,none⟩=some (.int .i64 pk):=(hpv.kept (hbw1.block pb hpv.lt)).c0
     have a6':w1.cell? ⟨ab,6,none⟩=some mv:=(World.cell?_of_block (w:=w) (a:=⟨ab,6,none⟩) (hbw1.block ab hal)).trans (unhide A6).2
     obtain⟨yv,hyv,hlk⟩:=src_look (unhide HSRC) hkey
     have L1:=hide (hlk w1 hbw1)
     have hkk:=key_lit (Sp.skey_canon (unhide HMB).skey) hasB
     -- what a call leaves,laid down
     have HFIN:=hide (fun (A:Sp.V) (w2 w3:World) (p:Addr) (z:Sp.V) (h12:Below w1.heap.size w1 w2) (h23:Below w2.heap.size w2 w3) (hf:fate f xs bs kl=some (some z)) (hv:Rep f (fun k=>F' k∨w2.heap.size≤k) w3 (.pointer (some p)) z)=>(by
      obtain⟨w4,hrun,hM4,hg4⟩:=fate_put (cnt1:=cnt1) ((hM1.low h12).low h23) hlt (by have:=Sp.costs_ge f xs;have:=Sp.costs_ge f bs;have:=unhide HCA;have:=unhide HCB;unfold maxLen;omega) (fun k hk=>hk.2.1) hkey hkk hasB hf (hv.move fun k hk hkl=>⟨rfl,by
       rcases hk with hk|hk
       ·have:=unhide HFT k hk
        exact⟨Or.inl hk,by omega,by omega⟩
       ·have:=h12.size
        exact⟨Or.inr (by omega),by omega,by omega⟩⟩)
      have hrg4:=(hrg1.kept (grown_of_below (h12.trans (h23.mono h12.size))) (by simp) (by simp)).kept hg4 (fun e=>by have:=Option.some.inj e;omega) (fun e=>by have:=Option.some.inj e;omega)
      refine⟨w4,hrun,hrg4,hM4,fun k h1 h2=>?_⟩
      by_cases hkl:k=kl
      ·subst hkl
       rw[hf];simp
      ·refine hok k h1 ?_
       rw[mgKey_ne hkl] at h2
       simpa using h2:∃w4,(Instr.mapUpdate 109 (.map (some w.heap.size)) kx (.pointer (some p))).run Tryz.prog w3 = .ok () w4∧w4.ranges Tryz.prog 9 RV mt wc.heap.size nt (.map Dt) (fun z=>left z && !z.sameKey kl) cnt1∧MapS f (xs.length+bs.length) w (fun k=>(F' k∨w.heap.size≤k)∧k≠w.heap.size∧k≠wc.heap.size) (fateH f xs bs (fun z=>left z && !z.sameKey kl)) (fateZ f xs bs) cnt1 w4 ∧ ∀k,Maps.has (.map bs:DataW Unit) k=true→(left k && !k.sameKey kl)=false→fate f xs bs k≠none))
     have HOK:=hide hok
     have HM1':=hide hM1
     have HREP:=hide hrep
     have HBW1:=hide hbw1
     have HKEY:=hide hkey
     have HB:=hide hasB
     have HGY:=hide (show Sp.gd d x f (lv+1) y from hgy)
     have HSY:=hide hsy
     have HRG1:=hide hrg1
     have HLT:=hide hlt
     have HNEV:=hide (fun (h:fate f xs bs kl=none)=>show Sp.mdf (f+1) a (.map bs)=none from mdf_never (k:=kl) (unhide HMB).skey hasB (by rw[← unhide HXS];exact h))
     have hbk:=unhide HFT
     clear hok hM1 hrep hbw1 hasD hasB hat e1 hym hgy hsy hlv hlk hkk hv hpv hrg1 hlt hg1 hlx hks hbk
     cases hgx:Sp.get? xs kl with
     | none =>
      rw[hgx] at hyv
      obtain rfl:yv = .pointer none:=hyv
      have L2:=hide (show (Instr.lookup 109 mv kx true).run Tryz.prog w1 = .ok (.tuple #[.pointer none,.bool false]) w1 by have:=unhide L1;rw[hgx] at this;exact this)
      have hfa:=fate_none (f:=f) (bs:=bs) hgx
      rw[← hy] at hfa
      cases hn:Sp.isNull y with
      | true =>
       rw[hn] at hk0 hfa
       have ek:(pk == 0)=true:=by simpa using hk0
       have HEND:=hide (unhide HNEV (by rw[hfa];rfl))
       clear hk0 hfa hgx L1
       go_wp2_with (first|(at_lookup;refine wpList_look rfl _ _ 109 true rfl _ _ _ rfl rfl (unhide L2) ?_)|fail)
       show Q (.returned (.tuple #[.pointer none,.bool false])) _
       rw[unhide HQ]
       refine⟨unhide HBW1,?_⟩
       rw[unhide HEND]
      | false =>
       rw[hn] at hk0 hfa
       have ek:(pk == 0)=false:=by simpa using hk0
       have hb12:Below w1.heap.size w1 (w1.alloc (.cells #[.int .i64 6,.bool false,.string ⟨#[]⟩,.int .i64 0,.string ⟨#[]⟩,.slice none 0 0,.map none] 111)):=(Below.refl _ _).alloc (Nat.le_refl _) _
       have hvb:VB (w1.alloc (.cells #[.int .i64 6,.bool false,.string ⟨#[]⟩,.int .i64 0,.string ⟨#[]⟩,.slice none 0 0,.map none] 111)) wr.heap.size 6 n0 [] (.slice none 0 0) (.map none):=by rw[← hs1'];exact heap_alloc_new w1 _
       have HB12:=hide hb12
       have HC:=hide (unhide HS g0 (lv+1) F F' _ (.pointer (some ⟨wr.heap.size,0,none⟩)) _ (.map []) y hg0f ⟨wr.heap.size,6,_,_,_,_,rfl,hvb,Or.inl ⟨rfl,rfl⟩⟩ ⟨List.Pairwise.nil,fun p hp=>by cases hp⟩ (Nat.zero_le _) (((unhide HREP).bel (unhide HBW1)).bel hb12) (fun k hk=>by have:=unhide HFT k hk;have:=(unhide HBW1).size;have:=hb12.size;omega) (unhide HGY) (unhide HSY))
       clear hk0 hgx L1 hb12 hvb
       go_wp2_with (first|(at_lookup;refine wpList_look rfl _ _ 109 true rfl _ _ _ rfl rfl (unhide L2) ?_)|fail)
       refine (unhide HC).mono ?_
       rintro e w3 ⟨hb3,he⟩
       cases hm:Sp.mdf f (.map []) y with
       | none =>
        rw[hm] at he hfa
        obtain rfl:e = .returned (.tuple #[.pointer none,.bool false]):=he
        have HEND:=hide (unhide HNEV (by rw[hfa];rfl))
        have HB3:=hide ((unhide HBW1).trans (((unhide HB12).trans (hb3.mono (unhide HB12).size)).mono (unhide HBW1).size))
        clear hfa hb3 HC
        go_wp2_with (fail)
        show Q (.returned (.tuple #[.pointer none,.bool false])) _
        rw[unhide HQ]
        refine⟨unhide HB3,?_⟩
        rw[unhide HEND]
       | some z =>
        rw[hm] at he hfa
        obtain⟨p,rfl,hz⟩:=he
        obtain⟨w4,hrun,hrg4,hM4,hok4⟩:=unhide HFIN (.map []) _ w3 p z (unhide HB12) hb3 (by rw[hfa];rfl) hz
        have HM4:=hide (And.intro hM4 hok4)
        clear hfa hb3 HC hz hM4 hok4
        go_wp2_with (fail)
        go_roundw
        case rel=>exact⟨_,cnt1,hrg4,HM4⟩
        case measure=>rw[hrg4.left_eq,hrg.left_eq];exact unhide HLT
     | some xv =>
      rw[hgx] at hyv
      have hyv:Rep f F w yv xv:=hyv
      have L2:=hide (show (Instr.lookup 109 mv kx true).run Tryz.prog w1 = .ok (.tuple #[yv,.bool true]) w1 by have:=unhide L1;rw[hgx] at this;exact this)
      have hfa:=fate_some (f:=f) (bs:=bs) hgx
      rw[← hy] at hfa
      have HSAME:=hide (Same_any f F F' w1 yv _ xv y (hyv.bel (unhide HBW1)) ((unhide HREP).bel (unhide HBW1)))
      obtain⟨sx,hsx⟩:=get_kl (unhide HMA).skey hgx
      obtain⟨_,hgxv⟩:=(unhide HMA).2 _ hsx
      have hsxv:Sp.sz f xv≤1000000:=Nat.le_trans (Sp.mem_costs hsx) (unhide HCA)
      have HYV:=hide hyv
      have HGX:=hide (show Sp.gd d x f (lv+1) xv from hgxv)
      have HSX:=hide hsxv
      clear hyv hgx L1 hsx hgxv hsxv
      cases hveq:veq xv y with
      | true =>
       rw[hveq] at HSAME hfa
       clear hk0
       go_wp2_with (first|(at_lookup;refine wpList_look rfl _ _ 109 true rfl _ _ _ rfl rfl (unhide L2) ?_)|fail)
       refine (unhide HSAME).mono ?_
       rintro e w2 ⟨rfl,hb2⟩
       have hrg2:=(unhide HRG1).kept (grown_of_below hb2) (by simp) (by simp)
       have HM2:=hide (And.intro (fate_skip ((unhide HM1').low hb2) (unhide HLT) (unhide HB) (by rw[hfa];rfl)) (fun k (h1:Maps.has (.map bs:DataW Unit) k=true) (h2:(left k && !k.sameKey kl)=false)=>show fate f xs bs k≠none by
        by_cases hkl:k=kl
        ·subst hkl
         rw[hfa];simp
        ·refine unhide HOK k h1 ?_
         rw[mgKey_ne hkl] at h2
         simpa using h2))
       clear hfa hb2 HSAME
       go_wp2_with (fail)
       go_roundw
       case rel=>exact⟨_,cnt1,hrg2,HM2⟩
       case measure=>rw[hrg2.left_eq,hrg.left_eq];exact unhide HLT
      | false =>
       rw[hveq] at HSAME hfa
       cases hn:Sp.isNull y with
       | true =>
        rw[hn] at hk0 hfa
        have ek:(pk == 0)=true:=by simpa using hk0
        have HEND:=hide (unhide HNEV (by rw[hfa];rfl))
        clear hk0 hfa
        go_wp2_with (first|(at_lookup;refine wpList_look rfl _ _ 109 true rfl _ _ _ rfl rfl (unhide L2) ?_)|fail)
        refine (unhide HSAME).mono ?_
        rintro e w2 ⟨rfl,hb2⟩
        have ck2:w2.cell? ⟨pb,0,none⟩=some (.int .i64 pk):=(hb2.cell (p:=⟨pb,0,none⟩) (World.block_lt_of_cell? w1 _ ck)).trans ck
        have HB3:=hide ((unhide HBW1).trans (hb2.mono (unhide HBW1).size))
        clear hb2 HSAME
        go_wp2_with (fail)
        show Q (.returned (.tuple #[.pointer none,.bool false])) _
        rw[unhide HQ]
        refine⟨unhide HB3,?_⟩
        rw[unhide HEND]
       | false =>
        rw[hn] at hk0 hfa
        have ek:(pk == 0)=false:=by simpa using hk0
        have HC:=hide (fun (w2:World) (hb2:Below w1.heap.size w1 w2)=>unhide HS g0 (lv+1) F F' w2 yv _ xv y hg0f (src_of (by rw[← hg0f];exact ((unhide HYV).bel (unhide HBW1)).bel hb2)) (mems_ok (by rw[← hg0f];exact unhide HGX)).1 (Nat.le_trans (mems_ok (by rw[← hg0f];exact unhide HGX)).2 (by rw[← hg0f];exact unhide HSX)) (((unhide HREP).bel (unhide HBW1)).bel hb2) (fun k hk=>by have:=unhide HFT k hk;have:=(unhide HBW1).size;have:=hb2.size;omega) (unhide HGY) (unhide HSY))
        clear hk0
        go_wp2_with (first|(at_lookup;refine wpList_look rfl _ _ 109 true rfl _ _ _ rfl rfl (unhide L2) ?_)|fail)
        refine (unhide HSAME).mono ?_
        rintro e w2 ⟨rfl,hb2⟩
        have ck2:w2.cell? ⟨pb,0,none⟩=some (.int .i64 pk):=(hb2.cell (p:=⟨pb,0,none⟩) (World.block_lt_of_cell? w1 _ ck)).trans ck
        have HB2:=hide hb2
        clear hb2 HSAME
        go_wp2_with (fail)
        refine (unhide HC _ (unhide HB2)).mono ?_
        rintro e w3 ⟨hb3,he⟩
        cases hm:Sp.mdf f xv y with
        | none =>
         rw[hm] at he hfa
         obtain rfl:e = .returned (.tuple #[.pointer none,.bool false]):=he
         have HEND:=hide (unhide HNEV (by rw[hfa];rfl))
         have HB3:=hide ((unhide HBW1).trans (((unhide HB2).trans (hb3.mono (unhide HB2).size)).mono (unhide HBW1).size))
         clear hfa hb3 HC
         go_wp2_with (fail)
         show Q (.returned (.tuple #[.pointer none,.bool false])) _
         rw[unhide HQ]
         refine⟨unhide HB3,?_⟩
         rw[unhide HEND]
        | some z =>
         rw[hm] at he hfa
         obtain⟨p,rfl,hz⟩:=he
         obtain⟨w4,hrun,hrg4,hM4,hok4⟩:=unhide HFIN xv _ w3 p z (unhide HB2) hb3 (by rw[hfa];rfl) hz
         have HM4:=hide (And.intro hM4 hok4)
         clear hfa hb3 HC hz hM4 hok4
         go_wp2_with (fail)
         go_roundw
         case rel=>exact⟨_,cnt1,hrg4,HM4⟩
         case measure=>rw[hrg4.left_eq,hrg.left_eq];exact unhide HLT
end
end

section
open Go.RowKit Go.Maps
namespace Sp
theorem apart_len:∀ (n:Nat) (a b:List V) (k j:Nat),(apart n a b k j).1.length≤a.length∧(apart n a b k j).2.length≤b.length
 | 0,_,_,_,_=>⟨Nat.zero_le _,Nat.zero_le _⟩
 | _+1,[],[],_,_=>⟨Nat.zero_le _,Nat.zero_le _⟩
 | n+1,x::a,[],k,j=>by
  have h:=apart_len n a [] k j
  rw[apart]
  exact⟨Nat.succ_le_succ h.1,h.2⟩
 | n+1,[],y::b,k,j=>by
  have h:=apart_len n [] b k (j+1)
  rw[apart]
  exact⟨h.1,Nat.succ_le_succ h.2⟩
 | n+1,x::a,y::b,k,j=>by
  have h1:=apart_len n a (y::b) k j
  have h2:=apart_len n (x::a) b k (j+1)
  have h3:=apart_len n a b (k+1) (j+1)
  rw[apart]
  split
  ·exact⟨Nat.succ_le_succ h1.1,h1.2⟩
  ·split
   ·exact⟨h2.1,Nat.succ_le_succ h2.2⟩
   ·exact⟨Nat.le_succ_of_le h3.1,Nat.le_succ_of_le h3.2⟩
theorem diffA_len (s:List By) (a b:List V):(diffA s a b).length≤a.length+b.length:=by
 have h:=apart_len (a.length+b.length) a b 0 0
 unfold diffA
 rw[List.length_append,List.length_map,List.length_map]
 omega
theorem arr_len_sz (f:Nat) (es:List V) (y:List V):es.length≤sz (f+1) (.slice es y):=by
 show es.length≤2+(es.map fun e=>sz f e+1).sum
 have h:∀l:List V,l.length≤(l.map fun e=>sz f e+1).sum:=by
  intro l
  induction l with
  | nil=>exact Nat.zero_le _
  | cons a l ih=>rw[List.map_cons,List.sum_cons,List.length_cons];omega
 have:=h es
 omega
theorem get_mem {xs:List (Lit×V)} {k:By} {x:V} (h:Skey xs) (hg:get? xs (.string k)=some x):(Lit.string k,x)∈xs:=by
 rcases key_two xs k with⟨c,hc⟩|hno
 ·rw[get_yes h hc] at hg
  injection hg with hg
  exact hg▸hc
 ·rw[get_no hno] at hg;cases hg
theorem ukeys_nodup {xs bs:List (Lit×V)} (hx:Skey xs) (hb:Skey bs):(ukeys xs bs).Nodup:=(ukeys_rise hx hb).imp fun h e=>by subst e;exact List.lt_irrefl _ h
theorem diff_len {d x n:Int}:∀ {f:Nat} {lv:Int} {s:List By} {a b:V},gd d x f lv a→gd d x f lv b→(diff n f s a b).length≤sz f a+sz f b
 | 0,_,_,_,_,h,_=>h.elim
 | f+1,lv,s,a,b,ha,hb=>by
  have p1:=sz_pos ha
  by_cases hob:isObj a=true∧isObj b=true
  ·obtain⟨h1,h2⟩:=hob
   obtain⟨xs,rfl⟩:∃xs,a = .map xs:=by
    cases a with
    | map xs=>exact⟨xs,rfl⟩
    | _=>cases h1
   obtain⟨ys,rfl⟩:∃ys,b = .map ys:=by
    cases b with
    | map ys=>exact⟨ys,rfl⟩
    | _=>cases h2
   have m1:=(gd_map ha).2
   have m2:=(gd_map hb).2
   have hn:=ukeys_nodup m1.skey m2.skey
   have q1:=pick_sum f m1.skey hn
   have q2:=pick_sum f m2.skey hn
   have q3:=diffO_len (f:=f) (m:=diff n f) (s:=s) (xs:=xs) (bs:=ys) (l:=ukeys xs ys) (fun k hk=>by
    rcases (ukeys_mem m1.skey m2.skey).1 hk with⟨c,hc⟩|⟨c,hc⟩
    ·exact Or.inl (by rw[get_yes m1.skey hc];simp)
    ·exact Or.inr (by rw[get_yes m2.skey hc];simp)) fun k _ u v hu hv=>diff_len (m1.2 _ (get_mem m1.skey hu)).2 (m2.2 _ (get_mem m2.skey hv)).2
   have e1:sz (f+1) (.map xs)=2+costs f xs:=sz_obj f xs
   have e2:sz (f+1) (.map ys)=2+costs f ys:=sz_obj f ys
   show (diffO (diff n f) s xs ys (ukeys xs ys)).length≤_
   omega
  ·have hone:∀c:Bool,(if c=true then ([]:List Opn) else [(2,s,b)]).length≤1:=fun c=>by cases c<;>simp
   by_cases harr:∃xs y ys z,a = .slice xs y∧b = .slice ys z
   ·obtain⟨xs,y,ys,z,rfl,rfl⟩:=harr
    have e1:=arr_len_sz f xs y
    have e2:=arr_len_sz f ys z
    have e3:=diffA_len s xs ys
    show (if ((xs.length:Int)+1)*((ys.length:Int)+1)≤n then diffA s xs ys else if veq (.slice xs y) (.slice ys z)=true then [] else [(2,s,.slice ys z)]).length≤_
    split
    ·omega
    ·have:=hone (veq (.slice xs y) (.slice ys z))
     omega
   ·have e:diff n (f+1) s a b=if veq a b=true then [] else [(2,s,b)]:=by
     cases a<;>cases b<;>first|rfl|exact absurd ⟨rfl,rfl⟩ hob|exact absurd ⟨_,_,_,_,rfl,rfl⟩ harr
    rw[e]
    have:=hone (veq a b)
    omega
end Sp
end

section
open Go.RowKit Go.Maps
namespace Sp
theorem get_mput {es:List (Lit×V)} (h:Skey es) (k j:By) (c:V):get? (mput (.string k) c es) (.string j)=if j=k then some c else get? es (.string j):=by
 have hs:=mput_skey (c:=c) (k:=k) h
 by_cases e:j=k
 ·subst e
  rw[if_pos rfl,get_yes hs (mem_mput.2 (Or.inl rfl))]
 ·rw[if_neg e]
  rcases key_two es j with⟨c',hc⟩|hn
  ·rw[get_yes h hc,get_yes hs (mem_mput.2 (Or.inr ⟨hc,fun e'=>e (by injection e')⟩))]
  ·rw[get_no hn,get_no fun p hp=>?_]
   rcases mem_mput.1 hp with rfl|⟨hp,_⟩
   ·exact fun e'=>e (by injection e' with e';exact e'.symm)
   ·exact hn p hp
theorem get_mdel2 {es:List (Lit×V)} (h:Skey es) (k j:By):get? (mdel (.string k) es) (.string j)=if j=k then none else get? es (.string j):=by
 by_cases e:j=k
 ·subst e
  rw[if_pos rfl,get_no fun p hp=>(mem_mdel.1 hp).2]
 ·rw[if_neg e,get_mdel h e]
theorem skey_ext:∀ {xs ys:List (Lit×V)},Skey xs→Skey ys→(∀k:By,get? xs (.string k)=get? ys (.string k))→xs=ys:=by
 have mem_iff:∀ {xs:List (Lit×V)},Skey xs → ∀ (k:By) (c:V),(Lit.string k,c)∈xs↔get? xs (.string k)=some c:=fun h k c=>⟨get_yes h,get_mem h⟩
 have main:∀ {xs ys:List (Lit×V)},Skey xs→Skey ys→(∀p,p∈xs↔p∈ys)→xs=ys:=by
  intro xs
  induction xs with
  | nil =>
   intro ys _ _ h
   cases ys with
   | nil=>rfl
   | cons b ys=>have:=(h b).2 List.mem_cons_self;cases this
  | cons a l ih =>
   intro ys hx hy h
   cases ys with
   | nil=>have:=(h a).1 List.mem_cons_self;cases this
   | cons b m =>
    have h1:=List.pairwise_cons.1 hx.1
    have h2:=List.pairwise_cons.1 hy.1
    obtain⟨ka,ea⟩:=hx.2 a List.mem_cons_self
    obtain⟨kb,eb⟩:=hy.2 b List.mem_cons_self
    have hab:a=b:=by
     rcases List.mem_cons.1 ((h a).1 List.mem_cons_self) with e|e
     ·exact e
     ·rcases List.mem_cons.1 ((h b).2 List.mem_cons_self) with e2|e2
      ·exact e2.symm
      ·have q1:=h2.1 a e
       have q2:=h1.1 b e2
       rw[ea,eb] at q1 q2
       rw[before_asym q1] at q2;cases q2
    subst hab
    have:l=m:=ih ⟨h1.2,fun p hp=>hx.2 p (List.mem_cons_of_mem _ hp)⟩ ⟨h2.2,fun p hp=>hy.2 p (List.mem_cons_of_mem _ hp)⟩ fun p=>by
     constructor
     ·intro hp
      rcases List.mem_cons.1 ((h p).1 (List.mem_cons_of_mem _ hp)) with e|e
      ·subst e
       have:=h1.1 p hp
       rw[ea,before_irr] at this;cases this
      ·exact e
     ·intro hp
      rcases List.mem_cons.1 ((h p).2 (List.mem_cons_of_mem _ hp)) with e|e
      ·subst e
       have:=h2.1 p hp
       rw[ea,before_irr] at this;cases this
      ·exact e
    rw[this]
 intro xs ys hx hy h
 refine main hx hy fun p=>?_
 constructor
 ·intro hp
  obtain⟨k,e⟩:=hx.2 p hp
  have hp':(Lit.string k,p.2)∈xs:=by rw[← e];exact hp
  have:=(mem_iff hy k p.2).2 (by rw[← h];exact (mem_iff hx k p.2).1 hp')
  rw[← e] at this;exact this
 ·intro hp
  obtain⟨k,e⟩:=hy.2 p hp
  have hp':(Lit.string k,p.2)∈ys:=by rw[← e];exact hp
  have:=(mem_iff hx k p.2).2 (by rw[h];exact (mem_iff hy k p.2).1 hp')
  rw[← e] at this;exact this
def mget (m:Option V→List By→V→V×List Opn) (s:List By) (es l:List (Lit×V)) (k:By):Option V:=match get? l (.string k) with
 | none=>get? es (.string k)
 | some q=>if isNull q=true then none else some (m (get? es (.string k)) (s++[k]) q).1
theorem mstep_skey {m:Option V→List By→V→V×List Opn} {s:List By} {k:By} {q:V} {es:List (Lit×V)} (h:Skey es):Skey (mstep m s (.string k,q) es).1:=by
 unfold mstep
 split
 ·simp only
  cases get? es (.string k) with
  | none=>exact h
  | some o=>exact mdel_skey h
 ·exact mput_skey h
theorem mstep_get {m:Option V→List By→V→V×List Opn} {s:List By} {k:By} {q:V} {es:List (Lit×V)} (h:Skey es) (j:By) :
  get? (mstep m s (.string k,q) es).1 (.string j)=if j=k then (if isNull q=true then none else some (m (get? es (.string k)) (s++[k]) q).1) else get? es (.string j):=by
 unfold mstep
 simp only
 by_cases hn:isNull q=true
 ·rw[if_pos hn]
  simp only[hn,if_true]
  cases hg:get? es (.string k) with
  | none =>
   simp only
   split
   ·rename_i e;subst e;exact hg
   ·rfl
  | some o=>exact get_mdel2 h k j
 ·rw[if_neg hn]
  simp only[if_neg hn]
  exact get_mput h k j _
theorem mall_get {m:Option V→List By→V→V×List Opn} {s:List By}:∀ {l es:List (Lit×V)},Skey l→Skey es→Skey (mall m s l es).1 ∧ ∀j:By,get? (mall m s l es).1 (.string j)=mget m s es l j
 | [],es,_,he=>⟨he,fun j=>rfl⟩
 | (kl,q)::r,es,hl,he=>by
  obtain⟨k,ek⟩:=hl.2 _ List.mem_cons_self
  simp only at ek
  subst ek
  have hp:=List.pairwise_cons.1 hl.1
  have hr:Skey r:=⟨hp.2,fun p hp=>hl.2 p (List.mem_cons_of_mem _ hp)⟩
  have hne:∀p∈r,p.1≠Lit.string k:=fun p h e=>by
   have:=hp.1 p h
   rw[e,before_irr] at this
   cases this
  obtain⟨h1,h2⟩:=mall_get (m:=m) (s:=s) hr (mstep_skey (m:=m) (s:=s) (k:=k) (q:=q) he)
  refine⟨h1,fun j=>?_⟩
  unfold mall
  rw[h2 j]
  unfold mget
  by_cases e:j=k
  ·subst e
   rw[get_no hne,get_yes hl List.mem_cons_self]
   simp only
   rw[mstep_get he,if_pos rfl]
  ·have e2:get? ((Lit.string k,q)::r) (.string j)=get? r (.string j):=by
    rcases key_two r j with⟨c,hc⟩|hn
    ·rw[get_yes hr hc,get_yes hl (List.mem_cons_of_mem _ hc)]
    ·rw[get_no hn,get_no fun p hp=>?_]
     rcases List.mem_cons.1 hp with rfl|hp
     ·exact fun e'=>e (by injection e' with e';exact e'.symm)
     ·exact hn p hp
   rw[e2,mstep_get he,if_neg e]
theorem pureM_get {f:Nat} {ps:List (Lit×V)} (h:Skey ps):Skey (pureM f ps) ∧ ∀k:By,get? (pureM f ps) (.string k)=match get? ps (.string k) with
  | none=>none
  | some q=>if isNull q=true then none else some (pure_ f q):=by
 have hs:Skey (pureM f ps):=by
  unfold pureM
  refine⟨List.pairwise_map.2 (h.1.filter _),fun p hp=>?_⟩
  obtain⟨q,hq,rfl⟩:=List.mem_map.1 hp
  exact h.2 q (List.mem_filter.1 hq).1
 refine⟨hs,fun k=>?_⟩
 have hno:∀q,get? ps (.string k)=some q→isNull q=true→get? (pureM f ps) (.string k)=none:=fun q hg hn=>get_no fun p hp e=>by
  unfold pureM at hp
  obtain⟨r,hr,rfl⟩:=List.mem_map.1 hp
  obtain⟨h1,h2⟩:=List.mem_filter.1 hr
  have h3:(Lit.string k,r.2)∈ps:=by rw[← e];exact h1
  rw[get_yes h h3] at hg
  injection hg with hg
  rw[hg,hn] at h2
  cases h2
 cases hg:get? ps (.string k) with
 | none =>
  refine get_no fun p hp e=>?_
  unfold pureM at hp
  obtain⟨r,hr,rfl⟩:=List.mem_map.1 hp
  have h3:(Lit.string k,r.2)∈ps:=by rw[← e];exact (List.mem_filter.1 hr).1
  rw[get_yes h h3] at hg
  cases hg
 | some q =>
  simp only
  split
  ·rename_i hn;exact hno q hg hn
  ·rename_i hn
   refine get_yes hs ?_
   unfold pureM
   exact List.mem_map.2 ⟨(.string k,q),List.mem_filter.2 ⟨get_mem h hg,by simpa using hn⟩,rfl⟩
theorem mrg_leaf {f:Nat} {o:Option V} {s:List By} {p:V} (h:(∀v,o=some v→isObj v=false)∨isObj p=false):(mrg (f+1) o s p).1=pure_ (f+1) p:=by
 cases o with
 | none=>rfl
 | some v =>
  rcases h with h|h
  ·have:=h v rfl
   cases v<;>cases p<;>first|rfl|cases this
  ·cases v<;>cases p<;>first|rfl|cases h
theorem mrg_map {f:Nat} {es ps:List (Lit×V)} {s:List By}:(mrg (f+1) (some (.map es)) s (.map ps)).1 = .map (mall (mrg f) s ps es).1:=by
 have he:mrg (f+1) (some (.map es)) s (.map ps)=mrgs (mrg f) s ps es:=rfl
 rw[he,mrgs_eq]
end Sp
end

section
open Go.RowKit Go.Maps
namespace Sp
theorem enc_cost {c:Nat} (hc:Sc c):(escS (Lib.encodeRune (c:Int))).length≤6∧(128≤c→(escS (Lib.encodeRune (c:Int))).length≤4):=by
 by_cases h:c<128
 ·rw[enc_one c h]
  refine⟨?_,fun h2=>by omega⟩
  have:=escB_len (UInt8.ofNat c)
  simp[escS];omega
 ·have h4:=enc_len (c:Int)
  rw[escS_high _ (enc_high c (by omega) hc []).1]
  exact⟨by omega,fun _=>h4⟩
theorem decN_width (n a b c d:Nat):(Lib.decodeN n a b c d).1<128∨((Lib.decodeN n a b c d).1=65533∧(Lib.decodeN n a b c d).2<2)∨2≤(Lib.decodeN n a b c d).2:=by
 unfold Lib.decodeN
 repeat' split
 all_goals first|exact Or.inl (by assumption)|exact Or.inr (Or.inl ⟨rfl,by decide⟩)|exact Or.inr (Or.inr (by simp))
theorem dec_width (l:By) (h:l≠[]) (h2:128≤(dec l).1) (h3:¬ ((dec l).1=65533∧(dec l).2<2)):2≤(dec l).2:=by
 rw[dec_list l h] at h2 h3 ⊢
 rcases decN_width l.length (l.getD 0 0).toNat (l.getD 1 0).toNat (l.getD 2 0).toNat (l.getD 3 0).toNat with h4|h4|h4
 ·omega
 ·exact absurd h4 h3
 ·exact h4
theorem chr_cost {l r:By} {c:Nat} (h:chr l=some (c,r)):(escS (Lib.encodeRune (c:Int))).length+3*r.length≤3*l.length:=by
 have hsc:=chr_sc h
 have hen:=enc_cost hsc
 unfold chr at h
 split at h
 ·rename_i k
  have k1:=tk_cons k
  unfold esc at h
  split at h
  ·rename_i k2
   have k3:=tk_cons k2
   have:=scal_len _ _ _ h
   omega
  ·have:=escIn_len _ escT (by decide) _ _ h
   omega
 ·split at h
  ·cases h
  ·rename_i hn
   injection h with h
   injection h with h1 h2
   subst h1 h2
   have hne:l≠[]:=by
    rintro rfl
    exact hn (Or.inr ⟨rfl,by decide⟩)
   have hle:=dec_le l
   have hpos:=dec_pos l hne
   rw[List.length_drop]
   by_cases h8:(dec l).1<128
   ·have e:escS (Lib.encodeRune ((dec l).1:Int))=escB (UInt8.ofNat (dec l).1):=by rw[enc_one _ h8];simp[escS]
    have h5:(escB (UInt8.ofNat (dec l).1)).length≤2:=by
     have e2:(UInt8.ofNat (dec l).1).toNat=(dec l).1:=by
      rw[UInt8.toNat_ofNat'];omega
     unfold escB
     rw[e2]
     split
     ·simp
     ·rw[if_neg (fun h=>hn (Or.inl h))];simp
    rw[e]
    omega
   ·have:=dec_width l hne (by omega) (fun h=>hn (Or.inr h))
    have:=hen.2 (by omega)
    omega
theorem chrs_cost:∀ (f:Nat) (l s r:By),chrs f l=some (s,r)→(escS s).length+3*r.length+3≤3*l.length
 | 0,_,_,_,h=>by cases h
 | f+1,l,s,r,h=>by
  unfold chrs at h
  split at h
  ·rename_i k
   have:=tk_cons k
   injection h with h;injection h with h1 h2
   subst h1 h2
   simp[escS];omega
  ·split at h
   ·cases h
   ·rename_i c r1 hc
    have h1:=chr_cost hc
    split at h
    ·cases h
    ·rename_i s1 r2 hx
     have h3:=chrs_cost f _ _ _ hx
     injection h with h;injection h with h4 h5
     subst h4 h5
     rw[escS_app,List.length_append]
     omega
theorem quo_cost {l s r:By} (h:quo l=some (s,r)):(quoT s).length+3*r.length≤3*l.length:=by
 unfold quo at h
 split at h
 ·rename_i k
  have k1:=tk_cons k
  have:=chrs_cost _ _ _ _ h
  unfold quoT
  simp only[List.length_cons,List.length_append,List.length_nil]
  omega
 ·cases h
def nmc (n:Nm):Nat:=if n.2.2=0 then (numT n).length else n.2.1.length+6
theorem frac_two {l f r:By} (h:frac l=some (f,r)):f.length+r.length≤l.length∧(f≠[]→f.length+1+r.length≤l.length):=by
 refine⟨frac_len h,fun hf=>?_⟩
 unfold frac at h
 have b:=dg_len l.tail
 split at h
 ·rename_i k
  have:=tk_cons k
  split at h
  ·cases h
  ·injection h with h;injection h with h h';subst h h';omega
 ·injection h with h;injection h with h h';exact absurd h.symm hf
theorem expo_two {l r:By} {e:Int} (h:expo l=some (e,r)):r.length≤l.length∧(e≠0→r.length+1≤l.length):=by
 unfold expo at h
 have a:=dg_len l.tail
 have b:=dg_len l.tail.tail
 have c:=List.length_tail (l:=l)
 have d:=List.length_tail (l:=l.tail)
 split at h
 ·rename_i k
  have hl:l.tail.length+1=l.length:=by
   simp only[Bool.or_eq_true] at k
   rcases k with k|k<;>exact tk_cons k
  repeat' split at h
  all_goals first|(injection h with h;injection h with h1 h2;subst h2;exact⟨by omega,fun _=>by omega⟩)|cases h
 ·injection h with h;injection h with h1 h2
  subst h2
  exact⟨Nat.le_refl _,fun hn=>absurd h1.symm hn⟩
theorem numB_cost {b:Bool} {l r:By} {n:Nm} (h:numB b l=some (n,r)):nmc n+1+4*r.length≤4*l.length+(if b then 4 else 0):=by
 unfold numB at h
 have a:=dg_len l
 split at h
 ·cases h
 ·rename_i hd
  have hdl:0<(dg l).length:=List.length_pos_iff.2 fun e=>hd (by simp[e])
  split at h
  ·cases h
  ·rename_i f r1 h1
   obtain⟨f1,f2⟩:=frac_two h1
   split at h
   ·cases h
   ·rename_i e r2 h2
    obtain⟨e1,e2⟩:=expo_two h2
    injection h with h;injection h with h3 h4
    subst h4 h3
    have t1:=trimL_len (dg l++f) 48
    have t2:=trimR_len (Lib.trimLeftB (dg l++f) 48) 48
    rw[List.length_append] at t1
    unfold mkNm
    simp only
    split
    ·have:nmc (false,[],0)=1:=by decide
     rw[this]
     split<;>omega
    ·rename_i hw
     have hwl:0<(Lib.trimRightB (Lib.trimLeftB (dg l++f) 48) 48).length:=List.length_pos_iff.2 hw
     unfold nmc
     split
     ·rename_i h0
      simp only at h0
      have hT:(numT (b,Lib.trimRightB (Lib.trimLeftB (dg l++f) 48) 48,e - ↑f.length + ↑(Lib.trimLeftB (dg l++f) 48).length - ↑(Lib.trimRightB (Lib.trimLeftB (dg l++f) 48) 48).length)).length≤(if b then 1 else 0)+(Lib.trimRightB (Lib.trimLeftB (dg l++f) 48) 48).length:=by
       unfold numT
       simp only
       rw[if_neg hw,if_pos h0]
       cases b<;>simp<;>omega
      split at hT<;>simp_all<;>omega
     ·rename_i h0
      simp only at h0 ⊢
      have hx:(Lib.trimRightB (Lib.trimLeftB (dg l++f) 48) 48).length+1+r2.length≤l.length:=by
       by_cases hf:f=[]
       ·subst hf
        by_cases he:e=0
        ·subst he
         simp only[List.length_nil] at *
         omega
        ·have:=e2 he
         simp only[List.length_nil] at *
         omega
       ·have:=f2 hf
        omega
      split<;>omega
theorem num_cost {l r:By} {n:Nm} (h:num l=some (n,r)):nmc n+1+4*r.length≤4*l.length:=by
 unfold num at h
 split at h
 ·rename_i k
  have k1:=tk_cons k
  have:=numB_cost h
  simp only[if_true] at this
  omega
 ·have:=numB_cost h
  simp only[Bool.false_eq_true,if_false] at this
  omega
def cm:Nat→V→Nat
 | 0,_=>0
 | f+1,d=>match d with
  | .slice es _=>2+(es.map fun e=>cm f e+1).sum
  | .map es=>2+(es.map fun p=>(quoT (strOf p.1)).length+2+cm f p.2).sum
  | .agg [.lit (.bool ng),.lit (.string ds),.lit (.int _ ex)]=>nmc (ng,ds,ex)
  | d=>(can (f+1) d).length
theorem itoa_4 (n:Int) (h0:-400≤n) (h1:n≤400):(Lib.itoa n).length≤4:=by
 have h:∀k:Fin 801,(Lib.itoa ((k.val:Int)-400)).length≤4:=by decide +kernel
 have:=h ⟨(n+400).toNat,by omega⟩
 have e:(((n+400).toNat:Nat):Int)-400=n:=by omega
 rw[e] at this
 exact this
theorem sz_cm {d x:Int} (hx:x≤400):∀ {f:Nat} {lv:Int} {v:V},gd d x f lv v→sz f v≤cm f v
 | 0,_,_,h=>h.elim
 | f+1,lv,v,⟨h0,h⟩=>by
  rcases h with⟨k,hk,rfl⟩|⟨s,hs,rfl⟩|⟨n,h1,h2,h3,rfl⟩|⟨es,h,rfl⟩|⟨es,h1,h2,rfl⟩
  ·exact Nat.le_refl _
  ·exact Nat.le_refl _
  ·show (numT n).length≤nmc n
   unfold nmc
   split
   ·exact Nat.le_refl _
   ·rename_i hne
    have h4:=itoa_4 n.2.2 (by omega) (by omega)
    unfold numT
    rw[if_neg hne]
    split
    ·simp
    ·simp only[List.length_append,List.length_cons]
     split<;>simp<;>omega
  ·show 2+(es.map fun e=>sz f e+1).sum≤2+(es.map fun e=>cm f e+1).sum
   have:∀l:List V,(∀e∈l,gd d x f (lv+1) e)→(l.map fun e=>sz f e+1).sum≤(l.map fun e=>cm f e+1).sum:=fun l hl=>by
    induction l with
    | nil=>exact Nat.le_refl _
    | cons a l ih =>
     have h5:=sz_cm hx (hl a List.mem_cons_self)
     have h6:=ih fun e he=>hl e (List.mem_cons_of_mem _ he)
     simp only[List.map_cons,List.sum_cons];omega
   have:=this es h
   omega
  ·show 2+(es.map fun p=>(quoT (strOf p.1)).length+2+sz f p.2).sum≤2+(es.map fun p=>(quoT (strOf p.1)).length+2+cm f p.2).sum
   have:∀l:List (Lit×V),(∀p∈l,gd d x f (lv+1) p.2)→(l.map fun p=>(quoT (strOf p.1)).length+2+sz f p.2).sum≤(l.map fun p=>(quoT (strOf p.1)).length+2+cm f p.2).sum:=fun l hl=>by
    induction l with
    | nil=>exact Nat.le_refl _
    | cons a l ih =>
     have h5:=sz_cm hx (hl a List.mem_cons_self)
     have h6:=ih fun e he=>hl e (List.mem_cons_of_mem _ he)
     simp only[List.map_cons,List.sum_cons];omega
   have:=this es fun p hp=>(h2 p hp).2
   omega
end Sp
end

section
open Go.RowKit Go.Maps
def cents (g:Nat) (es:List (Lit×Sp.V)):Nat:=(es.map fun p=>(Sp.quoT (strOf p.1)).length+2+Sp.cm g p.2).sum
theorem cents_insert (g:Nat) (x:Lit×Sp.V) (l:List (Lit×Sp.V)):cents g (DataW.insert x l)=(Sp.quoT (strOf x.1)).length+2+Sp.cm g x.2+cents g l:=by
 induction l with
 | nil=>rfl
 | cons y r ih =>
  unfold DataW.insert
  split
  ·rfl
  ·simp only[cents,List.map_cons,List.sum_cons] at ih ⊢; omega
theorem cents_filter (g:Nat) (c:Lit×Sp.V→Bool) (l:List (Lit×Sp.V)):cents g (l.filter c)≤cents g l:=by
 induction l with
 | nil=>simp
 | cons y r ih =>
  rw[List.filter_cons]
  split
  ·simp only[cents,List.map_cons,List.sum_cons] at ih ⊢; omega
  ·simp only[cents,List.map_cons,List.sum_cons] at ih ⊢; omega
theorem wordIn_cost {l r:Sp.By} {k:Nat} (h:Sp.wordIn l 0 Sp.words=some (k,r)):r.length+4≤l.length:=by
 have hp:∀ (x:Sp.By),Lib.hasPrefix l x=true→x.length≤l.length:=fun x hx=>by
  unfold Lib.hasPrefix at hx
  exact (List.isPrefixOf_iff_prefix.1 hx).length_le
 unfold Sp.words at h
 simp only[Sp.wordIn] at h
 repeat' split at h
 all_goals first
  | (rename_i hq;cases h;have:=hp _ hq;simp only[List.length_drop,List.length_cons,List.length_nil] at *; omega)
  | cases h
theorem val_cost (f:Nat):∀ (lv:Int) (l:Sp.By) (fl:Sp.Fl) (v:Sp.V) (r:Sp.By) (fl':Sp.Fl),Sp.val f lv l fl=some (v,r,fl') → ∀g,Sp.cm g v+1+4*r.length≤4*l.length:=by
 induction f with
 | zero=>intro lv l fl v r fl' h;cases h
 | succ f ih =>
  intro lv l fl v r fl' h g
  have hlen:=Sp.val_len _ _ _ _ _ _ _ h
  cases g with
  | zero=>simp[Sp.cm];omega
  | succ g =>
   unfold Sp.val at h
   split at h
   ·split at h
    ·cases h
    ·rename_i h1
     have hI:=lstAll_inv (σ:=Sp.V×Sp.Fl) (fun m s=>∃es,s.1 = .map es∧cents g es+4*m.length≤4*l.tail.length) (fun a b s ⟨es,e1,e4⟩ hab=>⟨es,e1,by omega⟩) (by
      rintro a s a' s' ⟨es,e1,e4⟩ hm
      unfold Sp.memb at hm
      split at hm
      ·cases hm
      ·rename_i k l1 hq
       have q1:=Sp.quo_cost hq
       have b:=Sp.skB_len l1
       split at hm
       ·rename_i htk
        have ht:=tk_cons htk
        have c:=Sp.skB_len (Sp.skB l1).tail
        split at hm
        ·cases hm
        ·rename_i d r2 fl2 hv
         have hc:=ih _ _ _ _ _ _ hv g
         injection hm with hm;injection hm with h1 h2;subst h1;subst h2
         refine⟨DataW.insert (.string k,d) (es.filter fun p=>!p.1.sameKey (.string k)),by rw[e1];rfl,?_⟩
         rw[cents_insert]
         have h4:=cents_filter g (fun p=>!p.1.sameKey (.string k)) es
         show (Sp.quoT k).length+2+Sp.cm g d+cents g (es.filter fun p=>!p.1.sameKey (.string k))+4*r2.length≤_
         omega
       ·cases hm) ⟨[],rfl,by simp[cents]⟩ h1
     obtain⟨⟨es,e1,e4⟩,hpos⟩:=hI
     injection h with h;injection h with h2 h3;injection h3 with h3 h4;subst h2;subst h3
     simp only at e1
     subst e1
     have:=List.length_tail (l:=l)
     show 2+cents g es+1+4*_≤_
     omega
   ·split at h
    ·split at h
     ·cases h
     ·rename_i h1
      have hI:=lstAll_inv (σ:=List Sp.V×Sp.Fl) (fun m s=>(s.1.map fun v=>Sp.cm g v+1).sum+4*m.length≤4*l.tail.length) (fun a b s e1 hab=>by omega) (by
       rintro a s a' s' ho hm
       unfold Sp.elem at hm
       split at hm
       ·cases hm
       ·rename_i d r2 fl2 hv
        have hc:=ih _ _ _ _ _ _ hv g
        injection hm with hm;injection hm with h1 h2;subst h1;subst h2
        simp only[List.map_append,List.map_cons,List.map_nil,List.sum_append,List.sum_cons,List.sum_nil]
        omega) (by simp) h1
      obtain⟨e4,hpos⟩:=hI
      injection h with h;injection h with h2 h3;injection h3 with h3 h4;subst h2;subst h3
      rename_i es2 _
      have:=List.length_tail (l:=l)
      simp only at e4
      show 2+(es2.map fun e=>Sp.cm g e+1).sum+1+4*_≤_
      omega
    ·split at h
     ·split at h
      ·cases h
      ·rename_i s r1 h1
       have q1:=Sp.quo_cost h1
       have q0:=Sp.quo_len h1
       injection h with h;injection h with h2 h3;injection h3 with h3 h4;subst h2;subst h3
       show (Sp.quoT s).length+1+4*_≤_
       omega
     ·split at h
      ·split at h
       ·cases h
       ·rename_i n r1 h1
        have q1:=Sp.num_cost h1
        injection h with h;injection h with h2 h3;injection h3 with h3 h4;subst h2;subst h3
        exact q1
      ·split at h
       ·cases h
       ·rename_i k r1 h1
        have q1:=wordIn_cost h1
        injection h with h;injection h with h2 h3;injection h3 with h3 h4;subst h2;subst h3
        have q2:=words_len k
        show (Sp.words.getD k []).length+1+4*_≤_
        omega
theorem read_cost {t:Sp.By} {d x:Int} {v:Sp.V} (h:Sp.readTo t d x=(0,some v)) (hx:x≤400):Sp.sz top v≤8000:=by
 have hg:=Sp.sz_cm hx (read_gd h)
 refine Nat.le_trans hg ?_
 unfold Sp.readTo at h
 split at h
 ·injection h with h1 h2;cases h2
 ·rename_i hl
  have hs:=Sp.skB_len t
  split at h
  ·injection h with h1 h2;cases h2
  ·rename_i v2 r fl hv
   have hb:=val_cost _ _ _ _ _ _ _ hv top
   repeat' split at h
   all_goals injection h with h1 h2
   all_goals first|(injection h2 with h2;subst h2;omega)|cases h2
end
end Go.Proofs.YtdpomdelmdofmaaGreatDoor
