/-
  Plain facts on the functions of Sp: two spellings of one value.
-/
import Derived.Test.YtdpomdelmdofmaaGreatDoorPart31
import Derived.Test.YtdpomdelmdofmaaGreatDoorPart27
import Derived.Test.YtdpomdelmdofmaaGreatDoorPart29
import Derived.Laws.BytesArg
import Derived.Laws.IdiomStrings
import Derived.Lib.MapLaws
import Derived.Test.YtdpomdelmdofmaaGreatDoorPart13
import Derived.BigRegion
import Derived.Deep.DeepCutAuto
import Derived.Lib.SplitLaws
import Derived.Test.YtdpomdelmdofmaaGreatDoorPart26
import Derived.Deep.CutBlock
namespace Go.Proofs.YtdpomdelmdofmaaGreatDoor
section
open Go.Maps
def Sp.Two (k:Nat) (a b:Sp.By):Prop:=∃v,Sp.RdV k a v∧Sp.RdV k b v
theorem Sp.Two.mono {k k':Nat} {a b:Sp.By} (h:Sp.Two k a b) (hk:k≤k'):Sp.Two k' a b:=let ⟨v,h1,h2⟩:=h; ⟨v,h1.mono hk,h2.mono hk⟩
structure Sp.El where
 x:Sp.By
 p:Sp.By
 y:Sp.By
 q:Sp.By
 v:Sp.V
def Sp.El.ok (k:Nat) (e:Sp.El):Prop:=Sp.RdV k e.x e.v∧Sp.RdV k e.y e.v∧Sp.Bl e.p∧Sp.Bl e.q
def Sp.El.b (e:Sp.El):Sp.By:=e.p++(e.y++e.q)
def Sp.pre (xs:List Sp.By):Sp.By:=xs.flatMap fun t=>t++[44]
def Sp.kA:List Sp.By:=[[],[34,107,34],[34,92,117,48,48,54,98,92,117,48,48,54,66,34],[34,126,47,34]]
structure Sp.Om where
 i:Nat
 x:Sp.By
 y:Sp.By
 p:Sp.By
 p1:Sp.By
 p2:Sp.By
 q:Sp.By
 v:Sp.V
def Sp.Om.ok (k:Nat) (m:Sp.Om):Prop:=Sp.RdV k m.x m.v∧Sp.RdV k m.y m.v∧Sp.Bl m.p∧Sp.Bl m.p1∧Sp.Bl m.p2∧Sp.Bl m.q
def Sp.Om.at (m:Sp.Om):Sp.By:=Sp.kA.getD m.i []++58::m.x
end

section
open Go.RowKit
def numAll:List Sp.By:=Sp.num7++Sp.num0
theorem num_len {j:Nat} (hj:j<13):(numAll.getD j []).length≤8:=by
 have h:∀j:Fin 13,(numAll.getD j.val []).length≤8:=by decide
 exact h ⟨j,hj⟩
end

section
open Go.RowKit
def Op (A:ByteArray) (cs:List Nat) (n:Nat):Prop:=∃A',A.data.toList=34::A'∧Sp.Chs A' cs∧A.size≤1+12*n
end

section
open Go.RowKit Go.Maps
theorem wpList_look {P:Program} {w:World} {ops:Array Oper} {rest:List Oper} {o:Oper} {a:Act} {Q:Exit→Act→World→Prop} (hg:o.guard=none) (m x:Operand) (t:TypeId) (c:Bool) (hop:o.op=Op.lookup t m x c)
  (mv key r:Value) (hm:a.eval m=mv) (hx:a.eval x=key) (hrun:(Instr.lookup t mv key c).run P w = .ok r w) (hK:wpList P ops Q rest (a.put o.dst r) w):wpList P ops Q (o::rest) a w:=by
 refine wpList_plain hg fun K' hK'=>?_
 unfold Oper.wp
 simp[execOp,hop,hm,hx,hrun,Result.andThen]
 exact hK' _ _ hK
theorem tokG_slice {w:World} {G:Nat→Prop} {v:Value} {l:List Sp.By} (h:TokG w G v l):∃a n c,v = .slice a n c:=by
 rcases h with⟨_,a,c,rfl,_⟩|⟨g,o,cap,rfl,_⟩
 ·exact⟨_,_,_,rfl⟩
 ·exact⟨_,_,_,rfl⟩
section
variable {f:Nat} {F:Nat→Prop} {w:World} {v:Value} {d:Sp.V} {m:Nat}
end
end

section
set_option maxRecDepth 100000
set_option maxHeartbeats 8000000
open Go.RowKit Go.Maps
def MdfEnd (f:Nat) (F':Nat→Prop) (a b:Sp.V) (w:World) (e:Ending) (w':World):Prop:=Below w.heap.size w w'∧match Sp.mdf f a b with
 | none=>e = .returned (.tuple #[.pointer none,.bool false])
 | some z=>∃p,e = .returned (.tuple #[.pointer (some p),.bool true])∧Rep f (fun k=>F' k∨w.heap.size≤k) w' (.pointer (some p)) z
def MdfAt (d x:Int) (f:Nat):Prop:=∀ (g:Nat) (lv:Int) (F F':Nat→Prop) (w:World) (v v':Value) (a b:Sp.V),f=g+1→Src g F w v a→Sp.Mok d x g lv (Sp.memsOf a)→Sp.costs g (Sp.memsOf a)≤1000000→Rep f F' w v' b→(∀k,F' k→k<w.heap.size)→Sp.gd d x f lv b→Sp.sz f b≤1000000 →
 Calls Tryz.prog 89 #[v,v'] w (MdfEnd f F' a b w)
section
variable {d x:Int}
theorem mdf_leaf {g:Nat} {F F':Nat→Prop} {w:World} {v v':Value} {a b:Sp.V} (hs:Src g F w v a) (h:Rep (g+1) F' w v' b) (hb:Sp.isObj b=false) :
  Calls Tryz.prog 89 #[v,v'] w (MdfEnd (g+1) F' a b w):=by
 obtain⟨ab,ax,an,ast,asl,amv,rfl,_⟩:=hs
 obtain⟨tb,tx,tn,ts,tsl,tmv,rfl,ht,_,e6⟩:=rep_kind h
 rw[hb] at e6
 have e1:(tx != 6)=true:=e6
 have c0:=ht.c0
 have HR:=hide h
 have HE:=hide (show Sp.mdf (g+1) a b=some b by cases b<;>first|rfl|cases hb)
 obtain⟨Q,hQ⟩:∃Q,Q=MdfEnd (g+1) F' a b w:=⟨_,rfl⟩
 rw[← hQ]
 have HQ:=hide hQ
 clear h hb e6 ht hQ
 go_enter Tryz.func89,Tryz.ntmps89
 go_wp2_with (fail)
 show Q (.returned (.tuple #[.pointer (some ⟨tb,0,none⟩),.bool true])) _
 rw[unhide HQ]
 refine⟨Below.refl _ _,?_⟩
 rw[unhide HE]
 exact⟨_,rfl,(unhide HR).move fun k hk _=>⟨rfl,Or.inl hk⟩⟩
noncomputable def fate (f:Nat) (xs bs:List (Lit×Sp.V)) (k:Lit):Option (Option Sp.V):=Sp.mst (Sp.mdf f) xs k ((DataW.map bs).atKey k .nil)
noncomputable def fateH (f:Nat) (xs bs:List (Lit×Sp.V)) (left:Lit→Bool) (k:Lit):Bool:=if Maps.has (.map bs:DataW Unit) k=true then (!left k && (match fate f xs bs k with|some (some _)=>true|_=>false)) else Maps.has (.map xs:DataW Unit) k
noncomputable def fateZ (f:Nat) (xs bs:List (Lit×Sp.V)) (k:Lit):Sp.V:=if Maps.has (.map bs:DataW Unit) k=true then (match fate f xs bs k with|some (some z)=>z|_=>Sp.vWord 0) else Sp.vWord 0
theorem skey_has {es:List (Lit×Sp.V)} {k:Lit} (h:Sp.Skey es) (hh:Maps.has (.map es:DataW Unit) k=true):∃s c,k = .string s∧(Lit.string s,c)∈es∧(DataW.map es).atKey k .nil=c:=by
 obtain⟨p,hp,hs⟩:=List.any_eq_true.1 (show (es.any fun p=>p.1.sameKey k)=true from hh)
 obtain⟨s,e⟩:=h.2 p hp
 have ek:p.1=k:=WideAt.sameKey_eq hs
 obtain⟨pk,pv⟩:=p
 simp only at e ek
 subst e
 subst ek
 exact⟨s,pv,rfl,hp,WideAt.atKey_mem .nil (by exact trivial) (apart_of_rising h.1) hp⟩
theorem mem_has {es:List (Lit×Sp.V)} {s:Sp.By} {c:Sp.V} (h:Sp.Skey es) (hm:(Lit.string s,c)∈es):Maps.has (.map es:DataW Unit) (.string s)=true∧(DataW.map es).atKey (.string s) .nil=c :=
 ⟨List.any_eq_true.2 ⟨_,hm,Sp.sameKey_str.2 rfl⟩,WideAt.atKey_mem .nil (by exact trivial) (apart_of_rising h.1) hm⟩
theorem mdf_never {f:Nat} {a:Sp.V} {bs:List (Lit×Sp.V)} (hb:Sp.Skey bs) {k:Lit} (hh:Maps.has (.map bs:DataW Unit) k=true) (hn:fate f (Sp.memsOf a) bs k=none):Sp.mdf (f+1) a (.map bs)=none:=by
 obtain⟨s,c,rfl,hm,e⟩:=skey_has hb hh
 unfold fate at hn
 rw[e] at hn
 show (Sp.mdfs (Sp.mdf f) (Sp.memsOf a) bs (Sp.gone (Sp.memsOf a) bs)).map DataW.map=none
 rw[Sp.mdfs_fail ⟨_,hm,hn⟩];rfl
theorem mdf_done {f N cnt:Nat} {w wr w2:World} {F2 F':Nat→Prop} {a:Sp.V} {bs:List (Lit×Sp.V)} {left:Lit→Bool} (hM:MapS f N w F2 (fateH f (Sp.memsOf a) bs left) (fateZ f (Sp.memsOf a) bs) cnt wr) (hl:∀k,left k=false) (hok:∀k,Maps.has (.map bs:DataW Unit) k=true→left k=false→fate f (Sp.memsOf a) bs k≠none)
  (hsx:Sp.Skey (Sp.memsOf a)) (hsb:Sp.Skey bs) (hb:Below wr.heap.size wr w2) (hvb:VB w2 wr.heap.size 6 n0 [] (.slice none 0 0) (.map (some w.heap.size))) (hF2:∀k,F2 k→F' k∨w.heap.size≤k) :
  ∃z,Sp.mdf (f+1) a (.map bs)=some z∧Rep (f+1) (fun k=>F' k∨w.heap.size≤k) w2 (.pointer (some ⟨wr.heap.size,0,none⟩)) z∧Below w.heap.size w w2:=by
 obtain⟨out,e,hso,hk⟩:=Sp.mdfs_ok (m:=Sp.mdf f) (xs:=Sp.memsOf a) hsb (Sp.gone_skey (bs:=bs) hsx) (fun q hq=>by
  obtain⟨s,es⟩:=hsb.2 q hq
  obtain⟨qk,qv⟩:=q
  simp only at es
  subst es
  obtain⟨h1,h2⟩:=mem_has hsb hq
  have:=hok _ h1 (hl _)
  unfold fate at this
  rw[h2] at this
  exact this)
 obtain⟨n',D',es',g1,g2,g3,g4,g5⟩:=hM.el
 have c':=g3.canon (g2.canon mlaw)
 have hall:∀k,Maps.has (.map es':DataW Unit) k=Maps.has (.map out:DataW Unit) k∧(Maps.has (.map es':DataW Unit) k=true→(DataW.map es').atKey k .nil=(DataW.map out).atKey k .nil):=by
  intro k
  rw[g4]
  by_cases hstr:∃s,k = .string s
  ·obtain⟨s,rfl⟩:=hstr
   rcases Sp.key_two bs s with⟨c,hc⟩|hno
   ·obtain⟨h1,h2⟩:=mem_has hsb hc
    have hf:fate f (Sp.memsOf a) bs (.string s)=Sp.mst (Sp.mdf f) (Sp.memsOf a) (.string s) c:=by unfold fate;rw[h2]
    have hz:=(hk s).1 c hc
    rw[← hf] at hz
    have hne:=hok _ h1 (hl _)
    have gh:=Sp.gone_has (bs:=bs) hsx (.string s)
    cases hfa:fate f (Sp.memsOf a) bs (.string s) with
    | none=>exact absurd hfa hne
    | some o =>
     cases o with
     | none =>
      have h3:=hz.1 hfa
      have e1:fateH f (Sp.memsOf a) bs left (.string s)=false:=by unfold fateH;rw[if_pos h1,hfa];simp
      have e2:Maps.has (.map out:DataW Unit) (.string s)=false:=by rw[h3.1,gh.1,h1];simp
      rw[e1,e2]
      exact⟨rfl,fun h=>by cases h⟩
     | some z =>
      have h3:=hz.2 z hfa
      have e1:fateH f (Sp.memsOf a) bs left (.string s)=true:=by unfold fateH;rw[if_pos h1,hfa,hl];rfl
      refine⟨e1.trans h3.1.symm,fun h=>?_⟩
      rw[g5 _ h,h3.2]
      unfold fateZ;rw[if_pos h1,hfa]
   ·have h1:Maps.has (.map bs:DataW Unit) (.string s)=false:=by
     cases h:Maps.has (.map bs:DataW Unit) (.string s) with
     | false=>rfl
     | true =>
      obtain⟨s',c,e1,hm,_⟩:=skey_has hsb h
      exact absurd e1.symm (hno _ hm)
    have h3:=(hk s).2 hno
    have gh:=Sp.gone_has (bs:=bs) hsx (.string s)
    have e1:fateH f (Sp.memsOf a) bs left (.string s)=Maps.has (.map (Sp.memsOf a):DataW Unit) (.string s):=by unfold fateH;rw[if_neg (by rw[h1];decide)]
    have e2:Maps.has (.map out:DataW Unit) (.string s)=Maps.has (.map (Sp.memsOf a):DataW Unit) (.string s):=by rw[h3.1,gh.1,h1];simp
    refine⟨e1.trans e2.symm,fun h=>?_⟩
    rw[g5 _ h,h3.2,gh.2 (by rw[← h3.1,e2,← e1];exact h)]
    unfold fateZ;rw[if_neg (by rw[h1];decide)]
  ·have no:∀es:List (Lit×Sp.V),Sp.Skey es→Maps.has (.map es:DataW Unit) k=false:=fun es h=>by
    cases hh:Maps.has (.map es:DataW Unit) k with
    | false=>rfl
    | true =>
     obtain⟨s,_,e1,_⟩:=skey_has h hh
     exact absurd ⟨s,e1⟩ hstr
   have e1:fateH f (Sp.memsOf a) bs left k=false:=by unfold fateH;rw[if_neg (by rw[no bs hsb];decide),no _ hsx]
   rw[e1,no out hso]
   exact⟨rfl,fun h=>by cases h⟩
 have heq:es'=out:=obj_eq c' (Sp.skey_canon hso) (fun k=>(hall k).1) (fun k hh=>(hall k).2 hh)
 subst heq
 refine⟨.map es',?_,⟨wr.heap.size,rfl,Or.inr (Nat.le_of_lt hM.sz),Or.inr (Or.inr (Or.inr (Or.inr ⟨es',w.heap.size,n',D',rfl,hvb,Or.inr (Nat.le_refl _),map_kept g2 (hb.block _ hM.sz),g3.mono fun _ _ hr=>hr.move fun k h1 h2=>⟨hb.block k h2,hF2 k h1⟩⟩)))⟩,hM.bel.trans (hb.mono hM.bel.size)⟩
 show (Sp.mdfs (Sp.mdf f) (Sp.memsOf a) bs (Sp.gone (Sp.memsOf a) bs)).map DataW.map=some (.map es')
 rw[e];rfl
theorem fate_skip {f N cnt cnt1:Nat} {w w3:World} {F2:Nat→Prop} {xs bs:List (Lit×Sp.V)} {left:Lit→Bool} {kl:Lit} (h:MapS f N w F2 (fateH f xs bs left) (fateZ f xs bs) cnt w3) (hc:cnt1<cnt) (hb:Maps.has (.map bs:DataW Unit) kl=true) (hf:fate f xs bs kl=some none) :
  MapS f N w F2 (fateH f xs bs (fun z=>left z && !z.sameKey kl)) (fateZ f xs bs) cnt1 w3:=by
 refine h.as (by omega) (fun k=>?_) (fun k _=>rfl)
 unfold fateH
 by_cases hkk:k=kl
 ·subst hkk
  rw[if_pos hb,if_pos hb,hf];simp
 ·simp[mgKey_ne hkk]
theorem fate_put {f N cnt cnt1:Nat} {w w3:World} {F2:Nat→Prop} {xs bs:List (Lit×Sp.V)} {left:Lit→Bool} {kl:Lit} {x:Value} {p:Addr} {z:Sp.V} (h:MapS f N w F2 (fateH f xs bs left) (fateZ f xs bs) cnt w3) (hc:cnt1<cnt) (hN:N<maxLen) (hF:∀k,F2 k→k≠w.heap.size) (hkey:keyOf Tryz.prog 9 x=some kl) (hkk:WideAt.IsKeyLit kl)
  (hb:Maps.has (.map bs:DataW Unit) kl=true) (hf:fate f xs bs kl=some (some z)) (hv:Rep f F2 w3 (.pointer (some p)) z) :
  ∃w4,(Instr.mapUpdate 109 (.map (some w.heap.size)) x (.pointer (some p))).run Tryz.prog w3 = .ok () w4∧MapS f N w F2 (fateH f xs bs (fun z=>left z && !z.sameKey kl)) (fateZ f xs bs) cnt1 w4∧w3.grownBy w4 (some w.heap.size):=by
 obtain⟨w4,hrun,hM,hg⟩:=h.put hc hN hF hkey hkk hv
 refine⟨w4,hrun,hM.as (Nat.le_refl _) (fun k=>?_) (fun k _=>?_),hg⟩
 ·unfold fateH
  by_cases hk:k=kl
  ·subst hk
   rw[if_pos hb,if_pos hb,hf];simp[WideAt.sameKey_self hkk]
  ·simp[mgKey_ne hk]
 ·by_cases hk:k=kl
  ·subst hk
   rw[if_pos (WideAt.sameKey_self hkk)]
   unfold fateZ
   rw[if_pos hb,hf]
  ·rw[mgKey_ne hk,if_neg (by decide)]
theorem fate_none {f:Nat} {xs bs:List (Lit×Sp.V)} {kl:Lit} (hg:Sp.get? xs kl=none):fate f xs bs kl=if Sp.isNull ((DataW.map bs).atKey kl .nil)=true then none else (Sp.mdf f (.map []) ((DataW.map bs).atKey kl .nil)).map some:=by
 unfold fate Sp.mst;rw[hg]
theorem fate_some {f:Nat} {xs bs:List (Lit×Sp.V)} {kl:Lit} {y:Sp.V} (hg:Sp.get? xs kl=some y):fate f xs bs kl=if veq y ((DataW.map bs).atKey kl .nil)=true then some none else if Sp.isNull ((DataW.map bs).atKey kl .nil)=true then none else (Sp.mdf f y ((DataW.map bs).atKey kl .nil)).map some:=by
 unfold fate Sp.mst;rw[hg]
theorem get_kl {xs:List (Lit×Sp.V)} {kl:Lit} {y:Sp.V} (hs:Sp.Skey xs) (hg:Sp.get? xs kl=some y):∃s,(Lit.string s,y)∈xs:=by
 unfold Sp.get? at hg
 split at hg
 ·rename_i h
  obtain⟨s,c,rfl,hm,e⟩:=skey_has hs h
  injection hg with hg
  exact⟨s,by rw[← hg,e];exact hm⟩
 ·cases hg
theorem mems_ok {g:Nat} {lv:Int} {v:Sp.V} (h:Sp.gd d x (g+1) lv v):Sp.Mok d x g lv (Sp.memsOf v)∧Sp.costs g (Sp.memsOf v)≤Sp.sz (g+1) v:=by
 cases v with
 | map es =>
  refine⟨(Sp.gd_map h).2,?_⟩
  have h2:Sp.sz (g+1) (.map es)=2+Sp.costs g es:=Sp.sz_obj g es
  rw[h2];exact Nat.le_add_left _ _
 | _=>exact⟨⟨List.Pairwise.nil,fun p hp=>by cases hp⟩,Nat.zero_le _⟩
theorem mdf_obj {f:Nat} {lv:Int} {F F':Nat→Prop} {w:World} {v:Value} {tb mt nt:Nat} {Dt:List (Lit×DataW Value)} {a:Sp.V} {bs:List (Lit×Sp.V)} (hS:MdfAt d x f) (ha:Src f F w v a) (hma:Sp.Mok d x f lv (Sp.memsOf a)) (hca:Sp.costs f (Sp.memsOf a)≤1000000)
  (ht:VB w tb 6 n0 [] (.slice none 0 0) (.map (some mt))) (hto:w.ownsMap Tryz.prog 9 RV mt nt (.map Dt)) (htp:Pt (Rep f F' w) Dt bs) (hmb:Sp.Mok d x f lv bs) (hcb:Sp.costs f bs≤1000000) (hF':∀k,F' k→k<w.heap.size) :
  Calls Tryz.prog 89 #[v,.pointer (some ⟨tb,0,none⟩)] w (MdfEnd (f+1) F' a (.map bs) w):=by
 have hml:=mlaw
 have hmz:=mzero
 have hmm:=@run_makeMap Tryz.prog
 obtain⟨ab,ax,an,ast,asl,mv,rfl,hav,hsrc⟩:=ha
 obtain⟨xs,hxs⟩:∃xs,xs=Sp.memsOf a:=⟨_,rfl⟩
 rw[← hxs] at hma hca hsrc
 have t0:=ht.c0
 have t6:=ht.c6
 have a6:=hav.c6
 have hal:=hav.lt
 have htl:=ht.lt
 have hmtl:=map_lt hto
 obtain⟨W1,hW1⟩:∃W1,W1=w.alloc (.map #[] 0):=⟨_,rfl⟩
 have hs1:W1.heap.size=w.heap.size+1:=by rw[hW1];simp
 have hb1:Below w.heap.size w W1:=by rw[hW1];exact (Below.refl _ _).alloc (Nat.le_refl _) _
 have d6:W1.cell? ⟨ab,6,none⟩=some mv:=(World.cell?_of_block (w:=w) (a:=⟨ab,6,none⟩) (hb1.block ab hal)).trans a6
 have u6:W1.cell? ⟨tb,6,none⟩=some (.map (some mt)):=(World.cell?_of_block (w:=w) (a:=⟨tb,6,none⟩) (hb1.block tb htl)).trans t6
 have hM0:MapS f (xs.length+bs.length) w (fun k=>(F' k∨w.heap.size≤k)∧k≠w.heap.size∧k≠w.heap.size+1) (fun _=>false) (fun _=>Sp.vWord 0) (xs.length+bs.length) W1:=by
  have hmade:=World.ownsMap_made w Tryz.prog 9 RV
  rw[← hW1] at hmade
  exact⟨hb1,by omega,0,[],[],by omega,hmade,trivial,fun _=>rfl,fun k hk=>by cases hk⟩
 have HM0:=hide hM0
 have HB1:=hide hb1
 have HS1:=hide hs1
 have HSRC:=hide hsrc
 have HTO:=hide hto
 have HTP:=hide htp
 have HMA:=hide hma
 have HMB:=hide hmb
 have HCA:=hide hca
 have HCB:=hide hcb
 have HFT:=hide hF'
 have HS:=hide hS
 have HXS:=hide hxs
 have HW1:=hide hW1
 have A6:=hide (show mv=mv∧w.cell? ⟨ab,6,none⟩=some mv from⟨rfl,a6⟩)
 rw[hW1] at d6 u6
 obtain⟨Q,hQ⟩:∃Q,Q=MdfEnd (f+1) F' a (.map bs) w:=⟨_,rfl⟩
 rw[← hQ]
 have HQ:=hide hQ
 clear hM0 hsrc hto htp hma hmb hca hcb hF' hS hxs hav ht hb1 hs1 hW1 a6 hQ
 go_enter Tryz.func89,Tryz.ntmps89
 go_upto_region 4 with (fail)
 rw[← unhide HW1]
 go_cut [27] (fun s27 wx=>s27 = .pointer (some ⟨w.heap.size+1,0,none⟩)∧Hid (Below W1.heap.size W1 wx∧wx.heap.size=w.heap.size+2∧((mv = .map none∧xs=[]∧wx=W1.alloc (.mapIter none 0 #[] 0)) ∨ ∃m n' D,mv = .map (some m)∧Pt (Rep f F w) D xs∧w.ownsMap Tryz.prog 9 RV m n' (.map D)∧wx.ranges Tryz.prog 9 RV m (w.heap.size+1) n' (.map D) (has (.map D:DataW Value)) (Maps.size (.map D:DataW Value)))))
 case first =>
  rw[← unhide HW1] at d6
  rcases unhide HSRC with⟨rfl,hx0⟩|⟨m,n',D,rfl,ho,hp⟩
  ·have hrg:=run_range_nilMap (P:=Tryz.prog) W1 109 9 80 Tryz.underlying109
   go_wp2_with (fail)
   go_meet
   exact⟨by rw[unhide HS1],(Below.refl _ _).alloc (Nat.le_refl _) _,by simp[unhide HS1],Or.inl ⟨trivial,hx0,rfl⟩⟩
  ·have HO1:=hide (map_kept ho ((unhide HB1).block m (map_lt ho)))
   have HO:=hide ho
   have HP:=hide hp
   clear ho hp
   go_wp2_with (first
    | (at_range;refine wpList_range_own _ rfl _ 109 rfl 9 80 hml Tryz.underlying109 RV m n' _ rfl (unhide HO1) ?_;intro w0 hrg0 hg0 hs0)
    | go_in)
   have e0:=unhide HS1
   have HRG:=hide hrg0
   rw[e0] at HRG hs0
   have HG:=hide (below_of_grown hg0)
   clear hrg0 hg0
   simp only[e0]
   go_wp2_with (fail)
   go_meet
   exact⟨rfl,unhide HG,hs0,Or.inr ⟨m,n',D,rfl,unhide HP,unhide HO,unhide HRG⟩⟩
 case rest =>
  obtain⟨rfl,HC⟩:=hcut
  go_upto_block 0 with fail
  go_cut [] (fun wx=>Hid (MapS f (xs.length+bs.length) w (fun k=>(F' k∨w.heap.size≤k)∧k≠w.heap.size∧k≠w.heap.size+1) (fun k=>Maps.has (.map xs:DataW Unit) k && !Maps.has (.map bs:DataW Unit) k) (fun _=>Sp.vWord 0) bs.length wx))
  case first =>
   obtain⟨hb2,hs2,hc⟩:=unhide HC
   rcases hc with⟨_,hx0,rfl⟩|⟨m,n',D,_,hp,ho,hrg⟩
   ·have hnx:∀ty,(Instr.next (.pointer (some ⟨W1.heap.size,0,none⟩)) false ty).run Tryz.prog (W1.alloc (.mapIter none 0 #[] 0))=_:=fun ty=>run_next_nilMap W1 ty 0 0 #[]
    rw[unhide HS1] at hnx
    have HM1:=hide ((unhide HM0).low hb2)
    clear hb2 hs2 HC
    go_wp2_with (fail)
    refine wp_loop_rounds 1 ?_
    rw[rounds_succ]
    go_wp2_with (fail)
    go_meet
    exact (unhide HM1).as (by omega) (fun k=>by rw[hx0];rfl) (fun k h=>by rfl)
   ·have HM1:=hide ((unhide HM0).low hb2)
    have HP:=hide hp
    clear hb2 hp HC
    go_wp2_with (fail)
    go_loopw [] (fun wr=>∃ (left:Lit→Bool) (cnt:Nat),wr.ranges Tryz.prog 9 RV m (w.heap.size+1) n' (.map D) left cnt∧Hid (MapS f (xs.length+bs.length) w (fun k=>(F' k∨w.heap.size≤k)∧k≠w.heap.size∧k≠w.heap.size+1) (fun k=>Maps.has (.map xs:DataW Unit) k && !left k && !Maps.has (.map bs:DataW Unit) k) (fun _=>Sp.vWord 0) (cnt+bs.length) wr))
     (fun wr=>wr.rangeLeft m (w.heap.size+1))
    case atStart =>
     refine⟨_,_,hrg,(unhide HM1).as ?_ (fun k=>?_) (fun k _=>rfl)⟩
     ·have:=(unhide HP).size
      rw[Maps.size_eq];omega
     ·rw[(unhide HP).has k]
      cases Maps.has (.map xs:DataW Unit) k<;>rfl
    case round =>
     obtain⟨left,cnt,hrg,G⟩:=hrel
     go_wp2_with (first
      | (at_next;refine wpList_next_ranges _ rfl _ rfl 9 hml RV id id (fun key _ _=>⟨key,rfl⟩) (fun v _ _=>⟨v,rfl⟩) m (w.heap.size+1) n' _ _ _ rfl hrg ?_ ?_)
      | go_in)
     ·intro _ hl0
      have HM2:=hide ((unhide G).as (H':=fun k=>Maps.has (.map xs:DataW Unit) k && !Maps.has (.map bs:DataW Unit) k) (Z':=fun _=>Sp.vWord 0) (cnt1:=bs.length) (by omega) (fun k=>by rw[hl0];simp) (fun k _=>rfl))
      clear hrg
      go_wp2_with (fail)
      go_meet
      exact unhide HM2
     ·intro x c kl yd yp w1 cnt1 hkey hlx hv hat hrg1 hlt hg1 hs1' hen
      have hv2:DataW.held c=yd:=congrArg Prod.fst (Option.some.inj hv)
      subst hv2
      have hasD:Maps.has (.map D:DataW Value) kl=true:=has_true_of_atKey hat
      obtain⟨c',_,hrep⟩:=(unhide HP).at kl hasD
      have hasX:Maps.has (.map xs:DataW Unit) kl=true:=by rw[← (unhide HP).has kl];exact hasD
      obtain⟨g0,rfl⟩:∃g0,f=g0+1:=by
       cases f with
       | zero=>exact hrep.elim
       | succ g0=>exact⟨g0,rfl⟩
      have G1:=hide ((unhide G).grow hg1 (by simp) (fun i hi=>by have:=Option.some.inj hi;omega) (F2:=fun k=>(F' k∨w.heap.size≤k)∧k≠w.heap.size∧k≠w.heap.size+1) (fun k hk _=>⟨fun e=>hk.2.2 (Option.some.inj e),hk⟩))
      have u6':w1.cell? ⟨tb,6,none⟩=some (.map (some mt)):=(World.cell?_of_block (w:=w) (a:=⟨tb,6,none⟩) ((unhide G1).bel.block tb htl)).trans t6
      have htw1:=map_kept (unhide HTO) ((unhide G1).bel.block mt hmtl)
      have HHX:=hide hasX
      have hhb:=(unhide HTP).has kl
      have hkk:=key_lit (Sp.skey_canon (unhide HMA).skey) hasX
      cases hh:Maps.has (.map Dt:DataW Value) kl with
      | true =>
       have hb2:Maps.has (.map bs:DataW Unit) kl=true:=by rw[← hhb,hh]
       have G2:=hide ((unhide G1).as (H':=fun k=>Maps.has (.map xs:DataW Unit) k && !(left k && !k.sameKey kl) && !Maps.has (.map bs:DataW Unit) k) (Z':=fun _=>Sp.vWord 0) (cnt1:=cnt1+bs.length) (by omega) (fun k=>by
        by_cases hkk:k=kl
        ·subst hkk
         rw[hb2];simp
        ·rw[mgKey_ne hkk];simp) (fun k _=>rfl))
       clear hat hrep hasX hasD hv hhb hb2 hkk
       go_wp2_with (first
        | (at_lookup;refine wpList_lookup_own_ok _ rfl _ _ 109 rfl 9 80 hml Tryz.underlying109 RV (hmz _) (.held (.pointer none)) [] rfl mt nt (.map Dt) rfl htw1 _ kl rfl hkey ?_;intro v2 ps2 hv2;rw[hh];go_frame)
        | go_in)
       go_roundw
       case rel=>exact⟨_,cnt1,hrg1,G2⟩
       case measure=>rw[hrg1.left_eq,hrg.left_eq];exact hlt
      | false =>
       have hb2:Maps.has (.map bs:DataW Unit) kl=false:=by rw[← hhb,hh]
       obtain⟨w2,hw2⟩:∃w2,w2=w1.alloc (.cells #[.int .i64 0,.bool false,.string ⟨#[]⟩,.int .i64 0,.string ⟨#[]⟩,.slice none 0 0,.map none] 111):=⟨_,rfl⟩
       have hbw:Below w1.heap.size w1 w2:=by rw[hw2];exact (Below.refl _ _).alloc (Nat.le_refl _) _
       have hvb:VB w2 w1.heap.size 0 n0 [] (.slice none 0 0) (.map none):=by rw[hw2];exact heap_alloc_new w1 _
       have hs1w:=(unhide G1).sz
       have hsz1:w.heap.size+1<w1.heap.size:=hrg1.lt
       obtain⟨w3,hrun,hM3,hg3⟩:=((unhide G1).low hbw).put (cnt1:=cnt1+bs.length) (by omega) (by have:=Sp.costs_ge (g0+1) xs;have:=Sp.costs_ge (g0+1) bs;have:=unhide HCA;have:=unhide HCB;unfold maxLen;omega) (fun k hk=>hk.2.1) hkey hkk (p:=⟨w1.heap.size,0,none⟩) (d:=Sp.vWord 0) ⟨w1.heap.size,rfl,⟨Or.inr (by omega),by omega,by omega⟩,Or.inl ⟨0,by omega,rfl,hvb⟩⟩
       have HM3:=hide (hM3.as (H':=fun k=>Maps.has (.map xs:DataW Unit) k && !(left k && !k.sameKey kl) && !Maps.has (.map bs:DataW Unit) k) (Z':=fun _=>Sp.vWord 0) (cnt1:=cnt1+bs.length) (Nat.le_refl _) (fun k=>by
        by_cases hkk:k=kl
        ·subst hkk
         rw[WideAt.sameKey_self (by assumption),unhide HHX,hb2];simp
        ·rw[mgKey_ne hkk];simp) (fun k _=>by split<;>rfl))
       have hrg3:=(hrg1.kept (grown_of_below hbw) (by simp) (by simp)).kept hg3 (fun e=>by have:=Option.some.inj e;have:=map_lt ho;omega) (fun e=>by have:=Option.some.inj e;omega)
       rw[hw2,hs1'] at hrun
       clear hat hrep hasX hasD hv hhb hb2 hkk hM3 hvb hbw hg3
       go_wp2_with (first
        | (at_lookup;refine wpList_lookup_own_ok _ rfl _ _ 109 rfl 9 80 hml Tryz.underlying109 RV (hmz _) (.held (.pointer none)) [] rfl mt nt (.map Dt) rfl htw1 _ kl rfl hkey ?_;intro v2 ps2 hv2;rw[hh];go_frame)
        | go_in)
       go_roundw
       case rel=>exact⟨_,cnt1,hrg3,HM3⟩
       case measure=>rw[hrg3.left_eq,hrg.left_eq];exact hlt
  case rest =>
   have hM:=unhide hcut
   have u6c:wc.cell? ⟨tb,6,none⟩=some (.map (some mt)):=(World.cell?_of_block (w:=w) (a:=⟨tb,6,none⟩) (hM.bel.block tb htl)).trans t6
   have HTC:=hide (map_kept (unhide HTO) (hM.bel.block mt hmtl))
   have HMC:=hide hM
   have hszc:=hM.sz
   clear hM hcut d6 u6
   go_wp2_with (first
    | (at_range;refine wpList_range_own _ rfl _ 109 rfl 9 80 hml Tryz.underlying109 RV mt nt _ rfl (unhide HTC) ?_;intro w0 hrg0 hg0 hs0)
    | go_in)
   have HM1:=hide (((unhide HMC).grow (it:=none) hg0 (by simp) (fun i hi=>by cases hi) (F2:=fun k=>(F' k∨w.heap.size≤k)∧k≠w.heap.size∧k≠wc.heap.size) (fun k hk hkl=>⟨by simp,hk.1,hk.2.1,by omega⟩)).as (H':=fateH f xs bs (has (.map Dt:DataW Value))) (Z':=fateZ f xs bs) (cnt1:=Maps.size (.map Dt:DataW Value)) (by have:=(unhide HTP).size;rw[Maps.size_eq];omega) (fun k=>by
     unfold fateH
     rw[(unhide HTP).has k]
     cases h:Maps.has (.map bs:DataW Unit) k<;>simp) (fun k hk=>by
     unfold fateH at hk
     rw[(unhide HTP).has k] at hk
     unfold fateZ
     cases h:Maps.has (.map bs:DataW Unit) k with
     | true=>rw[h] at hk;simp at hk
     | false=>rfl))
   clear hg0 hs0 u6c
   go_loopw [] (fun wr=>∃ (left:Lit→Bool) (cnt:Nat),wr.ranges Tryz.prog 9 RV mt wc.heap.size nt (.map Dt) left cnt∧Hid (MapS f (xs.length+bs.length) w (fun k=>(F' k∨w.heap.size≤k)∧k≠w.heap.size∧k≠wc.heap.size) (fateH f xs bs left) (fateZ f xs bs) cnt wr ∧ ∀k,Maps.has (.map bs:DataW Unit) k=true→left k=false→fate f xs bs k≠none))
    (fun wr=>wr.rangeLeft mt wc.heap.size)
   case atStart =>
    refine⟨_,_,hrg0,unhide HM1,fun k h1 h2=>?_⟩
    rw[(unhide HTP).has k,h1] at h2
    cases h2
   case round =>
    obtain⟨left,cnt,hrg,G0⟩:=hrel
    go_wp2_with (first
     | (at_next;refine wpList_next_ranges _ rfl _ rfl 9 hml RV id id (fun key _ _=>⟨key,rfl⟩) (fun v _ _=>⟨v,rfl⟩) mt wc.heap.size nt _ _ _ rfl hrg ?_ ?_)
     | go_in)
    ·intro _ hl0
     have hx:=unhide HXS
     have HD:=hide (fun (w2:World) (hb:Below wr.heap.size wr w2) (hv:VB w2 wr.heap.size 6 n0 [] (.slice none 0 0) (.map (some w.heap.size)))=>mdf_done (F':=F') (F2:=fun k=>(F' k∨w.heap.size≤k)∧k≠w.heap.size∧k≠wc.heap.size) (a:=a) (by rw[← hx];exact (unhide G0).1) hl0 (by rw[← hx];exact (unhide G0).2) (by rw[← hx];exact (unhide HMA).skey) (unhide HMB).skey hb hv (fun k hk=>hk.1))
     clear hrg0 hrg hx
     go_wp2_with (fail)
     show Q (.returned (.tuple #[.pointer (some ⟨wr.heap.size,0,none⟩),.bool true])) _
     rw[unhide HQ]
     obtain⟨z,e1,e2,e3⟩:=unhide HD _ ((Below.refl _ _).alloc (Nat.le_refl _) _) (heap_alloc_new wr _)
     refine⟨e3,?_⟩
     rw[e1]
     exact⟨_,rfl,e2⟩
    ·intro kx c kl yd yp w1 cnt1 hkey hlx hv hat hrg1 hlt hg1 hs1' hen
     have hv2:DataW.held c=yd:=congrArg Prod.fst (Option.some.inj hv)
     subst hv2
     have hasD:Maps.has (.map Dt:DataW Value) kl=true:=has_true_of_atKey hat
     obtain⟨c',e1,hrep⟩:=(unhide HTP).at kl hasD
     have e2:c'=c:=by
      have e3:=(e1 .nil).symm.trans (hat .nil)
      injection e3
     subst e2
     have hasB:Maps.has (.map bs:DataW Unit) kl=true:=by rw[← (unhide HTP).has kl];exact hasD
     obtain⟨g0,hg0f⟩:∃g0,f=g0+1:=by
      cases f with
      | zero=>exact hrep.elim
      | succ g0=>exact⟨g0,rfl⟩
     obtain⟨ks,yc,hks,hym,hye⟩:=skey_has (unhide HMB).skey hasB
     obtain⟨y,hy⟩:∃y,y=(DataW.map bs).atKey kl .nil:=⟨_,rfl⟩
     rw[← hy] at hrep hye
     subst hye
     obtain⟨_,hgy⟩:=(unhide HMB).2 _ hym
     have hsy:Sp.sz f y≤1000000:=Nat.le_trans (Sp.mem_costs hym) (unhide HCB)
     have hlv:=Sp.gd_lv hgy
     have hM1:=(unhide G0).1.grow hg1 (by simp;omega) (fun i hi=>by have:=Option.some.inj hi;omega) (F2:=fun k=>(F' k∨w.heap.size≤k)∧k≠w.heap.size∧k≠wc.heap.size) (fun k hk _=>⟨fun e=>hk.2.2 (Option.some.inj e),hk⟩)
     have hok:=(unhide G0).2
     have hwc1:wc.heap.size<w1.heap.size:=hrg1.lt
     have hbw1:=hM1.bel
     obtain⟨pb,pk,pn,pst,psl,pmv,hcp,hpv,hk0,_⟩:=rep_kind hrep
     subst hcp
     have ck:w1.cell? ⟨pb,0,none⟩=some (.int .i64 pk):=(hpv.kept (hbw1.block pb hpv.lt)).c0
     have a6':w1.cell? ⟨ab,6,none⟩=some mv:=(World.cell?_of_block (w:=w) (a:=⟨ab,6,none⟩) (hbw1.block ab hal)).trans (unhide A6).2
     obtain⟨yv,hyv,hlk⟩:=src_look (unhide HSRC) hkey
     have L1:=hide (hlk w1 hbw1)
     have hkk:=key_lit (Sp.skey_canon (unhide HMB).skey) hasB
     -- what a call leaves,laid down
     have HFIN:=hide (fun (A:Sp.V) (w2 w3:World) (p:Addr) (z:Sp.V) (h12:Below w1.heap.size w1 w2) (h23:Below w2.heap.size w2 w3) (hf:fate f xs bs kl=some (some z)) (hv:Rep f (fun k=>F' k∨w2.heap.size≤k) w3 (.pointer (some p)) z)=>(by
      obtain⟨w4,hrun,hM4,hg4⟩:=fate_put (cnt1:=cnt1) ((hM1.low h12).low h23) hlt (by have:=Sp.costs_ge f xs;have:=Sp.costs_ge f bs;have:=unhide HCA;have:=unhide HCB;unfold maxLen;omega) (fun k hk=>hk.2.1) hkey hkk hasB hf (hv.move fun k hk hkl=>⟨rfl,by
       rcases hk with hk|hk
       ·have:=unhide HFT k hk
        exact⟨Or.inl hk,by omega,by omega⟩
       ·have:=h12.size
        exact⟨Or.inr (by omega),by omega,by omega⟩⟩)
      have hrg4:=(hrg1.kept (grown_of_below (h12.trans (h23.mono h12.size))) (by simp) (by simp)).kept hg4 (fun e=>by have:=Option.some.inj e;omega) (fun e=>by have:=Option.some.inj e;omega)
      refine⟨w4,hrun,hrg4,hM4,fun k h1 h2=>?_⟩
      by_cases hkl:k=kl
      ·subst hkl
       rw[hf];simp
      ·refine hok k h1 ?_
       rw[mgKey_ne hkl] at h2
       simpa using h2:∃w4,(Instr.mapUpdate 109 (.map (some w.heap.size)) kx (.pointer (some p))).run Tryz.prog w3 = .ok () w4∧w4.ranges Tryz.prog 9 RV mt wc.heap.size nt (.map Dt) (fun z=>left z && !z.sameKey kl) cnt1∧MapS f (xs.length+bs.length) w (fun k=>(F' k∨w.heap.size≤k)∧k≠w.heap.size∧k≠wc.heap.size) (fateH f xs bs (fun z=>left z && !z.sameKey kl)) (fateZ f xs bs) cnt1 w4 ∧ ∀k,Maps.has (.map bs:DataW Unit) k=true→(left k && !k.sameKey kl)=false→fate f xs bs k≠none))
     have HOK:=hide hok
     have HM1':=hide hM1
     have HREP:=hide hrep
     have HBW1:=hide hbw1
     have HKEY:=hide hkey
     have HB:=hide hasB
     have HGY:=hide (show Sp.gd d x f (lv+1) y from hgy)
     have HSY:=hide hsy
     have HRG1:=hide hrg1
     have HLT:=hide hlt
     have HNEV:=hide (fun (h:fate f xs bs kl=none)=>show Sp.mdf (f+1) a (.map bs)=none from mdf_never (k:=kl) (unhide HMB).skey hasB (by rw[← unhide HXS];exact h))
     have hbk:=unhide HFT
     clear hok hM1 hrep hbw1 hasD hasB hat e1 hym hgy hsy hlv hlk hkk hv hpv hrg1 hlt hg1 hlx hks hbk
     cases hgx:Sp.get? xs kl with
     | none =>
      rw[hgx] at hyv
      obtain rfl:yv = .pointer none:=hyv
      have L2:=hide (show (Instr.lookup 109 mv kx true).run Tryz.prog w1 = .ok (.tuple #[.pointer none,.bool false]) w1 by have:=unhide L1;rw[hgx] at this;exact this)
      have hfa:=fate_none (f:=f) (bs:=bs) hgx
      rw[← hy] at hfa
      cases hn:Sp.isNull y with
      | true =>
       rw[hn] at hk0 hfa
       have ek:(pk == 0)=true:=by simpa using hk0
       have HEND:=hide (unhide HNEV (by rw[hfa];rfl))
       clear hk0 hfa hgx L1
       go_wp2_with (first|(at_lookup;refine wpList_look rfl _ _ 109 true rfl _ _ _ rfl rfl (unhide L2) ?_)|fail)
       show Q (.returned (.tuple #[.pointer none,.bool false])) _
       rw[unhide HQ]
       refine⟨unhide HBW1,?_⟩
       rw[unhide HEND]
      | false =>
       rw[hn] at hk0 hfa
       have ek:(pk == 0)=false:=by simpa using hk0
       have hb12:Below w1.heap.size w1 (w1.alloc (.cells #[.int .i64 6,.bool false,.string ⟨#[]⟩,.int .i64 0,.string ⟨#[]⟩,.slice none 0 0,.map none] 111)):=(Below.refl _ _).alloc (Nat.le_refl _) _
       have hvb:VB (w1.alloc (.cells #[.int .i64 6,.bool false,.string ⟨#[]⟩,.int .i64 0,.string ⟨#[]⟩,.slice none 0 0,.map none] 111)) wr.heap.size 6 n0 [] (.slice none 0 0) (.map none):=by rw[← hs1'];exact heap_alloc_new w1 _
       have HB12:=hide hb12
       have HC:=hide (unhide HS g0 (lv+1) F F' _ (.pointer (some ⟨wr.heap.size,0,none⟩)) _ (.map []) y hg0f ⟨wr.heap.size,6,_,_,_,_,rfl,hvb,Or.inl ⟨rfl,rfl⟩⟩ ⟨List.Pairwise.nil,fun p hp=>by cases hp⟩ (Nat.zero_le _) (((unhide HREP).bel (unhide HBW1)).bel hb12) (fun k hk=>by have:=unhide HFT k hk;have:=(unhide HBW1).size;have:=hb12.size;omega) (unhide HGY) (unhide HSY))
       clear hk0 hgx L1 hb12 hvb
       go_wp2_with (first|(at_lookup;refine wpList_look rfl _ _ 109 true rfl _ _ _ rfl rfl (unhide L2) ?_)|fail)
       refine (unhide HC).mono ?_
       rintro e w3 ⟨hb3,he⟩
       cases hm:Sp.mdf f (.map []) y with
       | none =>
        rw[hm] at he hfa
        obtain rfl:e = .returned (.tuple #[.pointer none,.bool false]):=he
        have HEND:=hide (unhide HNEV (by rw[hfa];rfl))
        have HB3:=hide ((unhide HBW1).trans (((unhide HB12).trans (hb3.mono (unhide HB12).size)).mono (unhide HBW1).size))
        clear hfa hb3 HC
        go_wp2_with (fail)
        show Q (.returned (.tuple #[.pointer none,.bool false])) _
        rw[unhide HQ]
        refine⟨unhide HB3,?_⟩
        rw[unhide HEND]
       | some z =>
        rw[hm] at he hfa
        obtain⟨p,rfl,hz⟩:=he
        obtain⟨w4,hrun,hrg4,hM4,hok4⟩:=unhide HFIN (.map []) _ w3 p z (unhide HB12) hb3 (by rw[hfa];rfl) hz
        have HM4:=hide (And.intro hM4 hok4)
        clear hfa hb3 HC hz hM4 hok4
        go_wp2_with (fail)
        go_roundw
        case rel=>exact⟨_,cnt1,hrg4,HM4⟩
        case measure=>rw[hrg4.left_eq,hrg.left_eq];exact unhide HLT
     | some xv =>
      rw[hgx] at hyv
      have hyv:Rep f F w yv xv:=hyv
      have L2:=hide (show (Instr.lookup 109 mv kx true).run Tryz.prog w1 = .ok (.tuple #[yv,.bool true]) w1 by have:=unhide L1;rw[hgx] at this;exact this)
      have hfa:=fate_some (f:=f) (bs:=bs) hgx
      rw[← hy] at hfa
      have HSAME:=hide (Same_any f F F' w1 yv _ xv y (hyv.bel (unhide HBW1)) ((unhide HREP).bel (unhide HBW1)))
      obtain⟨sx,hsx⟩:=get_kl (unhide HMA).skey hgx
      obtain⟨_,hgxv⟩:=(unhide HMA).2 _ hsx
      have hsxv:Sp.sz f xv≤1000000:=Nat.le_trans (Sp.mem_costs hsx) (unhide HCA)
      have HYV:=hide hyv
      have HGX:=hide (show Sp.gd d x f (lv+1) xv from hgxv)
      have HSX:=hide hsxv
      clear hyv hgx L1 hsx hgxv hsxv
      cases hveq:veq xv y with
      | true =>
       rw[hveq] at HSAME hfa
       clear hk0
       go_wp2_with (first|(at_lookup;refine wpList_look rfl _ _ 109 true rfl _ _ _ rfl rfl (unhide L2) ?_)|fail)
       refine (unhide HSAME).mono ?_
       rintro e w2 ⟨rfl,hb2⟩
       have hrg2:=(unhide HRG1).kept (grown_of_below hb2) (by simp) (by simp)
       have HM2:=hide (And.intro (fate_skip ((unhide HM1').low hb2) (unhide HLT) (unhide HB) (by rw[hfa];rfl)) (fun k (h1:Maps.has (.map bs:DataW Unit) k=true) (h2:(left k && !k.sameKey kl)=false)=>show fate f xs bs k≠none by
        by_cases hkl:k=kl
        ·subst hkl
         rw[hfa];simp
        ·refine unhide HOK k h1 ?_
         rw[mgKey_ne hkl] at h2
         simpa using h2))
       clear hfa hb2 HSAME
       go_wp2_with (fail)
       go_roundw
       case rel=>exact⟨_,cnt1,hrg2,HM2⟩
       case measure=>rw[hrg2.left_eq,hrg.left_eq];exact unhide HLT
      | false =>
       rw[hveq] at HSAME hfa
       cases hn:Sp.isNull y with
       | true =>
        rw[hn] at hk0 hfa
        have ek:(pk == 0)=true:=by simpa using hk0
        have HEND:=hide (unhide HNEV (by rw[hfa];rfl))
        clear hk0 hfa
        go_wp2_with (first|(at_lookup;refine wpList_look rfl _ _ 109 true rfl _ _ _ rfl rfl (unhide L2) ?_)|fail)
        refine (unhide HSAME).mono ?_
        rintro e w2 ⟨rfl,hb2⟩
        have ck2:w2.cell? ⟨pb,0,none⟩=some (.int .i64 pk):=(hb2.cell (p:=⟨pb,0,none⟩) (World.block_lt_of_cell? w1 _ ck)).trans ck
        have HB3:=hide ((unhide HBW1).trans (hb2.mono (unhide HBW1).size))
        clear hb2 HSAME
        go_wp2_with (fail)
        show Q (.returned (.tuple #[.pointer none,.bool false])) _
        rw[unhide HQ]
        refine⟨unhide HB3,?_⟩
        rw[unhide HEND]
       | false =>
        rw[hn] at hk0 hfa
        have ek:(pk == 0)=false:=by simpa using hk0
        have HC:=hide (fun (w2:World) (hb2:Below w1.heap.size w1 w2)=>unhide HS g0 (lv+1) F F' w2 yv _ xv y hg0f (src_of (by rw[← hg0f];exact ((unhide HYV).bel (unhide HBW1)).bel hb2)) (mems_ok (by rw[← hg0f];exact unhide HGX)).1 (Nat.le_trans (mems_ok (by rw[← hg0f];exact unhide HGX)).2 (by rw[← hg0f];exact unhide HSX)) (((unhide HREP).bel (unhide HBW1)).bel hb2) (fun k hk=>by have:=unhide HFT k hk;have:=(unhide HBW1).size;have:=hb2.size;omega) (unhide HGY) (unhide HSY))
        clear hk0
        go_wp2_with (first|(at_lookup;refine wpList_look rfl _ _ 109 true rfl _ _ _ rfl rfl (unhide L2) ?_)|fail)
        refine (unhide HSAME).mono ?_
        rintro e w2 ⟨rfl,hb2⟩
        have ck2:w2.cell? ⟨pb,0,none⟩=some (.int .i64 pk):=(hb2.cell (p:=⟨pb,0,none⟩) (World.block_lt_of_cell? w1 _ ck)).trans ck
        have HB2:=hide hb2
        clear hb2 HSAME
        go_wp2_with (fail)
        refine (unhide HC _ (unhide HB2)).mono ?_
        rintro e w3 ⟨hb3,he⟩
        cases hm:Sp.mdf f xv y with
        | none =>
         rw[hm] at he hfa
         obtain rfl:e = .returned (.tuple #[.pointer none,.bool false]):=he
         have HEND:=hide (unhide HNEV (by rw[hfa];rfl))
         have HB3:=hide ((unhide HBW1).trans (((unhide HB2).trans (hb3.mono (unhide HB2).size)).mono (unhide HBW1).size))
         clear hfa hb3 HC
         go_wp2_with (fail)
         show Q (.returned (.tuple #[.pointer none,.bool false])) _
         rw[unhide HQ]
         refine⟨unhide HB3,?_⟩
         rw[unhide HEND]
        | some z =>
         rw[hm] at he hfa
         obtain⟨p,rfl,hz⟩:=he
         obtain⟨w4,hrun,hrg4,hM4,hok4⟩:=unhide HFIN xv _ w3 p z (unhide HB2) hb3 (by rw[hfa];rfl) hz
         have HM4:=hide (And.intro hM4 hok4)
         clear hfa hb3 HC hz hM4 hok4
         go_wp2_with (fail)
         go_roundw
         case rel=>exact⟨_,cnt1,hrg4,HM4⟩
         case measure=>rw[hrg4.left_eq,hrg.left_eq];exact unhide HLT
end
end
end Go.Proofs.YtdpomdelmdofmaaGreatDoor
