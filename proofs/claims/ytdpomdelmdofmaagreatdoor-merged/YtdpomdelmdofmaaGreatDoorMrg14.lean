/-
  Walk of slices.EqualFunc at the program's Same.
-/
import Derived.Test.YtdpomdelmdofmaaGreatDoorMrg13
import Derived.Maps.RangeWalk
import Derived.Maps.Ext
import Derived.Sort.MapsRangeIn
namespace Go.Proofs.YtdpomdelmdofmaaGreatDoor
section
set_option maxRecDepth 100000
set_option maxHeartbeats 8000000
open Go.RowKit
def SameOk (f:Nat):Prop:=∀ (F F':Nat→Prop) (w:World) (v v':Value) (a b:Sp.V),Rep f F w v a→Rep f F' w v' b→Calls Tryz.prog 82 #[v,v'] w fun e w'=>e = .returned (.bool (veq a b))∧Below w.heap.size w w'
theorem Rep.bel {f:Nat} {F:Nat→Prop} {w w':World} {v:Value} {d:Sp.V} (h:Rep f F w v d) (hb:Below w.heap.size w w'):Rep f F w' v d:=h.move fun k h1 h2=>⟨hb.block k h2,h1⟩
theorem slice_nil {w:World} {B e n:Nat} {v:Value} {xs:List Value} (h:w.ownsRow B e 1 v n xs) (h0:n=0):∃a c,v = .slice a 0 c:=by
 rcases h.2 with⟨e,_⟩|⟨g,cap,cur,e,_⟩
 ·exact⟨none,0,e⟩
 ·exact⟨_,cap,by rw[e,h0]⟩
theorem slice_form {w:World} {B e n:Nat} {v:Value} {xs:List Value} (h:w.ownsRow B e 1 v n xs):∃a c,v = .slice a n c:=by
 rcases h.2 with⟨e,h0⟩|⟨g,cap,cur,e,_⟩
 ·exact⟨none,0,by rw[e,h0]⟩
 ·exact⟨_,cap,e⟩
theorem eqS_any {f:Nat} (hS:SameOk f) {w:World} {F F':Nat→Prop} {B B':Nat} {sl sl':Value} {ps ps':List Value} {es es':List Sp.V} (ho:w.ownsRow B 80 1 sl ps.length ps) (ho':w.ownsRow B' 80 1 sl' ps'.length ps')
  (ha:Al (Rep f F w) ps es) (ha':Al (Rep f F' w) ps' es') (hmx:ps.length≤maxLen) (hmx':ps'.length≤maxLen) :
  Calls Tryz.prog 112 #[sl,sl',.func (.func 82) #[] #[]] w fun e w'=>e = .returned (.bool (veq (Sp.vArr es) (Sp.vArr es')))∧Below w.heap.size w w':=by
 have hl:=ha.length
 have hl':=ha'.length
 obtain⟨N,hN⟩:∃N,N=ps.length:=⟨_,rfl⟩
 obtain⟨N',hN'⟩:∃N',N'=ps'.length:=⟨_,rfl⟩
 have hn1:(N:Int)≤9223372036854775807:=by unfold maxLen at hmx;omega
 have hn2:(N':Int)≤9223372036854775807:=by unfold maxLen at hmx';omega
 by_cases hne:N=N'
 ·by_cases h0:N=0
  ·obtain⟨a,c,rfl⟩:=slice_nil ho (by omega)
   obtain⟨a',c',rfl⟩:=slice_nil ho' (by omega)
   have e1:es=[]:=List.eq_nil_of_length_eq_zero (by omega)
   have e2:es'=[]:=List.eq_nil_of_length_eq_zero (by omega)
   have HV:=hide (veq_t (show Sp.vArr es=Sp.vArr es' by rw[e1,e2]))
   rw[← hN,h0] at ho
   rw[← hN',← hne,h0] at ho'
   clear ho ho' ha ha' hl hl' e1 e2 hS hN hN' hne
   go_enter Tryz.func112,Tryz.ntmps112
   go_wp2_with (fail)
   refine wp_loop_rounds 1 ?_
   rw[rounds_succ]
   go_wp2_with (fail)
   go_ret
   exact⟨by rw[unhide HV];rfl,Below.refl _ _⟩
  ·obtain⟨g1,p1,rfl,a1,b1,l1,hc1⟩:=owns_cell1 ho (by omega)
   obtain⟨g2,p2,rfl,a2,b2,l2,hc2⟩:=owns_cell1 ho' (by omega)
   have HC1:=hide hc1
   have HC2:=hide hc2
   have HA:=hide ha
   have HA':=hide ha'
   have HS:=hide hS
   have HN:=hide hN
   have HN':=hide hN'
   have HL:=hide hl
   have HL':=hide hl'
   rw[← hN] at a1 ⊢
   rw[← hN'] at a2 ⊢
   subst hne
   clear ho ho' ha ha' hl hl' hS hN hN' hc1 hc2 h0
   go_enter Tryz.func112,Tryz.ntmps112
   go_wp2_with (fail)
   go_loopw [17] (fun i wr=>∃k:Nat,k≤N∧i = .int .i64 k∧es.take k=es'.take k∧Below w.heap.size w wr) (fun i _=>N-(intOf i).toNat)
   case atStart=>exact⟨0,by omega,rfl,by simp,Below.refl _ _⟩
   case round =>
    obtain⟨k,hk,rfl,heq,hb⟩:=hrel
    have HEQ:=hide heq
    have HB:=hide hb
    clear heq
    by_cases hlt:k<N
    ·have h1:k<ps.length:=by have:=unhide HN;omega
     have h2:k<ps'.length:=by have:=unhide HN';omega
     have h3:k<es.length:=by have:=unhide HL;omega
     have h4:k<es'.length:=by have:=unhide HL';omega
     have q1:=(hb.cell (p:=⟨g1,k,none⟩) l1).trans (unhide HC1 k h1)
     have q2:=(hb.cell (p:=⟨g2,k,none⟩) l2).trans (unhide HC2 k h2)
     have hcall:=hide (unhide HS F F' wr ps[k] ps'[k] es[k] es'[k] (((unhide HA).get k h1 h3).bel hb) (((unhide HA').get k h2 h4).bel hb))
     have hst:es.take (k+1)=es'.take (k+1)↔es[k]=es'[k]:=by
      rw[List.take_succ_eq_append_getElem h3,List.take_succ_eq_append_getElem h4,unhide HEQ]
      exact⟨fun h=>List.singleton_inj.1 (List.append_cancel_left h),fun h=>by rw[h]⟩
     have HST:=hide hst
     generalize ps[k]=pk at *
     generalize ps'[k]=pk' at *
     clear hst hb
     go_wp2_with (fail)
     refine (unhide hcall).mono ?_
     rintro e w2 ⟨rfl,hb2⟩
     have HB2:=hide ((unhide HB).trans (hb2.mono (unhide HB).size))
     clear hb2 hcall
     by_cases hee:es[k]=es'[k]
     ·rw[veq_t hee]
      have HST2:=hide ((unhide HST).2 hee)
      clear hee
      go_wp2_with (fail)
      exact⟨⟨k+1,by omega,by go_num,unhide HST2,unhide HB2⟩,by simp only[intOf];omega⟩
     ·rw[veq_f hee]
      have HV:=hide (veq_f (a:=Sp.vArr es) (b:=Sp.vArr es') (fun h=>by
       have h5:es=es':=by unfold Sp.vArr at h;injection h
       exact hee (by subst h5;rfl)))
      clear hee
      go_wp2_with (fail)
      go_ret
      exact⟨by rw[unhide HV];rfl,unhide HB2⟩
    ·have HV:=hide (veq_t (show Sp.vArr es=Sp.vArr es' by
      have h5:=unhide HEQ
      rw[List.take_of_length_le (by have:=unhide HN;have:=unhide HL;omega),List.take_of_length_le (by have:=unhide HN';have:=unhide HL';omega)] at h5
      rw[h5]))
     go_wp2_with (fail)
     go_ret
     exact⟨by rw[unhide HV];rfl,hb⟩
 ·obtain⟨a,c,rfl⟩:=slice_form ho
  obtain⟨a',c',rfl⟩:=slice_form ho'
  have HV:=hide (veq_f (a:=Sp.vArr es) (b:=Sp.vArr es') (fun h=>by
   have h5:es=es':=by unfold Sp.vArr at h;injection h
   rw[h5] at hl
   omega))
  have e0:((N:Int) == (N':Int))=false:=by rw[beq_eq_false_iff_ne];omega
  have e1:((N:Int) != (N':Int))=true:=by rw[bne_iff_ne];omega
  rw[← hN,← hN']
  clear ho ho' ha ha' hl hl' hS hN hN' hne
  go_enter Tryz.func112,Tryz.ntmps112
  go_wp2_with (fail)
  go_ret
  exact⟨by rw[unhide HV];rfl,Below.refl _ _⟩
end

section
open Go.RowKit Go.Maps
theorem sub_turn {α:Type}:∀ {l m:List α},l.Pairwise (· ≠ ·)→(∀x∈l,x∈m)→m.length≤l.length → ∀x∈m,x∈l
 | [],m,_,_,h,x,hx=>by
  have:m=[]:=List.eq_nil_of_length_eq_zero (by simpa using h)
  rw[this] at hx;exact hx
 | a::l,m,hp,hs,h,x,hx=>by
  obtain⟨h1,h2⟩:=List.pairwise_cons.1 hp
  obtain⟨m1,m2,rfl⟩:=List.append_of_mem (hs a (List.mem_cons_self ..))
  have ih:=sub_turn (l:=l) (m:=m1++m2) h2 (fun y hy=>by
   have h3:=hs y (List.mem_cons_of_mem _ hy)
   have h4:=h1 y hy
   simp only[List.mem_append,List.mem_cons] at h3 ⊢
   rcases h3 with h3|h3|h3
   ·exact Or.inl h3
   ·exact absurd h3.symm h4
   ·exact Or.inr h3) (by simp only[List.length_append,List.length_cons] at h ⊢; omega)
  simp only[List.mem_append,List.mem_cons] at hx ⊢
  rcases hx with hx|hx|hx
  ·exact Or.inr (ih x (by simp[hx]))
  ·exact Or.inl hx
  ·exact Or.inr (ih x (by simp[hx]))
theorem Pt.fsts {P:Value→Sp.V→Prop}:∀ {l:List (Lit×DataW Value)} {m:List (Lit×Sp.V)},Pt P l m→l.map Prod.fst=m.map Prod.fst
 | [],[],_=>rfl
 | a::_,b::_,⟨⟨k,_⟩,t⟩=>by
  have:=Pt.fsts t
  simp only[List.map_cons]
  rw[k,this]
theorem Pt.size {P:Value→Sp.V→Prop} {l:List (Lit×DataW Value)} {m:List (Lit×Sp.V)} (h:Pt P l m):l.length=m.length:=by
 have:=congrArg List.length h.fsts
 simpa using this
theorem atKey_def {H:Type} (es:List (Lit×DataW H)) (k:Lit) (z:DataW H):(DataW.map es).atKey k z=(match es.find? (fun p=>p.1.sameKey k) with|some p=>p.2|none=>z):=rfl
theorem find_yes {α:Type} {p:Lit×α→Bool} {a:Lit×α} {l:List (Lit×α)} (h:p a=true):(a::l).find? p=some a:=List.find?_cons_of_pos h
theorem find_no {α:Type} {p:Lit×α→Bool} {a:Lit×α} {l:List (Lit×α)} (h:¬ p a=true):(a::l).find? p=l.find? p:=List.find?_cons_of_neg h
theorem Pt.at {P:Value→Sp.V→Prop} (k:Lit):∀ {l:List (Lit×DataW Value)} {m:List (Lit×Sp.V)},Pt P l m→Maps.has (.map l) k=true → ∃x,(∀z,(DataW.map l).atKey k z = .held x)∧P x ((DataW.map m).atKey k .nil)
 | [],[],_,h=>by cases h
 | a::r,b::s,⟨⟨kk,x,e,g⟩,t⟩,h=>by
  by_cases hk:a.1.sameKey k=true
  ·refine⟨x,fun z=>?_,?_⟩
   ·rw[atKey_def,find_yes (p:=fun p=>p.1.sameKey k) hk];exact e
   ·rw[atKey_def,find_yes (p:=fun p=>p.1.sameKey k) (by rw[← kk];exact hk)];exact g
  ·have h2:Maps.has (.map r) k=true:=by
    have h3:(a.1.sameKey k || r.any fun p=>p.1.sameKey k)=true:=h
    rw[Bool.eq_false_iff.2 hk,Bool.false_or] at h3
    exact h3
   obtain⟨x',e1,e2⟩:=Pt.at k t h2
   refine⟨x',fun z=>?_,?_⟩
   ·rw[atKey_def,find_no (p:=fun p=>p.1.sameKey k) hk];exact e1 z
   ·rw[atKey_def,find_no (p:=fun p=>p.1.sameKey k) (by rw[← kk];exact hk)];exact e2
theorem Pt.canon {P:Value→Sp.V→Prop} {l:List (Lit×DataW Value)} {m:List (Lit×Sp.V)} (h:Pt P l m) (c:Maps.Canon (.map l:DataW Value)):Maps.Canon (.map m:DataW Unit):=by
 obtain⟨es,he,hp,hk⟩:=c
 injection he with he
 subst he
 refine⟨m,rfl,?_,?_⟩
 ·have h1:(l.map Prod.fst).Pairwise (fun a b=>a.before b=true):=List.pairwise_map.2 hp
  rw[h.fsts] at h1
  exact List.pairwise_map.1 h1
 ·intro p hp2
  have h1:p.1∈l.map Prod.fst:=by rw[h.fsts];exact List.mem_map.2 ⟨p,hp2,rfl⟩
  obtain⟨q,hq,e⟩:=List.mem_map.1 h1
  rw[← e];exact hk q hq
theorem obj_same {es es':List (Lit×Sp.V)} (c:Maps.Canon (.map es:DataW Unit)) (c':Maps.Canon (.map es':DataW Unit)) (hl:es.length=es'.length)
  (h:∀k,Maps.has (.map es:DataW Unit) k=true→Maps.has (.map es':DataW Unit) k=true∧(DataW.map es).atKey k .nil=(DataW.map es').atKey k .nil):Sp.vObj es=Sp.vObj es':=by
 obtain⟨_,he,hp,hk⟩:=c
 injection he with he
 subst he
 obtain⟨_,he,hp',hk'⟩:=c'
 injection he with he
 subst he
 have hap:=apart_of_rising hp
 have hap':=apart_of_rising hp'
 have hsub:∀p∈es,p∈es':=fun p hpm=>by
  have h1:Maps.has (.map es:DataW Unit) p.1=true:=List.any_eq_true.2 ⟨p,hpm,WideAt.sameKey_self (hk p hpm)⟩
  obtain⟨h2,h3⟩:=h p.1 h1
  obtain⟨q,hq,hs⟩:=List.any_eq_true.1 (show es'.any (fun q=>q.1.sameKey p.1)=true from h2)
  have e1:q.1=p.1:=WideAt.sameKey_eq hs
  have e2:=WideAt.atKey_mem .nil (hk p hpm) hap (show (p.1,p.2)∈es from hpm)
  have e3:=WideAt.atKey_mem .nil (hk' q hq) hap' (show (q.1,q.2)∈es' from hq)
  rw[e1] at e3
  rw[e2,e3] at h3
  have:p=q:=Prod.ext e1.symm h3
  rw[this];exact hq
 have hne:es.Pairwise (· ≠ ·):=hap.imp (fun h e=>h (congrArg Prod.fst e))
 have hback:=sub_turn hne hsub (by omega)
 unfold Sp.vObj
 rw[eq_of_mem_rising hp hp' (fun p=>⟨hsub p,hback p⟩)]
theorem obj_ne {es es':List (Lit×Sp.V)} {k:Lit} (h1:Maps.has (.map es:DataW Unit) k=true) (h:Maps.has (.map es':DataW Unit) k=true→(DataW.map es).atKey k .nil≠(DataW.map es').atKey k .nil):Sp.vObj es≠Sp.vObj es':=by
 intro e
 unfold Sp.vObj at e
 injection e with e
 subst e
 exact h h1 rfl
end

section
set_option maxRecDepth 100000
set_option maxHeartbeats 8000000
open Go.RowKit Go.Maps
def Came (es es':List (Lit×Sp.V)) (left:Lit→Bool):Prop :=
 ∀k,Maps.has (.map es:DataW Unit) k=true→left k=false→Maps.has (.map es':DataW Unit) k=true∧(DataW.map es).atKey k .nil=(DataW.map es').atKey k .nil
theorem Came.step {es es':List (Lit×Sp.V)} {left:Lit→Bool} {kl:Lit} (h:Came es es' left) (h2:Maps.has (.map es':DataW Unit) kl=true) (h3:(DataW.map es).atKey kl .nil=(DataW.map es').atKey kl .nil):Came es es' (fun z=>left z && !z.sameKey kl):=by
 intro k hk hl
 cases h4:left k
 ·exact h k hk h4
 ·have h5:(left k && !k.sameKey kl)=false:=hl
  rw[h4] at h5
  have:k=kl:=WideAt.sameKey_eq (by simpa using h5)
  subst this
  exact⟨h2,h3⟩
theorem below_of_grown {w w':World} (h:w.grownBy w' none):Below w.heap.size w w':=(Below.refl _ _).grown h (Nat.le_refl _) (fun j hj=>by cases hj)
theorem grown_of_below {w w':World} (h:Below w.heap.size w w'):w.grownBy w' none:=⟨h.os,h.tape,h.output,h.size,fun i hi _=>h.block i hi⟩
theorem rv_held {v x:Value} {d:DataW Value} {ps:List MemPlace} (h:RV v=some (d,ps)) (e:d = .held x):v=x∧ps=[]:=by
 have h1:=Option.some.inj h
 have h2:DataW.held v=d:=congrArg Prod.fst h1
 rw[e] at h2
 exact⟨by injection h2,(congrArg Prod.snd h1).symm⟩
theorem eqM_any {f:Nat} (hS:SameOk f) {w:World} {F F':Nat→Prop} {m m' n n':Nat} {D D':List (Lit×DataW Value)} {es es':List (Lit×Sp.V)} (ho:w.ownsMap Tryz.prog 9 RV m n (.map D)) (ho':w.ownsMap Tryz.prog 9 RV m' n' (.map D'))
  (hp:Pt (Rep f F w) D es) (hp':Pt (Rep f F' w) D' es') :
  Calls Tryz.prog 113 #[.map (some m),.map (some m'),.func (.func 82) #[] #[]] w fun e w'=>e = .returned (.bool (veq (Sp.vObj es) (Sp.vObj es')))∧Below w.heap.size w w':=by
 have hml:=mlaw
 have hmz:=mzero
 have l1:=fun ty=>ho.len (t:=109) Tryz.underlying109 ty
 have l2:=fun ty=>ho'.len (t:=109) Tryz.underlying109 ty
 have hmb:=ho'.lt
 have C1:=hide (hp.canon (ho.canon hml))
 have C2:=hide (hp'.canon (ho'.canon hml))
 have HP:=hide hp
 have HP':=hide hp'
 have HS:=hide hS
 have L1:=hide hp.size
 have L2:=hide hp'.size
 clear hp hp' hS
 by_cases hsz:Maps.size (.map D:DataW Value)=Maps.size (.map D':DataW Value)
 ·have HZ:=hide hsz
  go_enter Tryz.func113,Tryz.ntmps113
  go_wp2_with (first
   | (at_range;refine wpList_range_own _ rfl _ 109 rfl 9 80 hml Tryz.underlying109 RV m n _ rfl ho ?_;intro w0 hrg0 hg0 hs0)
   | go_in)
  go_frame
  go_loopw [18] (fun _ wr=>∃ (left:Lit→Bool) (cnt:Nat),wr.ranges Tryz.prog 9 RV m w.heap.size n (.map D) left cnt∧wr.ownsMap Tryz.prog 9 RV m' n' (.map D')∧w.grownBy wr none∧Hid (Came es es' left))
   (fun _ wr=>wr.rangeLeft m w.heap.size)
  case atStart =>
   refine⟨_,_,hrg0,ho'.kept hg0 (by simp),hg0,?_⟩
   intro k hk hl
   rw[(unhide HP).has k,hk] at hl
   cases hl
  case round =>
   obtain⟨left,cnt,hrg,h2r,hgw,G⟩:=hrel
   go_wp2_with (first
    | (at_next;refine wpList_next_ranges _ rfl _ rfl 9 hml RV id id (fun key _ _=>⟨key,rfl⟩) (fun v _ _=>⟨v,rfl⟩) m w.heap.size n _ _ _ rfl hrg ?_ ?_)
    | go_in)
   ·intro _ hl0
    have HV:=hide (veq_t (obj_same (unhide C1) (unhide C2) (by
     have h1:=unhide L1;have h2:=unhide L2;have h3:D.length=D'.length:=unhide HZ;omega) (fun k hk=>unhide G k hk (hl0 k))))
    go_wp2_with (fail)
    go_ret
    exact⟨by rw[unhide HV];rfl,below_of_grown hgw⟩
   ·intro x c kl yd yp w1 cnt1 hkey hlx hv hat hrg1 hlt hg1 hs1 hen
    have hgw1:w.grownBy w1 none:=hgw.andThen hg1 (fun j hj=>by cases hj;exact Or.inl (Nat.le_refl _))
    have h2w1:=h2r.kept hg1 (fun e=>by have:=Option.some.inj e;omega)
    have hv2:DataW.held c=yd:=congrArg Prod.fst (Option.some.inj hv)
    subst hv2
    have hasD:Maps.has (.map D) kl=true:=has_true_of_atKey hat
    obtain⟨c',e1,hrep⟩:=(unhide HP).at kl hasD
    have e2:c'=c:=by
     have e3:=(e1 .nil).symm.trans (hat .nil)
     injection e3
    subst e2
    have hasE:Maps.has (.map es:DataW Unit) kl=true:=by rw[← (unhide HP).has kl];exact hasD
    have HAT:=hide hat
    have HREP:=hide hrep
    have HHE:=hide hasE
    have HE1:=hide e1
    clear hat hrep hasE e1 hasD hv
    cases hh:Maps.has (.map D':DataW Value) kl
    ·have hbad:=hide (veq_f (obj_ne (unhide HHE) (fun h=>by
      rw[← (unhide HP').has kl,hh] at h;cases h)))
     go_wp2_with (first
      | (at_lookup;refine wpList_lookup_own_ok _ rfl _ _ 109 rfl 9 80 hml Tryz.underlying109 RV (hmz _) (.held (.pointer none)) [] rfl m' n' (.map D') rfl h2w1 _ kl rfl hkey ?_;intro v2 ps2 hv2;rw[hh];go_frame)
      | go_in)
     go_ret
     exact⟨by rw[unhide hbad];rfl,below_of_grown hgw1⟩
    ·obtain⟨c2,e4,hrep2⟩:=(unhide HP').at kl hh
     have hcall:=hide (unhide HS F F' w1 c' c2 _ _ ((unhide HREP).bel (below_of_grown hgw1)) (hrep2.bel (below_of_grown hgw1)))
     have hhE:Maps.has (.map es':DataW Unit) kl=true:=by rw[← (unhide HP').has kl];exact hh
     have HHE':=hide hhE
     clear hhE hrep2
     by_cases hee:(DataW.map es).atKey kl .nil=(DataW.map es').atKey kl .nil
     ·have hvt:=hide (veq_t hee)
      have HEE:=hide hee
      clear hee
      go_wp2_with (first
       | (at_lookup;refine wpList_lookup_own_ok _ rfl _ _ 109 rfl 9 80 hml Tryz.underlying109 RV (hmz _) (.held (.pointer none)) [] rfl m' n' (.map D') rfl h2w1 _ kl rfl hkey ?_;intro v2 ps2 hv2;rw[hh];obtain⟨rfl,_⟩:=rv_held hv2 (e4 _);go_frame;have hc:=unhide hcall;rw[unhide hvt] at hc)
       )
      refine hc.mono ?_
      rintro e w2 ⟨rfl,hb2⟩
      go_wp2_with (fail)
      have hrg2:=hrg1.kept (grown_of_below hb2) (by simp) (by simp)
      have hgw2:=hgw1.andThen (grown_of_below hb2) (fun j hj=>by cases hj)
      have h2w2:=h2w1.kept (grown_of_below hb2) (by simp)
      go_roundw
      case rel=>exact⟨_,cnt1,hrg2,h2w2,hgw2,(unhide G).step (unhide HHE') (unhide HEE)⟩
      case measure=>rw[hrg2.left_eq,hrg.left_eq];exact hlt
     ·have hvf:=hide (veq_f hee)
      have hbad:=hide (veq_f (obj_ne (es':=es') (unhide HHE) (fun _=>hee)))
      clear hee
      go_wp2_with (first
       | (at_lookup;refine wpList_lookup_own_ok _ rfl _ _ 109 rfl 9 80 hml Tryz.underlying109 RV (hmz _) (.held (.pointer none)) [] rfl m' n' (.map D') rfl h2w1 _ kl rfl hkey ?_;intro v2 ps2 hv2;rw[hh];obtain⟨rfl,_⟩:=rv_held hv2 (e4 _);go_frame;have hc:=unhide hcall;rw[unhide hvf] at hc)
       )
      refine hc.mono ?_
      rintro e w2 ⟨rfl,hb2⟩
      go_wp2_with (fail)
      go_ret
      exact⟨by rw[unhide hbad];rfl,below_of_grown (hgw1.andThen (grown_of_below hb2) (fun j hj=>by cases hj))⟩
 ·have hne:¬ ((Maps.size (.map D:DataW Value):Int)=(Maps.size (.map D':DataW Value):Int)):=fun e=>hsz (by exact_mod_cast e)
  have HV:=hide (veq_f (a:=Sp.vObj es) (b:=Sp.vObj es') (fun e=>by
   unfold Sp.vObj at e
   injection e with e
   have h1:=unhide L1;have h2:=unhide L2
   rw[e] at h1
   exact hsz (show D.length=D'.length by omega)))
  go_enter Tryz.func113,Tryz.ntmps113
  go_wp2_with (fail)
  go_ret
  exact⟨by rw[unhide HV];rfl,Below.refl _ _⟩
end

section
set_option maxHeartbeats 4000000
open Go.RowKit Go.Maps
theorem owns_max {w:World} {B e n:Nat} {v:Value} {xs:List Value} (h:w.ownsRow B e 1 v n xs):n≤maxLen:=by
 rcases h.2 with⟨_,h0⟩|⟨g,cap,cur,_,_,_,h4,h5,_⟩
 ·rw[h0];exact Nat.zero_le _
 ·omega
section
variable {w:World} {b b':Nat}
theorem same_arr {f:Nat} (hS:SameOk f) {F F':Nat→Prop} {sl sl':Value} {ps ps':List Value} {es es':List Sp.V} (h:VB w b 5 n0 [] sl (.map none)) (h':VB w b' 5 n0 [] sl' (.map none))
  (ho:w.ownsRow 0 80 1 sl ps.length ps) (ho':w.ownsRow 0 80 1 sl' ps'.length ps') (ha:Al (Rep f F w) ps es) (ha':Al (Rep f F' w) ps' es') :
  Calls Tryz.prog 82 #[.pointer (some ⟨b,0,none⟩),.pointer (some ⟨b',0,none⟩)] w fun e w'=>e = .returned (.bool (veq (Sp.vArr es) (Sp.vArr es')))∧Below w.heap.size w w':=by
 have c0:=h.c0
 have d0:=h'.c0
 have c5:=h.c5
 have d5:=h'.c5
 have hc:=hide (show ∀w1:World,Below w.heap.size w w1→Calls Tryz.prog 112 #[sl,sl',.func (.func 82) #[] #[]] w1 fun e w'=>e = .returned (.bool (veq (Sp.vArr es) (Sp.vArr es')))∧Below w1.heap.size w1 w' from fun w1 hb =>
  eqS_any hS (owns_kept ho (fun g hg=>hb.block g (owns_lt ho g hg).1)) (owns_kept ho' (fun g hg=>hb.block g (owns_lt ho' g hg).1)) (ha.mono fun _ _ h=>h.bel hb) (ha'.mono fun _ _ h=>h.bel hb) (owns_max ho) (owns_max ho'))
 clear h h' ho ho' ha ha' hS
 generalize veq (Sp.vArr es) (Sp.vArr es')=r at *
 go_enter Tryz.func82,Tryz.ntmps82
 go_wp2_with (fail)
 go_quiet (fail)
 go_wp2_with (fail)
 go_region_with (go_at_call 112;refine (unhide hc _ ?_).mono ?_;exact⟨rfl,rfl,rfl,Nat.le_refl _,fun _ _=>rfl⟩;rintro e w2 ⟨rfl,hb⟩)
 all_goals (
  replace hb:Below w.heap.size w w2:=⟨hb.os,hb.tape,hb.output,hb.size,hb.block⟩
  go_wp2_with (fail)
  go_ret
  exact⟨rfl,hb⟩)
theorem same_obj {f:Nat} (hS:SameOk f) {F F':Nat→Prop} {m m' n n':Nat} {D D':List (Lit×DataW Value)} {es es':List (Lit×Sp.V)} (h:VB w b 6 n0 [] (.slice none 0 0) (.map (some m))) (h':VB w b' 6 n0 [] (.slice none 0 0) (.map (some m')))
  (ho:w.ownsMap Tryz.prog 9 RV m n (.map D)) (ho':w.ownsMap Tryz.prog 9 RV m' n' (.map D')) (hp:Pt (Rep f F w) D es) (hp':Pt (Rep f F' w) D' es') :
  Calls Tryz.prog 82 #[.pointer (some ⟨b,0,none⟩),.pointer (some ⟨b',0,none⟩)] w fun e w'=>e = .returned (.bool (veq (Sp.vObj es) (Sp.vObj es')))∧Below w.heap.size w w':=by
 have c0:=h.c0
 have d0:=h'.c0
 have c6:=h.c6
 have d6:=h'.c6
 have hc:=hide (show ∀w1:World,Below w.heap.size w w1→Calls Tryz.prog 113 #[.map (some m),.map (some m'),.func (.func 82) #[] #[]] w1 fun e w'=>e = .returned (.bool (veq (Sp.vObj es) (Sp.vObj es')))∧Below w1.heap.size w1 w' from fun w1 hb =>
  eqM_any hS (map_kept ho (hb.block m (map_lt ho))) (map_kept ho' (hb.block m' (map_lt ho'))) (hp.mono fun _ _ h=>h.bel hb) (hp'.mono fun _ _ h=>h.bel hb))
 clear h h' ho ho' hp hp' hS
 generalize veq (Sp.vObj es) (Sp.vObj es')=r at *
 go_enter Tryz.func82,Tryz.ntmps82
 go_wp2_with (fail)
 go_quiet (fail)
 go_wp2_with (fail)
 go_region_with (go_at_call 113;refine (unhide hc _ ?_).mono ?_;exact⟨rfl,rfl,rfl,Nat.le_refl _,fun _ _=>rfl⟩;rintro e w2 ⟨rfl,hb⟩)
 all_goals (
  replace hb:Below w.heap.size w w2:=⟨hb.os,hb.tape,hb.output,hb.size,hb.block⟩
  go_wp2_with (fail)
  go_ret
  exact⟨rfl,hb⟩)
end
theorem vNum_inj {n n':Sp.Nm} (h:Sp.vNum n=Sp.vNum n'):n=n':=by
 obtain⟨a,b,c⟩:=n
 obtain⟨a',b',c'⟩:=n'
 simp only[Sp.vNum,DataW.agg.injEq,List.cons.injEq,DataW.lit.injEq,Lit.bool.injEq,Lit.string.injEq,Lit.int.injEq] at h
 obtain⟨h1,h2,h3,_⟩:=h
 rw[h1,h2,h3.2]
theorem veq_num (n n':Sp.Nm):veq (Sp.vNum n) (Sp.vNum n')=decide (n=n'):=by
 by_cases h:n=n'
 ·rw[veq_t (by rw[h]),decide_eq_true h]
 ·rw[veq_f (fun e=>h (vNum_inj e)),decide_eq_false h]
theorem veq_str (s s':Sp.By):veq (Sp.vStr s) (Sp.vStr s')=(s == s'):=by
 by_cases h:s=s'
 ·rw[veq_t (by rw[h]),beq_iff_eq.2 h]
 ·rw[veq_f (fun e=>h (by unfold Sp.vStr at e;injection e with e;injection e)),beq_eq_false_iff_ne.2 h]
theorem same_step {f:Nat} (hS:SameOk f):SameOk (f+1):=by
 intro F F' w v v' a b ha hb
 obtain⟨p,rfl,_,ha⟩:=ha
 obtain⟨p',rfl,_,hb⟩:=hb
 rcases ha with⟨k,hk,rfl,h⟩|⟨n,rfl,h,_⟩|⟨s,rfl,h⟩|⟨es,sl,ps,rfl,h,ho,_,hal⟩|⟨es,m,n,D,rfl,h,_,ho,hp⟩ <;>
  rcases hb with⟨k',hk',rfl,h'⟩|⟨n',rfl,h',_⟩|⟨s',rfl,h'⟩|⟨es',sl',ps',rfl,h',ho',_,hal'⟩|⟨es',m',n',D',rfl,h',_,ho',hp'⟩
 case inl.inl =>
  by_cases e:k=k'
  ·subst e
   rw[veq_t rfl]
   exact same_word hk h h'
  ·rw[veq_f (fun e1=>e (by unfold Sp.vWord at e1;injection e1 with e1;injection e1 with _ e1;omega))]
   exact same_diff h h' (by omega)
 case inr.inl.inr.inl=>rw[veq_num];exact same_num h h'
 case inr.inr.inl.inr.inr.inl=>rw[veq_str];exact same_str h h'
 case inr.inr.inr.inl.inr.inr.inr.inl=>exact same_arr hS h h' ho ho' hal hal'
 case inr.inr.inr.inr.inr.inr.inr.inr=>exact same_obj hS h h' ho ho' hp hp'
 all_goals (
  rw[veq_f (by intro e;simp[Sp.vWord,Sp.vNum,Sp.vStr,Sp.vArr,Sp.vObj] at e)]
  exact same_diff h h' (by omega))
theorem Same_any:∀f,SameOk f
 | 0=>fun _ _ _ _ _ _ _ h=>h.elim
 | f+1=>same_step (Same_any f)
end

section
open Go.RowKit Go.Maps
namespace Sp
def pos (d:V) (t:By):Option Nat:=match d with
 | .map es=>es.findIdx? (fun p=>p.1.sameKey (.string t))
 | .slice es _=>match idx t with
  | none=>none
  | some i=>if i<es.length then some i else none
 | _=>none
def vkids (d:V):List V:=match d with
 | .map es=>es.map Prod.snd
 | .slice es _=>es
 | _=>[]
def posn:V→List By→Option (List Nat)
 | _,[]=>some []
 | d,t::r=>match pos d t with
  | none=>none
  | some i=>match (vkids d)[i]? with
   | none=>none
   | some e=>(posn e r).map (i :: ·)
def slot (n:Nat) (t:By):Except Nat Nat :=
 if t=[45] then .ok n else match idx t with
  | none=>.error 12
  | some i=>if n<i then .error 11 else .ok i
def lins {α:Type} (i:Nat) (c:α) (l:List α):List α:=l.take i++c::l.drop i
def ldel {α:Type} (i:Nat) (l:List α):List α:=l.take i++l.drop (i+1)
def mput {α:Type} (k:Lit) (c:DataW α) (es:List (Lit×DataW α)):List (Lit×DataW α):=DataW.insert (k,c) (es.filter fun p=>!p.1.sameKey k)
def mdel {α:Type} (k:Lit) (es:List (Lit×DataW α)):List (Lit×DataW α):=es.filter fun p=>!p.1.sameKey k
def ved (F:List V→List V) (G:List (Lit×V)→List (Lit×V)) (d:V):V:=match d with
 | .slice es y=>.slice (F es) y
 | .map es=>.map (G es)
 | d=>d
def insV (i:Nat) (k:By) (x:V):V→V:=ved (lins i x) (mput (.string k) x)
def remV (i:Nat) (k:By):V→V:=ved (ldel i) (mdel (.string k))
def setV (i:Nat) (k:By) (x:V):V→V:=ved (fun es=>es.set i x) (mput (.string k) x)
def vkid (i:Nat) (x:V) (d:V):V:=match d with
 | .slice es y=>.slice (es.set i x) y
 | .map es=>.map (es.modify i fun p=>(p.1,x))
 | d=>d
def vput:List Nat→V→V→V
 | [],x,_=>x
 | i::r,x,d=>match (vkids d)[i]? with
  | some e=>vkid i (vput r x e) d
  | none=>d
def dmax:List Int→Int
 | []=>0
 | x::r=>max x (dmax r)
def dep:Nat→V→Int
 | 0,_=>0
 | f+1,d=>match d with
  | .slice es _=>1+dmax (es.map (dep f))
  | .map es=>1+dmax (es.map fun p=>dep f p.2)
  | _=>1
end Sp
end
end Go.Proofs.YtdpomdelmdofmaaGreatDoor
