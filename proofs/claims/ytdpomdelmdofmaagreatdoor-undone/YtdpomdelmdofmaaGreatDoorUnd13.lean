import Derived.Test.YtdpomdelmdofmaaGreatDoorUnd12
import Derived.Maps.Range
import Derived.Maps.RangeWalk
import Derived.Maps.Ext
import Derived.Sort.MapsRangeIn
namespace Go.Proofs.YtdpomdelmdofmaaGreatDoor
open Go.Proofs.Tryz
section
set_option maxHeartbeats 4000000
open Go.RowKit
theorem BF{w:World}{B e n:Nat}{v:Value}{xs:List Value}(h:w.ownsRow B e 1 v n xs)(hpos:0<n):∃g cap,v = .slice (some ⟨g,0,none⟩) n cap/\n<=cap/\cap<=maxLen/\g<w.heap.size /\ ∀k (hk:k<xs.length),w.cell? ⟨g,k,none⟩=some xs[k]:=by
 obtain⟨hlen,h⟩:=h;rcases h with⟨_,h0⟩|⟨g,cap,cur,h1,_,h3,h4,h5,h6,h7⟩
 ·omega
 ·refine⟨g,cap,h1,h4,h5,(Array.getElem?_eq_some_iff.1 h3).1,fun k hk=>?_⟩;have hkc:k<cur.size:=by rw[h6];omega
  have e:w.cell? ⟨g,k,none⟩=cur[k]?:=by simp[World.cell?,h3]
  rw[e,Array.getElem?_eq_getElem hkc];congr 1;have h8:xs[k]? = some cur[k]:=by
   rw[<- h7,List.getElem?_take,if_pos (by omega)];simp
  rw[List.getElem?_eq_getElem hk] at h8;exact (Option.some.inj h8).symm
section
variable{w:World}{b b':Nat}
theorem K5{k k':Int}{n n':Sp.Nm}{s s':Sp.By}{sl sl' mp mp':Value}(h:VB w b k n s sl mp)(h':VB w b' k' n' s' sl' mp')(hk:k≠k') :
  Calls Tryz.prog 82 #[.pointer (some ⟨b,0,none⟩),.pointer (some ⟨b',0,none⟩)] w fun e w'=>e = .returned (.bool false)/\Below w.heap.size w w':=by
 have c0:=h.c0;have d0:=h'.c0;have e0:(k == k')=false:=beq_eq_false_iff_ne.2 hk;have e1:(k != k')=true:=by simpa using hk
 clear h h' hk
 go_enter func82,ntmps82
 go_wp2_with (fail)
 go_quiet (fail)
 go_wp2_with (fail)
 go_ret;exact⟨rfl,⟨rfl,rfl,rfl,Nat.le_refl _,fun _ _=>rfl⟩⟩
theorem Rb{k:Nat}(hk:k<3){n n':Sp.Nm}{s s':Sp.By}{sl sl' mp mp':Value}(h:VB w b k n s sl mp)(h':VB w b' k n' s' sl' mp') :
  Calls Tryz.prog 82 #[.pointer (some ⟨b,0,none⟩),.pointer (some ⟨b',0,none⟩)] w fun e w'=>e = .returned (.bool true)/\Below w.heap.size w w':=by
 have c0:=h.c0;have d0:=h'.c0;clear h h';have e3:((k:Int) == 3)=false:=by rw[beq_eq_false_iff_ne];omega
 have e4:((k:Int) == 4)=false:=by rw[beq_eq_false_iff_ne];omega
 have e5:((k:Int) == 5)=false:=by rw[beq_eq_false_iff_ne];omega
 have e6:((k:Int) == 6)=false:=by rw[beq_eq_false_iff_ne];omega
 go_enter func82,ntmps82
 go_wp2_with (fail)
 go_quiet (fail)
 go_wp2_with (fail)
 go_ret;exact⟨rfl,⟨rfl,rfl,rfl,Nat.le_refl _,fun _ _=>rfl⟩⟩
theorem Ts{n n':Sp.Nm}{s s':Sp.By}{sl sl' mp mp':Value}(h:VB w b 4 n s sl mp)(h':VB w b' 4 n' s' sl' mp') :
  Calls Tryz.prog 82 #[.pointer (some ⟨b,0,none⟩),.pointer (some ⟨b',0,none⟩)] w fun e w'=>e = .returned (.bool (s == s'))/\Below w.heap.size w w':=by
 have c0:=h.c0;have d0:=h'.c0;have c4:=h.c4;have d4:=h'.c4;clear h h'
 go_enter func82,ntmps82
 go_wp2_with (fail)
 go_quiet (fail)
 go_wp2_with (fail)
 go_quiet (fail)
 go_wp2_with (fail)
 go_ret;exact⟨by first|rfl|simp,⟨rfl,rfl,rfl,Nat.le_refl _,fun _ _=>rfl⟩⟩
theorem Tv{n n':Sp.Nm}{s s':Sp.By}{sl sl' mp mp':Value}(h:VB w b 3 n s sl mp)(h':VB w b' 3 n' s' sl' mp') :
  Calls Tryz.prog 82 #[.pointer (some ⟨b,0,none⟩),.pointer (some ⟨b',0,none⟩)] w fun e w'=>e = .returned (.bool (decide (n=n')))/\Below w.heap.size w w':=by
 have c0:=h.c0;have d0:=h'.c0;have c1:=h.c1;have d1:=h'.c1;have c2:=h.c2;have d2:=h'.c2;have c3:=h.c3;have d3:=h'.c3;clear h h';obtain⟨na,nb,nc⟩:=n;obtain⟨na',nb',nc'⟩:=n';simp only at c1 c2 c3 d1 d2 d3;by_cases h2:nb=nb'
 ·have f2:(nb == nb')=true:=beq_iff_eq.2 h2;by_cases h3:nc=nc'
  ·have f3:(nc == nc')=true:=beq_iff_eq.2 h3;subst h2;subst h3;cases na<;>cases na'
   all_goals (
    go_enter func82,ntmps82
    go_wp2_with (fail)
    go_quiet (fail)
    go_wp2_with (fail)
    go_quiet (fail)
    go_wp2_with (fail)
    go_ret;exact⟨by simp,⟨rfl,rfl,rfl,Nat.le_refl _,fun _ _=>rfl⟩⟩)
  ·have f3:(nc == nc')=false:=beq_eq_false_iff_ne.2 h3;subst h2;have H3:=Ab h3;clear h3;cases na<;>cases na'
   all_goals (
    go_enter func82,ntmps82
    go_wp2_with (fail)
    go_quiet (fail)
    go_wp2_with (fail)
    go_quiet (fail)
    go_wp2_with (fail)
    go_ret;exact⟨by have:=Aa H3;simp[this],⟨rfl,rfl,rfl,Nat.le_refl _,fun _ _=>rfl⟩⟩)
 ·have f2:(nb == nb')=false:=beq_eq_false_iff_ne.2 h2;have H2:=Ab h2;clear h2;cases na<;>cases na'
  all_goals (
   go_enter func82,ntmps82
   go_wp2_with (fail)
   go_quiet (fail)
   go_wp2_with (fail)
   go_quiet (fail)
   go_wp2_with (fail)
   go_ret;exact⟨by have:=Aa H2;simp[this],⟨rfl,rfl,rfl,Nat.le_refl _,fun _ _=>rfl⟩⟩)
end
end

section
set_option maxRecDepth 100000
set_option maxHeartbeats 8000000
open Go.RowKit
def FE(f:Nat):Prop:=∀ (F F':Nat->Prop) (w:World) (v v':Value) (a b:Sp.V),Rep f F w v a->Rep f F' w v' b->Calls Tryz.prog 82 #[v,v'] w fun e w'=>e = .returned (.bool (veq a b))/\Below w.heap.size w w'
theorem Rep.bel{f:Nat}{F:Nat->Prop}{w w':World}{v:Value}{d:Sp.V}(h:Rep f F w v d)(hb:Below w.heap.size w w'):Rep f F w' v d:=h.move fun k h1 h2=>⟨hb.block k h2,h1⟩
theorem Hf{w:World}{B e n:Nat}{v:Value}{xs:List Value}(h:w.ownsRow B e 1 v n xs)(h0:n=0):∃a c,v = .slice a 0 c:=by
 rcases h.2 with⟨e,_⟩|⟨g,cap,cur,e,_⟩
 ·exact⟨none,0,e⟩
 ·exact⟨_,cap,by rw[e,h0]⟩
theorem Dt{w:World}{B e n:Nat}{v:Value}{xs:List Value}(h:w.ownsRow B e 1 v n xs):∃a c,v = .slice a n c:=by
 rcases h.2 with⟨e,h0⟩|⟨g,cap,cur,e,_⟩
 ·exact⟨none,0,by rw[e,h0]⟩
 ·exact⟨_,cap,e⟩
theorem WD{f:Nat}(hS:FE f){w:World}{F F':Nat->Prop}{B B':Nat}{sl sl':Value}{ps ps':List Value}{es es':List Sp.V}(ho:w.ownsRow B 80 1 sl ps.length ps)(ho':w.ownsRow B' 80 1 sl' ps'.length ps')
  (ha:Al (Rep f F w) ps es) (ha':Al (Rep f F' w) ps' es') (hmx:ps.length<=maxLen) (hmx':ps'.length<=maxLen) :
  Calls Tryz.prog 112 #[sl,sl',.func (.func 82) #[] #[]] w fun e w'=>e = .returned (.bool (veq (Sp.Ar es) (Sp.Ar es')))/\Below w.heap.size w w':=by
 have hl:=ha.length;have hl':=ha'.length;obtain⟨N,hN⟩:∃N,N=ps.length:=⟨_,rfl⟩
 obtain⟨N',hN'⟩:∃N',N'=ps'.length:=⟨_,rfl⟩
 have hn1:(N:Int)<=9223372036854775807:=by unfold maxLen at hmx;omega
 have hn2:(N':Int)<=9223372036854775807:=by unfold maxLen at hmx';omega
 by_cases hne:N=N'
 ·by_cases h0:N=0
  ·obtain⟨a,c,rfl⟩:=Hf ho (by omega);obtain⟨a',c',rfl⟩:=Hf ho' (by omega);have e1:es=[]:=List.eq_nil_of_length_eq_zero (by omega);have e2:es'=[]:=List.eq_nil_of_length_eq_zero (by omega);have HV:=Ab (FI (show Sp.Ar es=Sp.Ar es' by rw[e1,e2]));rw[<- hN,h0] at ho;rw[<- hN',<- hne,h0] at ho';clear ho ho' ha ha' hl hl' e1 e2 hS hN hN' hne
   go_enter func112,ntmps112
   go_wp2_with (fail);refine wp_loop_rounds 1 ?_
   rw[rounds_succ]
   go_wp2_with (fail)
   go_ret;exact⟨by rw[Aa HV];rfl,Below.refl _ _⟩
  ·obtain⟨g1,p1,rfl,a1,b1,l1,hc1⟩:=BF ho (by omega);obtain⟨g2,p2,rfl,a2,b2,l2,hc2⟩:=BF ho' (by omega);have HC1:=Ab hc1;have HC2:=Ab hc2;have HA:=Ab ha;have HA':=Ab ha';have HS:=Ab hS;have HN:=Ab hN;have HN':=Ab hN';have HL:=Ab hl;have HL':=Ab hl';rw[<- hN] at a1 |-;rw[<- hN'] at a2 |-;subst hne;clear ho ho' ha ha' hl hl' hS hN hN' hc1 hc2 h0
   go_enter func112,ntmps112
   go_wp2_with (fail)
   go_loopw [17] (fun i wr=>∃k:Nat,k<=N/\i = .int .i64 k/\es.take k=es'.take k/\Below w.heap.size w wr) (fun i _=>N-(intOf i).toNat)
   case atStart=>exact⟨0,by omega,rfl,by simp,Below.refl _ _⟩
   case round =>
    obtain⟨k,hk,rfl,heq,hb⟩:=hrel;have HEQ:=Ab heq;have HB:=Ab hb;clear heq;by_cases hlt:k<N
    ·have h1:k<ps.length:=by have:=Aa HN;omega
     have h2:k<ps'.length:=by have:=Aa HN';omega
     have h3:k<es.length:=by have:=Aa HL;omega
     have h4:k<es'.length:=by have:=Aa HL';omega
     have q1:=(hb.cell (p:=⟨g1,k,none⟩) l1).trans (Aa HC1 k h1);have q2:=(hb.cell (p:=⟨g2,k,none⟩) l2).trans (Aa HC2 k h2);have hcall:=Ab (Aa HS F F' wr ps[k] ps'[k] es[k] es'[k] (((Aa HA).get k h1 h3).bel hb) (((Aa HA').get k h2 h4).bel hb));have hst:es.take (k+1)=es'.take (k+1)<->es[k]=es'[k]:=by
      rw[List.take_succ_eq_append_getElem h3,List.take_succ_eq_append_getElem h4,Aa HEQ];exact⟨fun h=>List.singleton_inj.1 (List.append_cancel_left h),fun h=>by rw[h]⟩
     have HST:=Ab hst;generalize ps[k]=pk at *;generalize ps'[k]=pk' at *;clear hst hb
     go_wp2_with (fail);refine (Aa hcall).mono ?_
     rintro e w2 ⟨rfl,hb2⟩;have HB2:=Ab ((Aa HB).trans (hb2.mono (Aa HB).size));clear hb2 hcall;by_cases hee:es[k]=es'[k]
     ·rw[FI hee];have HST2:=Ab ((Aa HST).2 hee);clear hee
      go_wp2_with (fail);exact⟨⟨k+1,by omega,by go_num,Aa HST2,Aa HB2⟩,by simp only[intOf];omega⟩
     ·rw[Ed hee];have HV:=Ab (Ed (a:=Sp.Ar es) (b:=Sp.Ar es') (fun h=>by
       have h5:es=es':=by unfold Sp.Ar at h;injection h
       exact hee (by subst h5;rfl)))
      clear hee
      go_wp2_with (fail)
      go_ret;exact⟨by rw[Aa HV];rfl,Aa HB2⟩
    ·have HV:=Ab (FI (show Sp.Ar es=Sp.Ar es' by
      have h5:=Aa HEQ;rw[List.take_of_length_le (by have:=Aa HN;have:=Aa HL;omega),List.take_of_length_le (by have:=Aa HN';have:=Aa HL';omega)] at h5;rw[h5]))
     go_wp2_with (fail)
     go_ret;exact⟨by rw[Aa HV];rfl,hb⟩
 ·obtain⟨a,c,rfl⟩:=Dt ho;obtain⟨a',c',rfl⟩:=Dt ho';have HV:=Ab (Ed (a:=Sp.Ar es) (b:=Sp.Ar es') (fun h=>by
   have h5:es=es':=by unfold Sp.Ar at h;injection h
   rw[h5] at hl;omega))
  have e0:((N:Int) == (N':Int))=false:=by rw[beq_eq_false_iff_ne];omega
  have e1:((N:Int) != (N':Int))=true:=by rw[bne_iff_ne];omega
  rw[<- hN,<- hN'];clear ho ho' ha ha' hl hl' hS hN hN' hne
  go_enter func112,ntmps112
  go_wp2_with (fail)
  go_ret;exact⟨by rw[Aa HV];rfl,Below.refl _ _⟩
end

section
open Go.RowKit Go.Maps
theorem Mu{α:Type}:∀ {l m:List α},l.Pairwise (· ≠ ·)->(∀x∈l,x∈m)->m.length<=l.length -> ∀x∈m,x∈l
 | [],m,_,_,h,x,hx=>by
  have:m=[]:=List.eq_nil_of_length_eq_zero (by simpa using h);rw[this] at hx;exact hx
 | a::l,m,hp,hs,h,x,hx=>by
  obtain⟨h1,h2⟩:=List.pairwise_cons.1 hp;obtain⟨m1,m2,rfl⟩:=List.append_of_mem (hs a (List.mem_cons_self ..));have ih:=Mu (l:=l) (m:=m1++m2) h2 (fun y hy=>by
   have h3:=hs y (List.mem_cons_of_mem _ hy);have h4:=h1 y hy;simp only[List.mem_append,List.mem_cons] at h3 |-;rcases h3 with h3|h3|h3
   ·exact Or.inl h3
   ·exact absurd h3.symm h4
   ·exact Or.inr h3) (by simp only[List.length_append,List.length_cons] at h |-; omega)
  simp only[List.mem_append,List.mem_cons] at hx |-;rcases hx with hx|hx|hx
  ·exact Or.inr (ih x (by simp[hx]))
  ·exact Or.inl hx
  ·exact Or.inr (ih x (by simp[hx]))
theorem Pt.fsts{P:Value->Sp.V->Prop}:∀ {l:List (Lit×DataW Value)} {m:List (Lit×Sp.V)},Pt P l m->l.map Prod.fst=m.map Prod.fst
 | [],[],_=>rfl
 | a::_,b::_,⟨⟨k,_⟩,t⟩=>by
  have:=Pt.fsts t;simp only[List.map_cons];rw[k,this]
theorem Pt.size{P:Value->Sp.V->Prop}{l:List (Lit×DataW Value)}{m:List (Lit×Sp.V)}(h:Pt P l m):l.length=m.length:=by
 have:=congrArg List.length h.fsts;simpa using this
theorem B8{H:Type}(es:List (Lit×DataW H))(k:Lit)(z:DataW H):(DataW.map es).atKey k z=(match es.find? (fun p=>p.1.sameKey k) with|some p=>p.2|none=>z):=rfl
theorem Fx{α:Type}{p:Lit×α->Bool}{a:Lit×α}{l:List (Lit×α)}(h:p a=true):(a::l).find? p=some a:=List.find?_cons_of_pos h
theorem Gk{α:Type}{p:Lit×α->Bool}{a:Lit×α}{l:List (Lit×α)}(h:¬ p a=true):(a::l).find? p=l.find? p:=List.find?_cons_of_neg h
theorem Pt.at{P:Value->Sp.V->Prop}(k:Lit):∀ {l:List (Lit×DataW Value)} {m:List (Lit×Sp.V)},Pt P l m->Maps.has (.map l) k=true -> ∃x,(∀z,(DataW.map l).atKey k z = .held x)/\P x ((DataW.map m).atKey k .nil)
 | [],[],_,h=>by cases h
 | a::r,b::s,⟨⟨kk,x,e,g⟩,t⟩,h=>by
  by_cases hk:a.1.sameKey k=true
  ·refine⟨x,fun z=>?_,?_⟩
   ·rw[B8,Fx (p:=fun p=>p.1.sameKey k) hk];exact e
   ·rw[B8,Fx (p:=fun p=>p.1.sameKey k) (by rw[<- kk];exact hk)];exact g
  ·have h2:Maps.has (.map r) k=true:=by
    have h3:(a.1.sameKey k || r.any fun p=>p.1.sameKey k)=true:=h;rw[Bool.eq_false_iff.2 hk,Bool.false_or] at h3;exact h3
   obtain⟨x',e1,e2⟩:=Pt.at k t h2;refine⟨x',fun z=>?_,?_⟩
   ·rw[B8,Gk (p:=fun p=>p.1.sameKey k) hk];exact e1 z
   ·rw[B8,Gk (p:=fun p=>p.1.sameKey k) (by rw[<- kk];exact hk)];exact e2
theorem Pt.canon{P:Value->Sp.V->Prop}{l:List (Lit×DataW Value)}{m:List (Lit×Sp.V)}(h:Pt P l m)(c:Maps.Canon (.map l:DataW Value)):Maps.Canon (.map m:DataW Unit):=by
 obtain⟨es,he,hp,hk⟩:=c;injection he with he;subst he;refine⟨m,rfl,?_,?_⟩
 ·have h1:(l.map Prod.fst).Pairwise (fun a b=>a.before b=true):=List.pairwise_map.2 hp;rw[h.fsts] at h1;exact List.pairwise_map.1 h1
 ·intro p hp2;have h1:p.1∈l.map Prod.fst:=by rw[h.fsts];exact List.mem_map.2 ⟨p,hp2,rfl⟩
  obtain⟨q,hq,e⟩:=List.mem_map.1 h1;rw[<- e];exact hk q hq
theorem TE{es es':List (Lit×Sp.V)}(c:Maps.Canon (.map es:DataW Unit))(c':Maps.Canon (.map es':DataW Unit))(hl:es.length=es'.length)
  (h:∀k,Maps.has (.map es:DataW Unit) k=true->Maps.has (.map es':DataW Unit) k=true/\(DataW.map es).atKey k .nil=(DataW.map es').atKey k .nil):Sp.Av es=Sp.Av es':=by
 obtain⟨_,he,hp,hk⟩:=c;injection he with he;subst he;obtain⟨_,he,hp',hk'⟩:=c';injection he with he;subst he;have hap:=apart_of_rising hp;have hap':=apart_of_rising hp';have hsub:∀p∈es,p∈es':=fun p hpm=>by
  have h1:Maps.has (.map es:DataW Unit) p.1=true:=List.any_eq_true.2 ⟨p,hpm,WideAt.sameKey_self (hk p hpm)⟩;obtain⟨h2,h3⟩:=h p.1 h1;obtain⟨q,hq,hs⟩:=List.any_eq_true.1 (show es'.any (fun q=>q.1.sameKey p.1)=true from h2);have e1:q.1=p.1:=WideAt.sameKey_eq hs;have e2:=WideAt.atKey_mem .nil (hk p hpm) hap (show (p.1,p.2)∈es from hpm);have e3:=WideAt.atKey_mem .nil (hk' q hq) hap' (show (q.1,q.2)∈es' from hq);rw[e1] at e3;rw[e2,e3] at h3;have:p=q:=Prod.ext e1.symm h3;rw[this];exact hq
 have hne:es.Pairwise (· ≠ ·):=hap.imp (fun h e=>h (congrArg Prod.fst e))
 have hback:=Mu hne hsub (by omega);unfold Sp.Av;rw[eq_of_mem_rising hp hp' (fun p=>⟨hsub p,hback p⟩)]
theorem Rq{es es':List (Lit×Sp.V)}{k:Lit}(h1:Maps.has (.map es:DataW Unit) k=true)(h:Maps.has (.map es':DataW Unit) k=true->(DataW.map es).atKey k .nil≠(DataW.map es').atKey k .nil):Sp.Av es≠Sp.Av es':=by
 intro e;unfold Sp.Av at e;injection e with e;subst e;exact h h1 rfl
end

section
set_option maxRecDepth 100000
set_option maxHeartbeats 8000000
open Go.RowKit Go.Maps
def QI(es es':List (Lit×Sp.V))(left:Lit->Bool):Prop :=
 ∀k,Maps.has (.map es:DataW Unit) k=true->left k=false->Maps.has (.map es':DataW Unit) k=true/\(DataW.map es).atKey k .nil=(DataW.map es').atKey k .nil
theorem QI.step{es es':List (Lit×Sp.V)}{left:Lit->Bool}{kl:Lit}(h:QI es es' left)(h2:Maps.has (.map es':DataW Unit) kl=true)(h3:(DataW.map es).atKey kl .nil=(DataW.map es').atKey kl .nil):QI es es' (fun z=>left z && !z.sameKey kl):=by
 intro k hk hl;cases h4:left k
 ·exact h k hk h4
 ·have h5:(left k && !k.sameKey kl)=false:=hl;rw[h4] at h5;have:k=kl:=WideAt.sameKey_eq (by simpa using h5);subst this;exact⟨h2,h3⟩
theorem B3{w w':World}(h:w.grownBy w' none):Below w.heap.size w w':=(Below.refl _ _).grown h (Nat.le_refl _) (fun j hj=>by cases hj)
theorem BK{w w':World}(h:Below w.heap.size w w'):w.grownBy w' none:=⟨h.os,h.tape,h.output,h.size,fun i hi _=>h.block i hi⟩
theorem Du{v x:Value}{d:DataW Value}{ps:List MemPlace}(h:RV v=some (d,ps))(e:d = .held x):v=x/\ps=[]:=by
 have h1:=Option.some.inj h;have h2:DataW.held v=d:=congrArg Prod.fst h1;rw[e] at h2;exact⟨by injection h2,(congrArg Prod.snd h1).symm⟩
theorem WE{f:Nat}(hS:FE f){w:World}{F F':Nat->Prop}{m m' n n':Nat}{D D':List (Lit×DataW Value)}{es es':List (Lit×Sp.V)}(ho:w.ownsMap Tryz.prog 9 RV m n (.map D))(ho':w.ownsMap Tryz.prog 9 RV m' n' (.map D'))
  (hp:Pt (Rep f F w) D es) (hp':Pt (Rep f F' w) D' es') :
  Calls Tryz.prog 113 #[.map (some m),.map (some m'),.func (.func 82) #[] #[]] w fun e w'=>e = .returned (.bool (veq (Sp.Av es) (Sp.Av es')))/\Below w.heap.size w w':=by
 have hml:=Cd;have hmz:=C9;have l1:=fun ty=>ho.len (t:=109) underlying109 ty;have l2:=fun ty=>ho'.len (t:=109) underlying109 ty;have hmb:=ho'.lt;have C1:=Ab (hp.canon (ho.canon hml));have C2:=Ab (hp'.canon (ho'.canon hml));have HP:=Ab hp;have HP':=Ab hp';have HS:=Ab hS;have L1:=Ab hp.size;have L2:=Ab hp'.size;clear hp hp' hS;by_cases hsz:Maps.size (.map D:DataW Value)=Maps.size (.map D':DataW Value)
 ·have HZ:=Ab hsz
  go_enter func113,ntmps113
  go_wp2_with (first
   | (at_range;refine wpList_range_own _ rfl _ 109 rfl 9 80 hml underlying109 RV m n _ rfl ho ?_;intro w0 hrg0 hg0 hs0)
   | go_in)
  go_frame
  go_loopw [18] (fun _ wr=>∃ (left:Lit->Bool) (cnt:Nat),wr.ranges Tryz.prog 9 RV m w.heap.size n (.map D) left cnt/\wr.ownsMap Tryz.prog 9 RV m' n' (.map D')/\w.grownBy wr none/\Hid (QI es es' left))
   (fun _ wr=>wr.rangeLeft m w.heap.size)
  case atStart =>
   refine⟨_,_,hrg0,ho'.kept hg0 (by simp),hg0,?_⟩;intro k hk hl;rw[(Aa HP).has k,hk] at hl;cases hl
  case round =>
   obtain⟨left,cnt,hrg,h2r,hgw,G⟩:=hrel
   go_wp2_with (first
    | (at_next;refine wpList_next_ranges _ rfl _ rfl 9 hml RV id id (fun key _ _=>⟨key,rfl⟩) (fun v _ _=>⟨v,rfl⟩) m w.heap.size n _ _ _ rfl hrg ?_ ?_)
    | go_in)
   ·intro _ hl0;have HV:=Ab (FI (TE (Aa C1) (Aa C2) (by
     have h1:=Aa L1;have h2:=Aa L2;have h3:D.length=D'.length:=Aa HZ;omega) (fun k hk=>Aa G k hk (hl0 k))))
    go_wp2_with (fail)
    go_ret;exact⟨by rw[Aa HV];rfl,B3 hgw⟩
   ·intro x c kl yd yp w1 cnt1 hkey hlx hv hat hrg1 hlt hg1 hs1 hen;have hgw1:w.grownBy w1 none:=hgw.andThen hg1 (fun j hj=>by cases hj;exact Or.inl (Nat.le_refl _));have h2w1:=h2r.kept hg1 (fun e=>by have:=Option.some.inj e;omega);have hv2:DataW.held c=yd:=congrArg Prod.fst (Option.some.inj hv);subst hv2;have hasD:Maps.has (.map D) kl=true:=has_true_of_atKey hat
    obtain⟨c',e1,hrep⟩:=(Aa HP).at kl hasD;have e2:c'=c:=by
     have e3:=(e1 .nil).symm.trans (hat .nil);injection e3
    subst e2;have hasE:Maps.has (.map es:DataW Unit) kl=true:=by rw[<- (Aa HP).has kl];exact hasD
    have HAT:=Ab hat
    have HREP:=Ab hrep;have HHE:=Ab hasE;have HE1:=Ab e1;clear hat hrep hasE e1 hasD hv;cases hh:Maps.has (.map D':DataW Value) kl
    ·have hbad:=Ab (Ed (Rq (Aa HHE) (fun h=>by
      rw[<- (Aa HP').has kl,hh] at h;cases h)))
     go_wp2_with (first
      | (at_lookup;refine wpList_lookup_own_ok _ rfl _ _ 109 rfl 9 80 hml underlying109 RV (hmz _) (.held (.pointer none)) [] rfl m' n' (.map D') rfl h2w1 _ kl rfl hkey ?_;intro v2 ps2 hv2;rw[hh];go_frame)
      | go_in)
     go_ret;exact⟨by rw[Aa hbad];rfl,B3 hgw1⟩
    ·obtain⟨c2,e4,hrep2⟩:=(Aa HP').at kl hh;have hcall:=Ab (Aa HS F F' w1 c' c2 _ _ ((Aa HREP).bel (B3 hgw1)) (hrep2.bel (B3 hgw1)));have hhE:Maps.has (.map es':DataW Unit) kl=true:=by rw[<- (Aa HP').has kl];exact hh
     have HHE':=Ab hhE;clear hhE hrep2;by_cases hee:(DataW.map es).atKey kl .nil=(DataW.map es').atKey kl .nil
     ·have hvt:=Ab (FI hee);have HEE:=Ab hee;clear hee
      go_wp2_with (first
       | (at_lookup;refine wpList_lookup_own_ok _ rfl _ _ 109 rfl 9 80 hml underlying109 RV (hmz _) (.held (.pointer none)) [] rfl m' n' (.map D') rfl h2w1 _ kl rfl hkey ?_;intro v2 ps2 hv2;rw[hh];obtain⟨rfl,_⟩:=Du hv2 (e4 _);go_frame;have hc:=Aa hcall;rw[Aa hvt] at hc)
       )
      refine hc.mono ?_;rintro e w2 ⟨rfl,hb2⟩
      go_wp2_with (fail);have hrg2:=hrg1.kept (BK hb2) (by simp) (by simp)
      have hgw2:=hgw1.andThen (BK hb2) (fun j hj=>by cases hj);have h2w2:=h2w1.kept (BK hb2) (by simp)
      go_roundw
      case rel=>exact⟨_,cnt1,hrg2,h2w2,hgw2,(Aa G).step (Aa HHE') (Aa HEE)⟩
      case measure=>rw[hrg2.left_eq,hrg.left_eq];exact hlt
     ·have hvf:=Ab (Ed hee);have hbad:=Ab (Ed (Rq (es':=es') (Aa HHE) (fun _=>hee)));clear hee
      go_wp2_with (first
       | (at_lookup;refine wpList_lookup_own_ok _ rfl _ _ 109 rfl 9 80 hml underlying109 RV (hmz _) (.held (.pointer none)) [] rfl m' n' (.map D') rfl h2w1 _ kl rfl hkey ?_;intro v2 ps2 hv2;rw[hh];obtain⟨rfl,_⟩:=Du hv2 (e4 _);go_frame;have hc:=Aa hcall;rw[Aa hvf] at hc)
       )
      refine hc.mono ?_;rintro e w2 ⟨rfl,hb2⟩
      go_wp2_with (fail)
      go_ret;exact⟨by rw[Aa hbad];rfl,B3 (hgw1.andThen (BK hb2) (fun j hj=>by cases hj))⟩
 ·have hne:¬ ((Maps.size (.map D:DataW Value):Int)=(Maps.size (.map D':DataW Value):Int)):=fun e=>hsz (by exact_mod_cast e);have HV:=Ab (Ed (a:=Sp.Av es) (b:=Sp.Av es') (fun e=>by
   unfold Sp.Av at e;injection e with e;have h1:=Aa L1;have h2:=Aa L2;rw[e] at h1;exact hsz (show D.length=D'.length by omega)))
  go_enter func113,ntmps113
  go_wp2_with (fail)
  go_ret;exact⟨by rw[Aa HV];rfl,Below.refl _ _⟩
end

section
set_option maxHeartbeats 4000000
open Go.RowKit Go.Maps
theorem DU{w:World}{B e n:Nat}{v:Value}{xs:List Value}(h:w.ownsRow B e 1 v n xs):n<=maxLen:=by
 rcases h.2 with⟨_,h0⟩|⟨g,cap,cur,_,_,_,h4,h5,_⟩
 ·rw[h0];exact Nat.zero_le _
 ·omega
section
variable{w:World}{b b':Nat}
theorem Tw{f:Nat}(hS:FE f){F F':Nat->Prop}{sl sl':Value}{ps ps':List Value}{es es':List Sp.V}(h:VB w b 5 n0 [] sl (.map none))(h':VB w b' 5 n0 [] sl' (.map none))
  (ho:w.ownsRow 0 80 1 sl ps.length ps) (ho':w.ownsRow 0 80 1 sl' ps'.length ps') (ha:Al (Rep f F w) ps es) (ha':Al (Rep f F' w) ps' es') :
  Calls Tryz.prog 82 #[.pointer (some ⟨b,0,none⟩),.pointer (some ⟨b',0,none⟩)] w fun e w'=>e = .returned (.bool (veq (Sp.Ar es) (Sp.Ar es')))/\Below w.heap.size w w':=by
 have c0:=h.c0;have d0:=h'.c0;have c5:=h.c5;have d5:=h'.c5;have hc:=Ab (show ∀w1:World,Below w.heap.size w w1->Calls Tryz.prog 112 #[sl,sl',.func (.func 82) #[] #[]] w1 fun e w'=>e = .returned (.bool (veq (Sp.Ar es) (Sp.Ar es')))/\Below w1.heap.size w1 w' from fun w1 hb =>
  WD hS (AZ ho (fun g hg=>hb.block g (AA ho g hg).1)) (AZ ho' (fun g hg=>hb.block g (AA ho' g hg).1)) (ha.mono fun _ _ h=>h.bel hb) (ha'.mono fun _ _ h=>h.bel hb) (DU ho) (DU ho'))
 clear h h' ho ho' ha ha' hS;generalize veq (Sp.Ar es) (Sp.Ar es')=r at *
 go_enter func82,ntmps82
 go_wp2_with (fail)
 go_quiet (fail)
 go_wp2_with (fail)
 go_region_with (go_at_call 112;refine (Aa hc _ ?_).mono ?_;exact⟨rfl,rfl,rfl,Nat.le_refl _,fun _ _=>rfl⟩;rintro e w2 ⟨rfl,hb⟩)
 all_goals (
  replace hb:Below w.heap.size w w2:=⟨hb.os,hb.tape,hb.output,hb.size,hb.block⟩
  go_wp2_with (fail)
  go_ret;exact⟨rfl,hb⟩)
theorem Tu{f:Nat}(hS:FE f){F F':Nat->Prop}{m m' n n':Nat}{D D':List (Lit×DataW Value)}{es es':List (Lit×Sp.V)}(h:VB w b 6 n0 [] (.slice none 0 0) (.map (some m)))(h':VB w b' 6 n0 [] (.slice none 0 0) (.map (some m')))
  (ho:w.ownsMap Tryz.prog 9 RV m n (.map D)) (ho':w.ownsMap Tryz.prog 9 RV m' n' (.map D')) (hp:Pt (Rep f F w) D es) (hp':Pt (Rep f F' w) D' es') :
  Calls Tryz.prog 82 #[.pointer (some ⟨b,0,none⟩),.pointer (some ⟨b',0,none⟩)] w fun e w'=>e = .returned (.bool (veq (Sp.Av es) (Sp.Av es')))/\Below w.heap.size w w':=by
 have c0:=h.c0;have d0:=h'.c0;have c6:=h.c6;have d6:=h'.c6;have hc:=Ab (show ∀w1:World,Below w.heap.size w w1->Calls Tryz.prog 113 #[.map (some m),.map (some m'),.func (.func 82) #[] #[]] w1 fun e w'=>e = .returned (.bool (veq (Sp.Av es) (Sp.Av es')))/\Below w1.heap.size w1 w' from fun w1 hb =>
  WE hS (AJ ho (hb.block m (B0 ho))) (AJ ho' (hb.block m' (B0 ho'))) (hp.mono fun _ _ h=>h.bel hb) (hp'.mono fun _ _ h=>h.bel hb))
 clear h h' ho ho' hp hp' hS;generalize veq (Sp.Av es) (Sp.Av es')=r at *
 go_enter func82,ntmps82
 go_wp2_with (fail)
 go_quiet (fail)
 go_wp2_with (fail)
 go_region_with (go_at_call 113;refine (Aa hc _ ?_).mono ?_;exact⟨rfl,rfl,rfl,Nat.le_refl _,fun _ _=>rfl⟩;rintro e w2 ⟨rfl,hb⟩)
 all_goals (
  replace hb:Below w.heap.size w w2:=⟨hb.os,hb.tape,hb.output,hb.size,hb.block⟩
  go_wp2_with (fail)
  go_ret;exact⟨rfl,hb⟩)
end
theorem Te{n n':Sp.Nm}(h:Sp.Bj n=Sp.Bj n'):n=n':=by
 obtain⟨a,b,c⟩:=n;obtain⟨a',b',c'⟩:=n';simp only[Sp.Bj,DataW.agg.injEq,List.cons.injEq,DataW.lit.injEq,Lit.bool.injEq,Lit.string.injEq,Lit.int.injEq] at h;obtain⟨h1,h2,h3,_⟩:=h;rw[h1,h2,h3.2]
theorem Vl(n n':Sp.Nm):veq (Sp.Bj n) (Sp.Bj n')=decide (n=n'):=by
 by_cases h:n=n'
 ·rw[FI (by rw[h]),decide_eq_true h]
 ·rw[Ed (fun e=>h (Te e)),decide_eq_false h]
theorem Vk(s s':Sp.By):veq (Sp.Az s) (Sp.Az s')=(s == s'):=by
 by_cases h:s=s'
 ·rw[FI (by rw[h]),beq_iff_eq.2 h]
 ·rw[Ed (fun e=>h (by unfold Sp.Az at e;injection e with e;injection e)),beq_eq_false_iff_ne.2 h]
theorem Rc{f:Nat}(hS:FE f):FE (f+1):=by
 intro F F' w v v' a b ha hb;obtain⟨p,rfl,_,ha⟩:=ha;obtain⟨p',rfl,_,hb⟩:=hb;rcases ha with⟨k,hk,rfl,h⟩|⟨n,rfl,h,_⟩|⟨s,rfl,h⟩|⟨es,sl,ps,rfl,h,ho,_,hal⟩|⟨es,m,n,D,rfl,h,_,ho,hp⟩ <;>
  rcases hb with⟨k',hk',rfl,h'⟩|⟨n',rfl,h',_⟩|⟨s',rfl,h'⟩|⟨es',sl',ps',rfl,h',ho',_,hal'⟩|⟨es',m',n',D',rfl,h',_,ho',hp'⟩
 case inl.inl =>
  by_cases e:k=k'
  ·subst e;rw[FI rfl];exact Rb hk h h'
  ·rw[Ed (fun e1=>e (by unfold Sp.BV at e1;injection e1 with e1;injection e1 with _ e1;omega))];exact K5 h h' (by omega)
 case inr.inl.inr.inl=>rw[Vl];exact Tv h h'
 case inr.inr.inl.inr.inr.inl=>rw[Vk];exact Ts h h'
 case inr.inr.inr.inl.inr.inr.inr.inl=>exact Tw hS h h' ho ho' hal hal'
 case inr.inr.inr.inr.inr.inr.inr.inr=>exact Tu hS h h' ho ho' hp hp'
 all_goals (
  rw[Ed (by intro e;simp[Sp.BV,Sp.Bj,Sp.Az,Sp.Ar,Sp.Av] at e)];exact K5 h h' (by omega))
theorem Jz:∀f,FE f
 | 0=>fun _ _ _ _ _ _ _ h=>h.elim
 | f+1=>Rc (Jz f)
end

section
open Go.RowKit
theorem FT{α:Type}(p:α->Bool):∀ {l:List α},l.dropWhile p=[]<->l.all p=true
 | []=>by simp
 | a::r=>by
  rw[List.dropWhile_cons,List.all_cons];cases h:p a
  ·simp
  ·simp only[if_true,Bool.true_and];exact FT p
theorem Ke{α:Type}(p:α->Bool):∀ {l:List α} {a:α} {r:List α},l.dropWhile p=a::r->p a=false
 | [],_,_,h=>by cases h
 | b::s,a,r,h=>by
  rw[List.dropWhile_cons] at h;cases hb:p b
  ·rw[hb] at h;simp at h;rw[<- h.1];exact hb
  ·rw[hb] at h;simp only[if_true] at h;exact Ke p h
theorem KV(l cs:List UInt8):Lib.trimS l cs=[]<->l.all (cs.contains ·)=true:=by
 have h1:Lib.trimS l cs=((l.reverse.dropWhile (cs.contains ·)).reverse).dropWhile (cs.contains ·):=rfl
 rw[h1];constructor
 ·intro h;have h2:=(FT _).1 h;cases hd:l.reverse.dropWhile (cs.contains ·) with
  | nil =>
   have h3:=(FT _).1 hd;simpa using h3
  | cons a r =>
   have h4:=Ke _ hd;rw[hd] at h2;simp only[List.all_reverse,List.all_cons,Bool.and_eq_true] at h2;rw[h4] at h2;cases h2.1
 ·intro h;have h3:l.reverse.dropWhile (cs.contains ·)=[]:=(FT _).2 (by simpa using h)
  rw[h3];rfl
theorem K9:∀ (l:Sp.By) (acc:Nat),acc<18446744073709551616->l.all (Sp.dgs.contains ·)=true ->
  (Lib.parseUint10 acc l = .ok (Sp.ixf acc l)/\Sp.ixf acc l<18446744073709551616)\/(Lib.parseUint10 acc l = .range/\18446744073709551616<=Sp.ixf acc l)
 | [],acc,ha,_=>Or.inl ⟨rfl,ha⟩
 | c::r,acc,ha,h=>by
  rw[List.all_cons,Bool.and_eq_true] at h;obtain⟨hc,hr⟩:=h;obtain⟨c1,c2⟩:=Sp.Pg c hc;have hstep:Sp.ixf acc (c::r)=Sp.ixf (acc*10+(c.toNat-48)) r:=rfl;rw[hstep];have hge:∀ (l:Sp.By) (a:Nat),a<=Sp.ixf a l:=by
   intro l;induction l with
   | nil=>intro a;exact Nat.le_refl _
   | cons d s ih=>intro a;exact Nat.le_trans (by omega) (ih (a*10+(d.toNat-48)))
  have h0:=hge r (acc*10+(c.toNat-48));simp only[Lib.parseUint10];rw[if_pos (by omega)];split
  ·exact Or.inr ⟨rfl,by omega⟩
  ·split
   ·exact Or.inr ⟨rfl,by omega⟩
   ·exact K9 r _ (by omega) hr
theorem Oo{t:Sp.By}(hne:t≠[])(h:t.all (Sp.dgs.contains ·)=true) :
  (Lib.atoiAll t = .ok (Sp.ixf 0 t:Nat)/\Sp.ixf 0 t<9223372036854775808)\/(Lib.atoiAll t = .range/\Lib.atoiSat t=9223372036854775807/\9223372036854775808<=Sp.ixf 0 t):=by
 cases t with
 | nil=>exact absurd rfl hne
 | cons c r =>
  have hc:Sp.dgs.contains c=true:=by rw[List.all_cons,Bool.and_eq_true] at h;exact h.1
  obtain⟨c1,c2⟩:=Sp.Pg c hc;have n1:¬ (c.toNat=43\/c.toNat=45):=by omega
  have n2:¬ (c.toNat=45):=by omega
  have hs:Lib.atoiSat (c::r)=9223372036854775807:=by
   unfold Lib.atoiSat
   rw[if_neg (by simp;omega)]
  have hp:=K9 (c::r) 0 (by omega) h;unfold Lib.atoiAll;simp only[if_neg n1,Lib.parseMag,if_neg (List.cons_ne_nil c r)];rcases hp with⟨e,hl⟩|⟨e,hl⟩
  ·rw[e];simp only;by_cases hb:9223372036854775808<=Sp.ixf 0 (c::r)
   ·rw[if_pos ⟨n2,hb⟩];exact Or.inr ⟨rfl,hs,hb⟩
   ·rw[if_neg (fun h=>hb h.2),if_neg (fun h=>n2 h.1),if_neg n2];exact Or.inl ⟨rfl,by omega⟩
  ·rw[e];exact Or.inr ⟨rfl,hs,by omega⟩
end
end Go.Proofs.YtdpomdelmdofmaaGreatDoor
