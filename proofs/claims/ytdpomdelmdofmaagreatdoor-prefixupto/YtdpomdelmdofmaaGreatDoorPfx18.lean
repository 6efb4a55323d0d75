import Derived.Test.YtdpomdelmdofmaaGreatDoorPfx17
import Derived.Maps.RangeWalk
import Derived.Maps.Ext
import Derived.Sort.MapsRangeIn
open Go.Proofs.Tryz renaming prog->AI
open Go.DataW renaming map->AS,held->G1
open Go renaming DataW->AT,Value->A2,wpList_lookup_own_ok->A3,Calls->Ft,World->F2
open Go.Maps renaming has->A1,Canon->Dt,size->D2
open Go.RowKit renaming Below->A4
open Nat renaming le_refl->A5
open Go.RowKit.Below renaming refl->A6
open Option.some renaming inj->Bs
open Go.Lib renaming parseUint10->BY,atoiSat->CH,trimS->CL,atoiAll->E0,size_eq->G0
open Prod renaming fst->CD
open List renaming dropWhile_cons->CR,any_eq_true->D0,cons_ne_nil->D3,all_cons->F1
open Go.ByteArray renaming toList_eq->Dp
open Go.WideAt renaming sameKey_eq->DD,atKey_mem->D1
open Or renaming inl->F5,inr->G3
open Go.Calls renaming mono->G2
set_option maxRecDepth 100000
set_option maxHeartbeats 8000000
namespace Go.Proofs.YtdpomdelmdofmaaGreatDoor
open Go.Proofs.Tryz Go.RowKit Go.Maps
variable{es es':List (Lit×To)}{w w':F2}{f n:Nat}{F F':Nat->Prop}
theorem Mn{α:Type}:∀ {l m:List α},l.Pairwise (· ≠ ·)->(∀x∈l,x∈m)->m.length<=l.length -> ∀x∈m,x∈l
 | [],m,_,_,h,x,hx=>by
  grind
 | a::l,m,hp,hs,h,x,hx=>by
  obtain⟨h1,h2⟩:=List.pairwise_cons.1 hp;obtain⟨m1,m2,rfl⟩:=List.append_of_mem (hs a (List.mem_cons_self ..));have ih:=Mn (l:=l) (m:=m1++m2) h2 (fun y hy=>by
   grind) (by grind)
  grind
theorem Pt.fsts{P:A2->To->Prop}:∀ {l:List (Lit×AT A2)} {m:List (Lit×To)},Pt P l m->l.map CD=m.map CD
 | [],[],_=>rfl
 | a::_,b::_,⟨⟨k,_⟩,t⟩=>by
  have:=Pt.fsts t
  grind
theorem Pt.size{P:A2->To->Prop}{l:List (Lit×AT A2)}{m:List (Lit×To)}(h:Pt P l m):l.length=m.length:=by
 have:=congrArg List.length h.fsts
 grind
theorem BZ{H:Type}(es:List (Lit×AT H))(k:Lit)(z:AT H):(AS es).atKey k z=(match es.find? (fun p=>p.1.sameKey k) with|some p=>p.2|none=>z):=rfl
theorem GK{α:Type}{p:Lit×α->Bool}{a:Lit×α}{l:List (Lit×α)}(h:p a=true):(a::l).find? p=some a:=List.find?_cons_of_pos h
theorem Iu{α:Type}{p:Lit×α->Bool}{a:Lit×α}{l:List (Lit×α)}(h:¬ p a=true):(a::l).find? p=l.find? p:=List.find?_cons_of_neg h
theorem Pt.at{P:A2->To->Prop}(k:Lit):∀ {l:List (Lit×AT A2)} {m:List (Lit×To)},Pt P l m->A1 (.map l) k=true -> ∃x,(∀z,(AS l).atKey k z=.held x)/\P x ((AS m).atKey k .nil)
 | [],[],_,h=>by cases h
 | a::r,b::s,⟨⟨kk,x,e,g⟩,t⟩,h=>by
  by_cases hk:a.1.sameKey k=true
  ·refine⟨x,fun z=>?_,?_⟩
   ·rw[BZ,GK (p:=fun p=>p.1.sameKey k) hk];exact e
   ·rw[BZ,GK (p:=fun p=>p.1.sameKey k) (by grind)];exact g
  ·have h2:A1 (.map r) k=true:=by
    have h3:(a.1.sameKey k || r.any fun p=>p.1.sameKey k)=true:=h;rw[Bool.eq_false_iff.2 hk,Bool.false_or] at h3;exact h3
   obtain⟨x',e1,e2⟩:=Pt.at k t h2;refine⟨x',fun z=>?_,?_⟩
   ·rw[BZ,Iu (p:=fun p=>p.1.sameKey k) hk];exact e1 z
   ·rw[BZ,Iu (p:=fun p=>p.1.sameKey k) (by grind)];exact e2
theorem Pt.canon{P:A2->To->Prop}{l:List (Lit×AT A2)}{m:List (Lit×To)}(h:Pt P l m)(c:Dt (.map l:AT A2)):Dt (.map m:AT Unit):=by
 obtain⟨es,he,hp,hk⟩:=c;injection he with he;subst he;refine⟨m,rfl,?_,?_⟩
 ·have h1:(l.map CD).Pairwise (fun a b=>a.before b=true):=List.pairwise_map.2 hp;rw[h.fsts] at h1
  grind
 ·intro p q0;have h1:p.1∈l.map CD:=by rw[h.fsts];grind
  grind
theorem TS(c:Dt (.map es:AT Unit))(c':Dt (.map es':AT Unit))(hl:es.length=es'.length)(h:∀k,A1 (.map es:AT Unit) k=true->A1 (.map es':AT Unit) k=true/\(AS es).atKey k .nil=(AS es').atKey k .nil):Ay es=Ay es':=by
 obtain⟨_,he,hp,hk⟩:=c;injection he with he;subst he;obtain⟨_,he,q8,q9⟩:=c';injection he with he;subst he;have q6:=apart_of_rising hp;have q0:=apart_of_rising q8;have q5:∀p∈es,p∈es':=fun p q4=>by
  have h1:A1 (.map es:AT Unit) p.1=true:=D0.2 ⟨p,q4,WideAt.sameKey_self (hk p q4)⟩;obtain⟨h2,h3⟩:=h p.1 h1;obtain⟨q,hq,hs⟩:=D0.1 (show es'.any (fun q=>q.1.sameKey p.1)=true from h2);have e1:q.1=p.1:=DD hs;have e2:=D1 .nil (hk p q4) q6 (by omega);have e3:=D1 .nil (q9 q hq) q0 (by omega)
  grind
 have qb:es.Pairwise (· ≠ ·):=q6.imp (by grind)
 have q7:=Mn qb q5 (by omega);unfold Ay;rw[eq_of_mem_rising hp q8 (by grind)]
theorem Ru{k:Lit}(h1:A1 (.map es:AT Unit) k=true)(h:A1 (.map es':AT Unit) k=true->(AS es).atKey k .nil≠(AS es').atKey k .nil):Ay es≠Ay es':=by
 intro e;unfold Ay at e
 grind
def QK(es es':List (Lit×To))(left:Lit->Bool):Prop:=
 ∀k,A1 (.map es:AT Unit) k=true->left k=false->A1 (.map es':AT Unit) k=true/\(AS es).atKey k .nil=(AS es').atKey k .nil
theorem QK.step{left:Lit->Bool}{kl:Lit}(h:QK es es' left)(h2:A1 (.map es':AT Unit) kl=true)(h3:(AS es).atKey kl .nil=(AS es').atKey kl .nil):QK es es' (fun z=>left z && !z.sameKey kl):=by
 intro k hk hl;cases h4:left k
 ·exact h k hk h4
 ·have h5:(left k && !k.sameKey kl)=false:=hl;rw[h4] at h5;have:k=kl:=DD (by simpa using h5);subst this;exact⟨h2,h3⟩
theorem BA(h:w.grownBy w' none):A4 w.heap.size w w':=(A6 _ _).grown h (A5 _) (fun j hj=>by cases hj)
theorem A9(h:A4 w.heap.size w w'):w.grownBy w' none:=⟨h.os,h.tape,h.output,h.size,fun i hi _=>h.block i hi⟩
theorem Cb{v x:A2}{d:AT A2}{ps:List MemPlace}(h:RV v=some (d,ps))(e:d=.held x):v=x/\ps=[]:=by
 have h1:=Bs h;have h2:G1 v=d:=congrArg CD h1;rw[e] at h2;exact⟨by injection h2,(congrArg Prod.snd h1).symm⟩
theorem WH(hS:Fz f){m m' n':Nat}{D D':List (Lit×AT A2)}(ho:w.ownsMap AI 9 RV m n (.map D))(qj:w.ownsMap AI 9 RV m' n' (.map D'))(hp:Pt (Rep f F w) D es)(qi:Pt (Rep f F' w) D' es'):
  Ft AI 113 #[.map (some m),.map (some m'),.func (.func 82) #[] #[]] w fun e w'=>e=.returned (.bool (veq (Ay es) (Ay es')))/\A4 w.heap.size w w':=by
 have qb:=Bw;have qt:=B0;have l1:=fun ty=>ho.len (t:=109) underlying109 ty;have l2:=fun ty=>qj.len (t:=109) underlying109 ty;have zf:=qj.lt;have C1:=Ab (hp.canon (ho.canon qb));have C2:=Ab (qi.canon (qj.canon qb));have HP:=Ab hp;have qn:=Ab qi;have HS:=Ab hS;have L1:=Ab hp.size;have L2:=Ab qi.size;clear hp qi hS;by_cases hsz:D2 (.map D:AT A2)=D2 (.map D':AT A2)
 ·have HZ:=Ab hsz
  go_enter func113,ntmps113
  go_wp2_with (first
   | (at_range;refine wpList_range_own _ rfl _ 109 rfl 9 80 qb underlying109 RV m n _ rfl ho ?_;intro w0 qo z6 zg)
   | go_in)
  go_frame
  go_loopw [18] (fun _ wr=>∃ (left:Lit->Bool) (cnt:Nat),wr.ranges AI 9 RV m w.heap.size n (.map D) left cnt/\wr.ownsMap AI 9 RV m' n' (.map D')/\w.grownBy wr none/\Hid (QK es es' left))
   (fun _ wr=>wr.rangeLeft m w.heap.size)
  case atStart=>
   refine⟨_,_,qo,qj.kept z6 (by simp),z6,?_⟩;intro k hk hl;rw[(Aa HP).has k,hk] at hl;cases hl
  case round=>
   obtain⟨left,cnt,z1,zb,qw,G⟩:=hrel
   go_wp2_with (first
    | (at_next;refine wpList_next_ranges _ rfl _ rfl 9 qb RV id id (fun key _ _=>⟨key,rfl⟩) (fun v _ _=>⟨v,rfl⟩) m w.heap.size n _ _ _ rfl z1 ?_ ?_)
    | go_in)
   ·intro _ hl0;have HV:=Ab (FC (TS (Aa C1) (Aa C2) (by
     have h1:=Aa L1;have h2:=Aa L2;have h3:D.length=D'.length:=Aa HZ;omega) (fun k hk=>Aa G k hk (hl0 k))))
    go_wp2_with (fail)
    go_ret;exact⟨by rw[Aa HV];rfl,BA qw⟩
   ·intro x c kl yd yp w1 cnt1 q7 zi hv qk qr hlt qz zk zj;have q0:w.grownBy w1 none:=qw.andThen qz (fun j hj=>by cases hj;exact F5 (A5 _));have q4:=zb.kept qz (fun e=>by have:=Bs e;omega);have qe:G1 c=yd:=congrArg CD (Bs hv);subst qe;have q9:A1 (.map D) kl=true:=has_true_of_atKey qk
    obtain⟨c',e1,qg⟩:=(Aa HP).at kl q9;have e2:c'=c:=by
     have e3:=(e1 .nil).symm.trans (qk .nil);injection e3
    subst e2;have qh:A1 (.map es:AT Unit) kl=true:=by rw[<- (Aa HP).has kl];exact q9
    have zc:=Ab qk
    have qm:=Ab qg;have qy:=Ab qh;have zh:=Ab e1;clear qk qg qh e1 q9 hv;cases hh:A1 (.map D':AT A2) kl
    ·have q8:=Ab (D4 (Ru (Aa qy) (fun h=>by
      rw[<- (Aa qn).has kl,hh] at h;cases h)))
     go_wp2_with (first
      | (at_lookup;refine A3 _ rfl _ _ 109 rfl 9 80 qb underlying109 RV (qt _) (.held (.pointer none)) [] rfl m' n' (.map D') rfl q4 _ kl rfl q7 ?_;intro v2 qv qe;rw[hh];go_frame)
      | go_in)
     go_ret;exact⟨by rw[Aa q8];rfl,BA q0⟩
    ·obtain⟨c2,e4,q5⟩:=(Aa qn).at kl hh;have q6:=Ab (Aa HS F F' w1 c' c2 _ _ ((Aa qm).bel (BA q0)) (q5.bel (BA q0)));have qx:A1 (.map es':AT Unit) kl=true:=by rw[<- (Aa qn).has kl];exact hh
     have qu:=Ab qx;clear qx q5;by_cases qd:(AS es).atKey kl .nil=(AS es').atKey kl .nil
     ·have za:=Ab (FC qd);have z8:=Ab qd;clear qd
      go_wp2_with (first
       | (at_lookup;refine A3 _ rfl _ _ 109 rfl 9 80 qb underlying109 RV (qt _) (.held (.pointer none)) [] rfl m' n' (.map D') rfl q4 _ kl rfl q7 ?_;intro v2 qv qe;rw[hh];obtain⟨rfl,_⟩:=Cb qe (e4 _);go_frame;have hc:=Aa q6;rw[Aa za] at hc)
       )
      refine hc.mono ?_;rintro e w2 ⟨rfl,hb2⟩
      go_wp2_with (fail);have qf:=qr.kept (A9 hb2) (by simp) (by simp)
      have qp:=q0.andThen (A9 hb2) (fun j hj=>by cases hj);have qq:=q4.kept (A9 hb2) (by simp)
      go_roundw
      case rel=>exact⟨_,cnt1,qf,qq,qp,(Aa G).step (Aa qu) (Aa z8)⟩
      case measure=>rw[qf.left_eq,z1.left_eq];exact hlt
     ·have z7:=Ab (D4 qd);have q8:=Ab (D4 (Ru (es':=es') (Aa qy) (fun _=>qd)));clear qd
      go_wp2_with (first
       | (at_lookup;refine A3 _ rfl _ _ 109 rfl 9 80 qb underlying109 RV (qt _) (.held (.pointer none)) [] rfl m' n' (.map D') rfl q4 _ kl rfl q7 ?_;intro v2 qv qe;rw[hh];obtain⟨rfl,_⟩:=Cb qe (e4 _);go_frame;have hc:=Aa q6;rw[Aa z7] at hc)
       )
      refine hc.mono ?_;rintro e w2 ⟨rfl,hb2⟩
      go_wp2_with (fail)
      go_ret;exact⟨by rw[Aa q8];rfl,BA (q0.andThen (A9 hb2) (fun j hj=>by cases hj))⟩
 ·have ze:¬ ((D2 (.map D:AT A2):Int)=(D2 (.map D':AT A2):Int)):=fun e=>hsz (by exact_mod_cast e);have HV:=Ab (D4 (a:=Ay es) (b:=Ay es') (fun e=>by
   unfold Ay at e;injection e with e;have h1:=Aa L1;have h2:=Aa L2;rw[e] at h1;exact hsz (show D.length=D'.length by omega)))
  go_enter func113,ntmps113
  go_wp2_with (fail)
  go_ret;exact⟨by rw[Aa HV];rfl,A6 _ _⟩
theorem DI{B e:Nat}{v:A2}{xs:List A2}(h:w.ownsRow B e 1 v n xs):n<=maxLen:=by
 rcases h.2 with⟨_,h0⟩|⟨g,cap,cur,_,_,_,h4,h5,_⟩
 ·rw[h0];exact Nat.zero_le _
 ·omega
section
variable{w:F2}{b b':Nat}
theorem TG(hS:Fz f){sl sl':A2}{ps q4:List A2}{es es':List To}(h:VB w b 5 n0 [] sl (.map none))(h':VB w b' 5 n0 [] sl' (.map none))(ho:w.ownsRow 0 80 1 sl ps.length ps)(q0:w.ownsRow 0 80 1 sl' q4.length q4)(ha:Al (Rep f F w) ps es)(q5:Al (Rep f F' w) q4 es'):
  Ft AI 82 #[.pointer (some ⟨b,0,none⟩),.pointer (some ⟨b',0,none⟩)] w fun e w'=>e=.returned (.bool (veq (Ap es) (Ap es')))/\A4 w.heap.size w w':=by
 have c0:=h.c0;have d0:=h'.c0;have c5:=h.c5;have d5:=h'.c5;have hc:=Ab (show ∀w1:F2,A4 w.heap.size w w1->Ft AI 112 #[sl,sl',.func (.func 82) #[] #[]] w1 fun e w'=>e=.returned (.bool (veq (Ap es) (Ap es')))/\A4 w1.heap.size w1 w' from fun w1 hb=>
  WG hS (AX ho (fun g hg=>hb.block g (Aw ho g hg).1)) (AX q0 (fun g hg=>hb.block g (Aw q0 g hg).1)) (ha.mono fun _ _ h=>h.bel hb) (q5.mono fun _ _ h=>h.bel hb) (DI ho) (DI q0))
 clear h h' ho q0 ha q5 hS;generalize veq (Ap es) (Ap es')=r at *
 go_enter func82,ntmps82
 go_wp2_with (fail)
 go_quiet (fail)
 go_wp2_with (fail)
 go_region_with (go_at_call 112;refine (Aa hc _ ?_).mono ?_;exact⟨rfl,rfl,rfl,A5 _,fun _ _=>rfl⟩;rintro e w2 ⟨rfl,hb⟩)
 all_goals (
  replace hb:A4 w.heap.size w w2:=⟨hb.os,hb.tape,hb.output,hb.size,hb.block⟩
  go_wp2_with (fail)
  go_ret;exact⟨rfl,hb⟩)
theorem TE(hS:Fz f){m m' n':Nat}{D D':List (Lit×AT A2)}(h:VB w b 6 n0 [] (.slice none 0 0) (.map (some m)))(h':VB w b' 6 n0 [] (.slice none 0 0) (.map (some m')))(ho:w.ownsMap AI 9 RV m n (.map D))(q0:w.ownsMap AI 9 RV m' n' (.map D'))(hp:Pt (Rep f F w) D es)(q4:Pt (Rep f F' w) D' es'):
  Ft AI 82 #[.pointer (some ⟨b,0,none⟩),.pointer (some ⟨b',0,none⟩)] w fun e w'=>e=.returned (.bool (veq (Ay es) (Ay es')))/\A4 w.heap.size w w':=by
 have c0:=h.c0;have d0:=h'.c0;have c6:=h.c6;have d6:=h'.c6;have hc:=Ab (show ∀w1:F2,A4 w.heap.size w w1->Ft AI 113 #[.map (some m),.map (some m'),.func (.func 82) #[] #[]] w1 fun e w'=>e=.returned (.bool (veq (Ay es) (Ay es')))/\A4 w1.heap.size w1 w' from fun w1 hb=>
  WH hS (Aj ho (hb.block m (A7 ho))) (Aj q0 (hb.block m' (A7 q0))) (hp.mono fun _ _ h=>h.bel hb) (q4.mono fun _ _ h=>h.bel hb))
 clear h h' ho q0 hp q4 hS;generalize veq (Ay es) (Ay es')=r at *
 go_enter func82,ntmps82
 go_wp2_with (fail)
 go_quiet (fail)
 go_wp2_with (fail)
 go_region_with (go_at_call 113;refine (Aa hc _ ?_).mono ?_;exact⟨rfl,rfl,rfl,A5 _,fun _ _=>rfl⟩;rintro e w2 ⟨rfl,hb⟩)
 all_goals (
  replace hb:A4 w.heap.size w w2:=⟨hb.os,hb.tape,hb.output,hb.size,hb.block⟩
  go_wp2_with (fail)
  go_ret;exact⟨rfl,hb⟩)
end
theorem Ts{n n':Nm}(h:Bv n=Bv n'):n=n':=by
 obtain⟨a,b,c⟩:=n;obtain⟨a',b',c'⟩:=n';simp only[Bv,DataW.agg.injEq,List.cons.injEq,DataW.lit.injEq,Lit.bool.injEq,Lit.string.injEq,Lit.int.injEq] at h;obtain⟨h1,h2,h3,_⟩:=h;rw[h1,h2,h3.2]
theorem Vr(n n':Nm):veq (Bv n) (Bv n')=decide (n=n'):=by
 by_cases h:n=n'
 ·rw[FC (by rw[h]),decide_eq_true h]
 ·rw[D4 (fun e=>h (Ts e)),decide_eq_false h]
theorem Vq(s s':By):veq (Aq s) (Aq s')=(s==s'):=by
 by_cases h:s=s'
 ·rw[FC (by rw[h]),beq_iff_eq.2 h]
 ·rw[D4 (fun e=>h (by unfold Aq at e;injection e with e;injection e)),beq_eq_false_iff_ne.2 h]
theorem Rf(hS:Fz f):Fz (f+1):=by
 intro F F' w v v' a b ha hb;obtain⟨p,rfl,_,ha⟩:=ha;obtain⟨p',rfl,_,hb⟩:=hb;rcases ha with⟨k,hk,rfl,h⟩|⟨n,rfl,h,_⟩|⟨s,rfl,h⟩|⟨es,sl,ps,rfl,h,ho,_,hal⟩|⟨es,m,n,D,rfl,h,_,ho,hp⟩ <;>
  rcases hb with⟨k',q6,rfl,h'⟩|⟨n',rfl,h',_⟩|⟨s',rfl,h'⟩|⟨es',sl',q7,rfl,h',q0,_,q4⟩|⟨es',m',n',D',rfl,h',_,q0,q5⟩
 case inl.inl=>
  by_cases e:k=k'
  ·subst e;rw[FC rfl];exact Re hk h h'
  ·rw[D4 (fun e1=>e (by unfold AO at e1;injection e1 with e1;injection e1 with _ e1;omega))];exact KU h h' (by omega)
 case inr.inl.inr.inl=>rw[Vr];exact TF h h'
 case inr.inr.inl.inr.inr.inl=>rw[Vq];exact TD h h'
 case inr.inr.inr.inl.inr.inr.inr.inl=>exact TG hS h h' ho q0 hal q4
 case inr.inr.inr.inr.inr.inr.inr.inr=>exact TE hS h h' ho q0 hp q5
 all_goals (
  rw[D4 (by intro e;simp[AO,Bv,Aq,Ap,Ay] at e)];exact KU h h' (by omega))
theorem Eq:∀f,Fz f
 | 0=>fun _ _ _ _ _ _ _ h=>h.elim
 | f+1=>Rf (Eq f)
theorem FO{α:Type}(p:α->Bool):∀ {l:List α},l.dropWhile p=[]<->l.all p=true
 | []=>by simp
 | a::r=>by
  rw[CR,F1];cases h:p a
  ·simp
  ·simp only[if_true,Bool.true_and];exact FO p
theorem JZ{α:Type}(p:α->Bool):∀ {l:List α} {a:α} {r:List α},l.dropWhile p=a::r->p a=false
 | [],_,_,h=>by cases h
 | b::s,a,r,h=>by
  rw[CR] at h;cases hb:p b
  ·grind
  ·rw[hb] at h;simp only[if_true] at h;exact JZ p h
theorem KQ(l cs:List UInt8):CL l cs=[]<->l.all (cs.contains ·)=true:=by
 have h1:CL l cs=((l.reverse.dropWhile (cs.contains ·)).reverse).dropWhile (cs.contains ·):=rfl
 rw[h1];constructor
 ·intro h;have h2:=(FO _).1 h;cases hd:l.reverse.dropWhile (cs.contains ·) with
  | nil=>
   have h3:=(FO _).1 hd
   grind
  | cons a r=>
   have h4:=JZ _ hd
   grind
 ·intro h;have h3:l.reverse.dropWhile (cs.contains ·)=[]:=(FO _).2 (by grind)
  simp_all
theorem K5:∀ (l:By) (q0:Nat),q0<18446744073709551616->l.all (aP.contains ·)=true ->
  (BY q0 l=.ok (aD q0 l)/\aD q0 l<18446744073709551616)\/(BY q0 l=.range/\18446744073709551616<=aD q0 l)
 | [],q0,ha,_=>F5 ⟨rfl,ha⟩
 | c::r,q0,ha,h=>by
  rw[F1,Bool.and_eq_true] at h;obtain⟨hc,hr⟩:=h;obtain⟨c1,c2⟩:=Pm c hc;have q4:aD q0 (c::r)=aD (q0*10+(c.toNat-48)) r:=rfl;rw[q4];have q5:∀ (l:By) (a:Nat),a<=aD a l:=by
   intro l;induction l with
   | nil=>intro a;exact A5 _
   | cons d s ih=>intro a;exact Nat.le_trans (by omega) (ih (a*10+(d.toNat-48)))
  have h0:=q5 r (q0*10+(c.toNat-48));simp only[BY];rw[if_pos (by omega)];split
  ·grind
  ·split
   ·grind
   ·exact K5 r _ (by omega) hr
theorem OB{t:By}(q0:t≠[])(h:t.all (aP.contains ·)=true):
  (E0 t=.ok (aD 0 t:Nat)/\aD 0 t<9223372036854775808)\/(E0 t=.range/\CH t=9223372036854775807/\9223372036854775808<=aD 0 t):=by
 cases t with
 | nil=>grind
 | cons c r=>
  have hc:aP.contains c=true:=by grind
  obtain⟨c1,c2⟩:=Pm c hc;have n1:¬ (c.toNat=43\/c.toNat=45):=by omega
  have n2:¬ (c.toNat=45):=by omega
  have hs:CH (c::r)=9223372036854775807:=by
   unfold CH
   grind
  have hp:=K5 (c::r) 0 (by omega) h;unfold E0;simp only[if_neg n1,Lib.parseMag,if_neg (D3 c r)]
  grind
theorem Tv(t:By)(w:F2)(h:t.length<=1048576):
  Ft AI 195 #[.string ⟨t.toArray⟩,.string ⟨#[48,49,50,51,52,53,54,55,56,57]⟩] w fun e w'=>e=.returned (.string ⟨(CL t aP).toArray⟩)/\A4 w.heap.size w w':=
 Any.strings_Trim_laid Tryz.lays160 (by kernel_rfl) ⟨t.toArray⟩ ⟨#[48,49,50,51,52,53,54,55,56,57]⟩ w (by rw[AU];omega) (by decide) (ascii_of_all (by decide))
theorem Rng.kept(h:Rng w)(hb:A4 w.heap.size w w'):Rng w':=by
 obtain⟨ev,h1,h2⟩:=h;refine⟨ev,?_,h2⟩;have:9<w.heap.size:=Lib.lt_of_cell h1;exact (hb.cell (p:=⟨9,0,none⟩) this).trans h1
theorem U1(t:By)(w:F2)(h:t.length<=1048576)(q0:t≠[])(hd:t.all (aP.contains ·)=true)(hr:Rng w):
  Ft AI 196 #[.string ⟨t.toArray⟩] w fun e w'=>∃x,e=.returned (.tuple #[.int .i64 (min (aD 0 t) 9223372036854775807:Nat),x])/\A4 w.heap.size w w':=by
 obtain⟨ev,hv,q4⟩:=hr;rcases OB q0 hd with⟨h1,h2⟩|⟨h1,h2,h3⟩
 ·have hm:min (aD 0 t) 9223372036854775807=aD 0 t:=by omega
  rw[hm];refine G2 (Any.strconv_Atoi_ok Tryz.laysC172 ⟨t.toArray⟩ (by rw[AU];omega) (aD 0 t:Nat) h1 w) ?_;rintro e w' ⟨rfl,hw⟩;refine⟨_,rfl,?_⟩;rcases hw with rfl|⟨x,rfl⟩
  ·exact A6 _ _
  ·exact Lib.bytesWorld_below _ _ _
 ·have hm:min (aD 0 t) 9223372036854775807=9223372036854775807:=by omega
  rw[hm];refine G2 (Any.strconv_Atoi_range Tryz.laysC172 ⟨t.toArray⟩ (by rw[AU];omega) h1 ev w hv q4) ?_;rintro e w' ⟨N,rfl,_,_,hb⟩;rw[show CH (⟨t.toArray⟩:ByteArray).data.toList=9223372036854775807 from h2];exact⟨_,rfl,hb⟩
theorem Vd{X:ByteArray}(h:X.size=0):X.toList.isEmpty=true:=by
 rw[Dp,List.isEmpty_iff];exact List.eq_nil_of_length_eq_zero (by rw[<- G0];exact h)
theorem YB{X:ByteArray}(h:0<X.size):X.toList.isEmpty=false:=by
 rw[Dp];have:=G0 X;cases hl:X.data.toList with
 | nil=>rw[hl,List.length_nil] at this;omega
 | cons a r=>rfl
def ET(o:Option Nat):A2:=match o with
 | none=>.tuple #[.int .i64 0,.bool false]
 | some n=>.tuple #[.int .i64 n,.bool true]
theorem FQ(t:By)(w:F2)(h:t.length<=1048576)(hr:Rng w):
  Ft AI 147 #[.string ⟨t.toArray⟩] w fun e w'=>e=.returned (ET (ZO t))/\A4 w.heap.size w w':=by
 match t,h with
 | [],_=>
  rw[I1 (F5 rfl)];have e1:=Vd (X:=⟨([]:By).toArray⟩) rfl;have e2:¬ (1:Int)<((⟨([]:By).toArray⟩:ByteArray).size:Int):=by decide
  go_enter func147,ntmps147
  go_wp2_with (fail)
  go_ret2
  exact⟨rfl,A6 _ _⟩
 | c::r,h=>
  have hsz:(⟨(c::r).toArray⟩:ByteArray).size=r.length+1:=by rw[AU];rfl
  obtain⟨X,hX⟩:∃X:ByteArray,X=⟨(c::r).toArray⟩:=⟨_,rfl⟩
  have e1:=YB (X:=X) (by rw[hX,hsz];omega);have q0:0<X.size:=by rw[hX,hsz];omega
  have hg:X[0]'q0=c:=by subst hX;rfl
  rw[<- hX];rw[<- hX] at hsz;by_cases hn:1<(c::r).length/\c=48
  ·rw[I1 (G3 (F5 ⟨hn.1,by rw[hn.2];rfl⟩))];have e2:(1:Int)<(X.size:Int):=by have:=hn.1;simp only[List.length_cons] at this;omega
   have e3:X[0]'q0=48:=by rw[hg];exact hn.2
   clear h hX hg
   go_enter func147,ntmps147
   go_wp2_with (fail)
   go_ret2
   exact⟨rfl,A6 _ _⟩
  ·have hno:((decide ((1:Int)<(X.size:Int))) && (decide (X[0]'q0=48)))=false:=by
    rw[hg,hsz];cases r with
    | nil=>rfl
    | cons d q=>
     have:c≠48:=fun e=>hn ⟨by simp,e⟩;simp[this]
   have ht:=Ab (Tv (c::r) w h);have hx:¬ (1:Int)<(X.size:Int)\/((1:Int)<(X.size:Int) /\ ¬ ((X[0]'q0).toNat:Int)=48):=by
    by_cases h1:(1:Int)<(X.size:Int)
    ·refine G3 ⟨h1,fun e=>?_⟩;have e9:X[0]'q0=48:=UInt8.toNat_inj.1 (by have:(48:UInt8).toNat=48:=rfl;omega);simp[h1,e9] at hno
    ·exact F5 h1
   clear hno hg;by_cases hd:(c::r).all (aP.contains ·)=true
   ·have q4:c::r≠[]:=D3 _ _;have hi:ZO (c::r)=some (min (aD 0 (c::r)) 9223372036854775807):=Ur (by
     rintro (e|⟨e1,e2⟩|e)
     ·cases e
     ·exact hn ⟨e1,by simpa using e2⟩
     ·rw[hd] at e;cases e)
    rw[hi];have q5:=Ab (fun w2 (hb:A4 w.heap.size w w2)=>U1 (c::r) w2 h q4 hd (hr.kept hb));rw[(KQ _ _).2 hd] at ht;have e4:=Vd (X:=⟨([]:By).toArray⟩) rfl;generalize min (aD 0 (c::r)) 9223372036854775807=nn at *;rw[<- hX] at ht q5
    clear hX hd q4 h hn hsz hi hr;rcases hx with h1|⟨h1,h2⟩;all_goals (
     go_enter func147,ntmps147
     go_wp2_with (fail);refine (Aa ht).mono ?_
     rintro e w2 ⟨rfl,hb⟩;have q7:=Ab (Aa q5 w2 hb);have HB:=Ab hb;clear q5 hb
     go_wp2_with (fail);refine (Aa q7).mono ?_
     rintro e w3 ⟨x,rfl,hb3⟩
     go_wp2_with (fail)
     go_ret2
     exact⟨rfl,(Aa HB).trans (hb3.mono (Aa HB).size)⟩)
   ·have q6:(c::r).all (aP.contains ·)=false:=by simpa using hd
    rw[I1 (G3 (G3 q6))];have q4:CL (c::r) aP≠[]:=fun e=>hd ((KQ _ _).1 e);generalize CL (c::r) aP=Y at *;have e4:Y.isEmpty=false:=by cases Y with
     | nil=>exact absurd rfl q4
     | cons _ _=>rfl
    rw[<- hX] at ht;clear hX hd q6 q4 h hn hsz hr;rcases hx with h1|⟨h1,h2⟩;all_goals (
     go_enter func147,ntmps147
     go_wp2_with (fail);refine (Aa ht).mono ?_
     rintro e w2 ⟨rfl,hb⟩
     go_wp2_with (fail)
     go_ret2
     exact⟨rfl,hb⟩)
end Go.Proofs.YtdpomdelmdofmaaGreatDoor
