import Derived.Test.YtdpomdelmdofmaaGreatDoorPfx40
import Derived.Deep.CutBlock
open Go.Maps renaming has->AI,has_true_of_atKey->HW,atKey_put_other->HZ,size_eq->H2
open Go.Proofs.Tryz renaming prog->AS
open Go.DataW renaming map->AT,held->H3
open Go renaming DataW->A1,World->CH,Value->Dp,wpList_lookup_own_ok->HK,heap_alloc_new->HL,wpList_next_ranges->HU,wpList_range_own->HX
open Option.some renaming inj->A2
open List renaming mem_cons_of_mem->A3,mem_cons_self->A4,any_eq_true->A5,mem_filter->C1,mem_reverse->D0,mem_map->F5,mem_cons->HN,pairwise_cons->HT
open Go.World renaming cell?_of_block->Bs,block_lt_of_cell?->Ft
open Go.WideAt renaming sameKey_self->BY,sameKey_eq->DD,atKey_mem->E0,IsKeyLit->H0
open Nat renaming le_refl->CD,le_trans->CR,le_mul_of_pos_left->HF,zero_le->HJ,mul_add->HY
open Go.Lit renaming string->CL
open Go.RowKit.Below renaming refl->C2
open Go.RowKit renaming Below->D1
open List.Pairwise renaming nil->D3
open Or renaming inl->G3,inr->HA
open Option renaming map_eq_some_iff->HH
open Go.Instr renaming mapUpdate->HI,lookup->HV
open And renaming intro->H1
set_option maxRecDepth 100000
set_option maxHeartbeats 8000000
namespace Go.Proofs.YtdpomdelmdofmaaGreatDoor
open Go.Proofs.Tryz Go.RowKit Go.Maps
variable{F F2 F':Nat->Prop}{k kl:Lit}{bs es:List (Lit×To)}{v:Dp}{a:To}{cnt1:Nat}{left:Lit->Bool}{lv:Int}
def Yd(F:Nat->Prop)(w W0:CH)(D:Nat)(d e:Int)(v:To×ZG)(q:To)(x:Ending)(w3:CH):Prop:=∃ (c:Nat) (v':To×ZG),x=.returned (.int .i64 c)/\w3.heap[w.heap.size]? = W0.heap[w.heap.size]? /\ Ao F w w3 /\
 Bf w3 (FN F (w.heap.size+1)) (.pointer (some ⟨D,0,none⟩)) d e (some v')/\aY v q=((c,0,[]),v')
theorem PU{w W0 w9:CH}{D R lo:Nat}{wp:Dp}{d e:Int}{v:To×ZG}{q:To}{p2:Option Addr}(hd:DU w F D R wp d e v)(hF:∀k,F k->NG<=k/\k<w.heap.size/\k<lo)(hW:D1 w.heap.size w W0)(qf:W0.heap.size=w.heap.size+1)(hb:D1 W0.heap.size W0 w9)(hT:Af w9)(hq:Rep top (fun k=>lo<=k) w9 (.pointer p2) q)(qb:Zl d e top 1 q)(qi:(Zm top q).length<=80000)(qh:d<=20):
  Calls AS 85 #[.pointer (some ⟨D,0,none⟩),.pointer p2] w9 (Yd F w W0 D d e v q):=by
 obtain⟨T,a,iv,h1,h2,h3⟩:=hd.ex;have fD:=hd.fD;have q7:=hd.len;have q5:=hd.gd;have q8:CJ W0 D R wp (.slice none 0 0) iv v.2.isSome T a v.1:=h1.move (hW.block D h1.db.lt) fun k hk=>hW.block k (h1.tr.lt k hk);have qd:F4 W0 (fun k=>F k/\k≠D/\k ∉ fp (top+1) T) iv v.2:=h3.move fun k hk q6=>⟨hW.block k q6,hk⟩
 obtain⟨qn,rfl,hJ⟩:=IB q8 hb;have q9:=h1.tr.lt;have qe:=h1.db.lt;have qg:=hb.size;have qj:=hT.ng;refine (Qy (d:=d) (x:=e) hJ hT (fun k hk=>⟨?_,fun hm=>?_,fun e=>?_⟩) (fun k hk=>⟨hk.2.2,by omega⟩) (by omega) q5 (by have:=(BX q5).2;omega) (hq.move (F':=fun k=>lo<=k/\k<w9.heap.size) fun k hk q6=>⟨rfl,hk,q6⟩) (fun k hk=>⟨hk.2,fun hm=>?_,fun e=>?_⟩) qb (by have:=(BX qb).2;omega)).mono ?_
 ·omega
 ·have:=(hF k (h2 k hm)).1;omega
 ·have:=(hF k (e▸fD)).1;omega
 ·have:=(hF k (h2 k hm)).2.2;omega
 ·have:=(hF k (e▸fD)).2.2;omega
 ·rintro x w3 ⟨c,rfl,hp⟩;have q4:∀k,k<w.heap.size -> ¬ F k->k<W0.heap.size/\k ∉ fp (top+1) T/\k≠D:=fun k hk hx=>⟨by omega,fun hm=>hx (h2 k hm),fun e=>hx (e▸fD)⟩
  have hq:w.heap.size<W0.heap.size/\w.heap.size ∉ fp (top+1) T/\w.heap.size≠D:=⟨by omega,fun hm=>by have:=q9 _ hm;omega,by omega⟩
  unfold cE at hp;by_cases q0:20000<(Zm top (Zp top (some v.1) [] q).1).length
  ·rw[if_pos q0] at hp;obtain⟨e1,p1,p2,p3,p4,p5,p6⟩:=hp;injection e1 with e1;injection e1 with e1;obtain rfl:c=4:=by
    have h:=congrArg (fun a:Array Dp=>a[1]?) e1;simp at h;omega
   refine⟨4,v,rfl,p2.held _ hq,⟨p3.trans (hb.os.trans hW.os),p4.trans (hb.tape.trans hW.tape),p5.trans (hb.output.trans hW.output),by have:=hW.size;omega,fun k hk hx=>(p2.held k (q4 k hk hx)).trans (hW.block k hk)⟩,?_,by unfold aY;rw[if_pos q0]⟩;exact Jy q8 rfl h2 qd fD q7 q5 (fun k hk _=>by have:=(hF k hk).2.1;omega) (by omega) p2 p1
  ·rw[if_neg q0] at hp;obtain⟨e1,qm,jn,T2,a2,M',wk,qk,s1,s2,s3,s4,s5,s6,s7,s8,s9⟩:=hp;injection e1 with e1;injection e1 with e1;obtain rfl:c=0:=by
    have h:=congrArg (fun a:Array Dp=>a[1]?) e1;simp at h;omega
   have hM:∀k,k<W0.heap.size/\k ∉ fp (top+1) T/\k≠D->w3.heap[k]? = W0.heap[k]?:=fun k hk=>by
    have h4:=s2.kept k ⟨by omega,hk.2⟩;exact (s5.block k (by have:=s2.size;omega) hk.2.2).trans (h4.2.trans (hb.block k hk.1))
   refine⟨0,((Zp top (some v.1) [] q).1,some (Zp top (some v.1) [] q).2.reverse),rfl,hM _ hq,⟨s5.os.trans (s2.os.trans (hb.os.trans hW.os)),s5.tape.trans (s2.tape.trans (hb.tape.trans hW.tape)),s5.output.trans (s2.output.trans (hb.output.trans hW.output)),by have:=hW.size;have:=s2.size;have:=s5.size;omega,fun k hk hx=>(hM k (q4 k hk hx)).trans (hW.block k hk)⟩,?_,by unfold aY;rw[if_neg q0]⟩;refine Jx (F:=F) (B:=w.heap.size+1) (fun k hk=>⟨h2 k hk,by have:=q9 k hk;omega⟩) ⟨fD,by omega⟩ (by omega) s1 s3 s4 s5 s7 s6.gd (K6 (d:=d) (x:=e) (fun o ho=>s8 o (D0.1 ho)) ?_) fun o ho=>⟨by have:=(s8 o (D0.1 ho)).1;omega,fun h=>⟨_,_,((s8 o (D0.1 ho)).2 h).gd,((s8 o (D0.1 ho)).2 h).dd⟩⟩
   rw[List.length_reverse];exact CR s9 (by decide)
theorem PD{S lo:Nat}{d e n:Int}{p:Dp}{v:To×ZG}{s:By}{q:To}{p2:Option Addr}{w:CH}(hcfg:aG d e n=true)(hF:∀k,F k->NG<=k/\k≠S/\k<lo)(hS:SB w S d e n p)(hD:Bf w F p d e (some v))(hT:Af w)(hr:Zy s d e=(0,some q))(hq:Tr top lo w (.pointer p2) q):
  Calls AS 60 #[.pointer (some ⟨S,0,none⟩),.pointer p2] w (Cm F p d e (aY v q) w):=by
 obtain⟨qj,qi⟩:1<=d/\d<=20:=by
  unfold aG aL at hcfg;simp at hcfg;omega
 obtain⟨D,R,wp,rfl,qe⟩:=hD;have q7:=qe.move (F':=fun k=>F k/\k<w.heap.size) (fun k h1 h2=>⟨rfl,h1,h2⟩);obtain⟨W0,q0⟩:∃W0,W0=w.alloc (.cells #[.int .i64 0,.int .i64 0,.string ⟨#[]⟩] 46):=⟨_,rfl⟩
 have q6:D1 w.heap.size w W0:=by rw[q0];exact (C2 _ _).alloc (CD _) _
 have qf:W0.heap.size=w.heap.size+1:=by rw[q0];simp
 have q5:AB W0 w.heap.size:=by rw[q0];exact AB.new w
 have HM:=Ab (PU q7 (fun k hk=>⟨(hF k hk.1).1,hk.2,(hF k hk.1).2.2⟩) q6 qf (C2 _ _) (hT.below (q6.mono hT.ng)) (hq.rep.bel q6) (F8 hr) (F9 hr top) qi);have q8:=Ab q5;have qd:=hS.low q6;have c3:=qd.c3;obtain⟨RR,qb⟩:∃RR,RR=aY v q:=⟨_,rfl⟩
 rw[<- qb];have qg:=Ab qb;have qh:=Ab q0;rw[q0] at c3;clear hcfg hF hS qe q7 hT q6 qf q5 qd qb q0 hr hq
 go_enter func60,ntmps60
 go_wp2_with (fail);rw[<- Aa qh]
 refine (Aa HM).mono ?_;rintro x w3 ⟨c,v',rfl,q1,q2,q3,q4⟩;have q9:=Ab (show Ao (fun k=>F k/\k<w.heap.size) w w3/\Bf w3 (FN (fun k=>F k/\k<w.heap.size) (w.heap.size+1)) (.pointer (some ⟨D,0,none⟩)) d e (some v')/\RR=((c,0,[]),v') from⟨q2,q3,(Aa qg).trans q4⟩);have a3:AB w3 w.heap.size:=q1.trans (Aa q8);have g0:=a3.c0;have g1:=a3.c1;have g2:=a3.c2;have z:=a3.fz;clear q1 q2 q3 q4 a3 HM c3
 go_wp2_with (fail);refine bodyPost_ret (v:=Ai (c,0,[])) (by simp[results,results60,go_sem,Ai,g0,g1,g2]) rfl ?_
 obtain⟨q2,q3,q4⟩:=Aa q9;rw[q4];exact J9 _ _ _ q2 q3
theorem TY:KM:=fun _ _ _ _ _ _ _ _ _ _ _ _ hc hF hS hD hT hr hq=>PD hc hF hS hD hT hr hq
noncomputable def aH(m:To->To->Option To)(xs:List (Lit×To))(k:Lit)(y:To):Option (Option To):=match As xs k with
 | some x=>if veq x y=true then some none else if ZZ y=true then none else (m x y).map some
 | none=>if ZZ y=true then none else (m (.map []) y).map some
section
variable{m:To->To->Option To}{xs:List (Lit×To)}
theorem Hr(k:Lit)(y:To)(r out:List (Lit×To)):DM m xs ((k,y)::r) out=(match aH m xs k y with
  | none=>none
  | some none=>DM m xs r out
  | some (some z)=>DM m xs r (Zr k z out)):=by
 rw[DM];unfold aH;cases As xs k with
 | some x=>
  simp only
  by_cases h1:veq x y=true
  ·rw[if_pos h1,if_pos h1]
  ·rw[if_neg h1,if_neg h1];by_cases h2:ZZ y=true
   ·rw[if_pos h2,if_pos h2]
   ·rw[if_neg h2,if_neg h2];cases m x y<;>rfl
 | none=>
  simp only
  by_cases h2:ZZ y=true
  ·rw[if_pos h2,if_pos h2]
  ·rw[if_neg h2,if_neg h2];cases m (.map []) y<;>rfl
theorem Hq:∀ {l out:List (Lit×To)},(∃q∈l,aH m xs q.1 q.2=none)->DM m xs l out=none
 | [],_,⟨_,h,_⟩=>by cases h
 | (k,y)::r,out,⟨q,hq,h⟩=>by
  rw[Hr];cases hm:aH m xs k y with
  | none=>rfl
  | some o=>
   have hr:∃q∈r,aH m xs q.1 q.2=none:=by
    rcases HN.1 hq with rfl|hq
    ·rw[hm] at h;cases h
    ·exact⟨q,hq,h⟩
   cases o with
   | none=>exact Hq hr
   | some z=>exact Hq hr
def U7(es es':List (Lit×To))(k:Lit):Prop:=AI (.map es:To) k=AI (.map es':To) k/\(AT es).atKey k .nil=(AT es').atKey k .nil
theorem RF(k:By)(z:To)(es:List (Lit×To)):AI (.map (Zr (.string k) z es):To) (.string k)=true/\(AT (Zr (.string k) z es)).atKey (.string k) .nil=z:=
 ⟨has_put_same (D:=.map es) ⟨_,rfl⟩ (by exact trivial) z,atKey_put_same (D:=.map es) ⟨_,rfl⟩ (by exact trivial) z .nil⟩
theorem JH{j:Lit}(h:j≠k)(z:To)(es:List (Lit×To)):U7 (Zr k z es) es j:=
 ⟨has_put_other (D:=.map es) h z,HZ (D:=.map es) h z .nil⟩
theorem Ks:∀ {l out:List (Lit×To)},AL l->AL out->(∀q∈l,aH m xs q.1 q.2≠none) -> ∃q0,DM m xs l out=some q0/\AL q0 /\ ∀k:By,
  (∀y,(CL k,y)∈l->(aH m xs (.string k) y=some none->U7 q0 out (.string k)) /\ ∀z,aH m xs (.string k) y=some (some z)->AI (.map q0:To) (.string k)=true/\(AT q0).atKey (.string k) .nil=z) /\
  ((∀p∈l,p.1≠CL k)->U7 q0 out (.string k))
 | [],out,_,ho,_=>⟨out,rfl,ho,fun k=>⟨(fun y h=>by cases h),fun _=>⟨rfl,rfl⟩⟩⟩
 | (jl,y)::r,out,hs,ho,hn=>by
  obtain⟨j,ej⟩:=hs.2 _ A4;simp only at ej;subst ej;have hp:=HT.1 hs.1;have q8:AL r:=⟨hp.2,fun p h=>hs.2 p (A3 _ h)⟩
  have q5:∀p∈r,p.1≠CL j:=fun p h e=>by
   have:=hp.1 p h;rw[e,D9] at this;cases this
  have q6:∀q∈r,aH m xs q.1 q.2≠none:=fun q h=>hn q (A3 _ h);rw[Hr];have q7:=hn _ A4;simp only at q7;cases hm:aH m xs (.string j) y with
  | none=>exact absurd hm q7
  | some o=>
   cases o with
   | none=>
    obtain⟨q0,e,h1,h2⟩:=Ks q8 ho q6;refine⟨q0,e,h1,fun k=>⟨fun y' h=>?_,fun h=>(h2 k).2 fun p hp=>h p (A3 _ hp)⟩⟩;rcases HN.1 h with h|h
    ·injection h with e1 e2;injection e1 with e1;subst e1 e2;exact⟨fun _=>(h2 k).2 q5,fun z hz=>by rw[hm] at hz;cases hz⟩
    ·exact (h2 k).1 y' h
   | some z=>
    obtain⟨q0,e,h1,h2⟩:=Ks (out:=Zr (.string j) z out) q8 (FF ho) q6;refine⟨q0,e,h1,fun k=>⟨fun y' h=>?_,fun h=>?_⟩⟩
    ·rcases HN.1 h with h|h
     ·injection h with e1 e2;injection e1 with e1;subst e1 e2;refine⟨(fun h=>by rw[hm] at h;cases h),fun z' hz=>?_⟩;rw[hm] at hz;injection hz with hz;injection hz with hz;subst hz;have h3:=(h2 k).2 q5;have h4:=RF k z out;exact⟨h3.1.trans h4.1,h3.2.trans h4.2⟩
     ·have q4:(CL k) ≠ .string j:=q5 _ h;have h3:=(h2 k).1 y' h;have h4:=JH q4 z out;exact⟨fun he=>⟨(h3.1 he).1.trans h4.1,(h3.1 he).2.trans h4.2⟩,h3.2⟩
    ·have q4:(CL k) ≠ .string j:=fun e=>h _ A4 e.symm;have h3:=(h2 k).2 fun p hp=>h p (A3 _ hp);have h4:=JH q4 z out;exact⟨h3.1.trans h4.1,h3.2.trans h4.2⟩
def C7(xs bs:List (Lit×To)):List (Lit×To):=(xs.filter fun p=>!AI (.map bs:To) p.1).map fun p=>(p.1,AO 0)
theorem FL(h:AL xs):AL (C7 xs bs):=by
 unfold C7;refine⟨List.pairwise_map.2 (h.1.filter _),fun p hp=>?_⟩;obtain⟨q,hq,rfl⟩:=F5.1 hp;exact h.2 q (C1.1 hq).1
theorem Gy(h:AL es):Maps.Canon (.map es:To):=⟨es,rfl,h.1,fun p hp=>by obtain⟨s,e⟩:=h.2 p hp;rw[e];trivial⟩
theorem Nc(h:AL xs)(k:Lit):AI (.map (C7 xs bs):To) k=(AI (.map xs:To) k && !AI (.map bs:To) k)/\(AI (.map (C7 xs bs):To) k=true->(AT (C7 xs bs)).atKey k .nil=AO 0):=by
 have key:∀q∈C7 xs bs,∃p∈xs,q.1=p.1/\AI (.map bs:To) p.1=false/\q.2=AO 0:=fun q hq=>by
  unfold C7 at hq;obtain⟨p,hp,rfl⟩:=F5.1 hq;have h2:=C1.1 hp;exact⟨p,h2.1,rfl,by simpa using h2.2,rfl⟩
 constructor
 ·rw[Bool.eq_iff_iff,Bool.and_eq_true];constructor
  ·intro h1;obtain⟨q,hq,hs⟩:=A5.1 (show (C7 xs bs).any (fun q=>q.1.sameKey k)=true from h1);obtain⟨p,q0,e1,e2,_⟩:=key q hq;have ek:p.1=k:=by rw[<- e1];exact DD hs
   exact⟨A5.2 ⟨p,q0,by rw[<- e1];exact hs⟩,by rw[<- ek,e2];rfl⟩
  ·rintro⟨h1,h2⟩;obtain⟨p,q0,hs⟩:=A5.1 (show xs.any (fun q=>q.1.sameKey k)=true from h1);have ek:p.1=k:=DD hs;refine A5.2 ⟨(p.1,AO 0),F5.2 ⟨p,C1.2 ⟨q0,?_⟩,rfl⟩,hs⟩;rw[ek];exact h2
 ·intro h1;obtain⟨q,hq,hs⟩:=A5.1 (show (C7 xs bs).any (fun q=>q.1.sameKey k)=true from h1);obtain⟨p,q0,e1,e2,e3⟩:=key q hq;have ek:q.1=k:=DD hs;have q4:=apart_of_rising (FL (bs:=bs) h).1;have h3:=E0 .nil (by obtain⟨s,e⟩:=(FL (bs:=bs) h).2 q hq;rw[e];trivial) q4 (show (q.1,q.2)∈C7 xs bs from hq);rw[ek] at h3;rw[h3,e3]
end
def Src(f:Nat)(F:Nat->Prop)(w:CH)(v:Dp)(a:To):Prop:=∃b x n s sl mv,v=.pointer (some ⟨b,0,none⟩)/\VB w b x n s sl mv /\
 ((mv=.map none/\AG a=[]) \/ ∃m n' D,mv=.map (some m)/\w.ownsMap AS 9 RV m n' (.map D)/\Pt (Rep f F w) D (AG a))
theorem Q9{f:Nat}{w:CH}(h:Rep (f+1) F w v a):Src f F w v a:=by
 obtain⟨b,rfl,_,h⟩:=h;rcases h with⟨k,_,rfl,h⟩|⟨n,rfl,h,_⟩|⟨s,rfl,h⟩|⟨es,sl,ps,rfl,h,_⟩|⟨es,m,n,D,rfl,h,_,ho,hp⟩
 ·exact⟨b,_,_,_,_,_,rfl,h,G3 ⟨rfl,rfl⟩⟩
 ·exact⟨b,_,_,_,_,_,rfl,h,G3 ⟨rfl,rfl⟩⟩
 ·exact⟨b,_,_,_,_,_,rfl,h,G3 ⟨rfl,rfl⟩⟩
 ·exact⟨b,_,_,_,_,_,rfl,h,G3 ⟨rfl,rfl⟩⟩
 ·exact⟨b,_,_,_,_,_,rfl,h,HA ⟨m,n,D,rfl,ho,hp⟩⟩
theorem TA{f:Nat}{w:CH}{mv x:Dp}{xs:List (Lit×To)}(h:(mv=.map none/\xs=[]) \/ ∃m n' D,mv=.map (some m)/\w.ownsMap AS 9 RV m n' (.map D)/\Pt (Rep f F w) D xs)(hk:keyOf AS 9 x=some kl):
  ∃y,(match As xs kl with|none=>y=.pointer none|some c=>Rep f F w y c) /\ ∀w',D1 w.heap.size w w'->(HV 109 mv x true).run AS w'=.ok (.tuple #[y,.bool (As xs kl).isSome]) w':=by
 rcases h with⟨rfl,rfl⟩|⟨m,n',D,rfl,ho,hp⟩
 ·exact⟨.pointer none,rfl,fun w' _=>Maps.look_nil true Bw underlying109 (B0 w') hk⟩
 ·have q4:=A7 ho;have hh:=hp.has kl;cases hc:has (.map D:A1 Dp) kl with
  | false=>
   have e1:As xs kl=none:=by
    unfold As;rw[if_neg (by rw[<- hh,hc];simp)]
   rw[e1];refine⟨.pointer none,rfl,fun w' q0=>?_⟩;obtain⟨v1,q5,r1,q1⟩:=(Aj ho (q0.block m q4)).look_ok Bw underlying109 (B0 w') (zd:=.held (.pointer none)) (zp:=[]) rfl hk;obtain⟨rfl,_⟩:=Cb q1 (atKey_of_not_has hc _);rw[hc] at r1;exact r1
  | true=>
   obtain⟨y,e4,hy⟩:=hp.at kl hc;have e1:As xs kl=some ((AT xs).atKey kl .nil):=by
    unfold As;rw[if_pos (by rw[<- hh,hc])]
   rw[e1];refine⟨y,hy,fun w' q0=>?_⟩;obtain⟨v1,q5,r1,q1⟩:=(Aj ho (q0.block m q4)).look_ok Bw underlying109 (B0 w') (zd:=.held (.pointer none)) (zp:=[]) rfl hk;obtain⟨rfl,_⟩:=Cb q1 (e4 _);rw[hc] at r1;exact r1
structure Cn(f N:Nat)(w:CH)(F1:Nat->Prop)(H:Lit->Bool)(Z:Lit->To)(cnt:Nat)(wr:CH):Prop where
 bel:D1 w.heap.size w wr
 sz:w.heap.size<wr.heap.size
 el:∃n' D' es',n'+cnt<=N/\wr.ownsMap AS 9 RV w.heap.size n' (.map D')/\Pt (Rep f F1 wr) D' es'/\(∀k,AI (.map es':A1 Unit) k=H k) /\ ∀k,H k=true->(AT es').atKey k .nil=Z k
section
variable{f N:Nat}{w:CH}{F1:Nat->Prop}{H:Lit->Bool}{Z:Lit->To}{cnt:Nat}{wr:CH}
theorem Cn.grow{w1:CH}{it:Option Nat}(h:Cn f N w F1 H Z cnt wr)(hg:wr.grownBy w1 it)(hit:some w.heap.size≠it)(hlt:∀i,it=some i->w.heap.size<=i)(h2:∀k,F1 k->k<wr.heap.size->some k≠it/\F2 k):Cn f N w F2 H Z cnt w1:=by
 have hs:=h.sz;have q4:=hg.size;obtain⟨n',D',es',g1,g2,g3,g4⟩:=h.el;refine⟨⟨hg.os.trans h.bel.os,hg.tape.trans h.bel.tape,hg.output.trans h.bel.output,by omega,fun j hj=>(hg.block j (by omega) (fun e=>by have:=hlt j e.symm;omega)).trans (h.bel.block j hj)⟩,by omega,n',D',es',g1,Aj g2 (hg.block _ (by omega) hit),g3.mono fun _ _ hr=>hr.move fun k hk q0=>⟨hg.block k q0 (h2 k hk q0).1,(h2 k hk q0).2⟩,g4⟩
theorem Cn.low{w1:CH}(h:Cn f N w F1 H Z cnt wr)(hb:D1 wr.heap.size wr w1):Cn f N w F1 H Z cnt w1:=by
 obtain⟨n',D',es',g1,g2,g3,g4⟩:=h.el;exact⟨h.bel.trans (hb.mono h.bel.size),Nat.lt_of_lt_of_le h.sz hb.size,n',D',es',g1,Aj g2 (hb.block _ h.sz),g3.mono fun _ _ hr=>hr.bel hb,g4⟩
theorem Cn.as{H':Lit->Bool}{Z':Lit->To}(h:Cn f N w F1 H Z cnt wr)(hc:cnt1<=cnt)(hH:∀k,H k=H' k)(hZ:∀k,H' k=true->Z k=Z' k):Cn f N w F1 H' Z' cnt1 wr:=by
 obtain⟨n',D',es',g1,g2,g3,g4,g5⟩:=h.el;exact⟨h.bel,h.sz,n',D',es',by omega,g2,g3,fun k=>(g4 k).trans (hH k),fun k hk=>(g5 k (by rw[hH];exact hk)).trans (hZ k hk)⟩
theorem Cn.put(h:Cn f N w F1 H Z cnt wr)(hc:cnt1<cnt)(hN:N<maxLen)(hF:∀k,F1 k->k≠w.heap.size){x:Dp}(q0:keyOf AS 9 x=some kl)(kk:H0 kl){p:Addr}{d:To}(hv:Rep f F1 wr (.pointer (some p)) d):
  ∃w3,(HI 109 (.map (some w.heap.size)) x (.pointer (some p))).run AS wr=.ok () w3/\Cn f N w F1 (fun k=>k.sameKey kl || H k) (fun k=>if k.sameKey kl=true then d else Z k) cnt1 w3/\wr.grownBy w3 (some w.heap.size):=by
 have hs:=h.sz;obtain⟨n',D',es',g1,g2,g3,g4,g5⟩:=h.el;obtain⟨w3,q4,q5,hg⟩:=g2.update Bw underlying109 (by omega) q0 (val:=.pointer (some p)) (d:=.held (.pointer (some p))) (ps:=[]) rfl;have q7:=hg.size;have hk:∀j,j<wr.heap.size->j≠w.heap.size->w3.heap[j]? = wr.heap[j]?:=fun j h1 h2=>hg.block j h1 (fun e=>h2 (A2 e));obtain⟨D2,q6,e1,e2,ht⟩:=Pt.put kl (.pointer (some p)) d hv g3;rw[e1] at q5;refine⟨w3,q4,⟨⟨hg.os.trans h.bel.os,hg.tape.trans h.bel.tape,hg.output.trans h.bel.output,by omega,fun j hj=>(hk j (by omega) (by omega)).trans (h.bel.block j hj)⟩,by omega,n'+1,D2,q6,by omega,q5,ht.mono fun _ _ hr=>hr.move fun k h1 h2=>⟨hk k h2 (hF k h1),h1⟩,fun k=>?_,fun k=>?_⟩,hg⟩
 ·rw[<- e2];by_cases hkk:k=kl
  ·subst hkk;rw[has_put_same ⟨_,rfl⟩ kk,BY kk];rfl
  ·rw[has_put_other hkk,g4,Cg hkk];rfl
 ·rw[<- e2];by_cases hkk:k=kl
  ·subst hkk;intro _;rw[atKey_put_same ⟨_,rfl⟩ kk,if_pos (BY kk)]
  ·rw[HZ hkk,Cg hkk];intro hh;rw[if_neg (by decide)];exact g5 k (by simpa using hh)
end
def Eb(f:Nat)(F':Nat->Prop)(a b:To)(w:CH)(e:Ending)(w':CH):Prop:=D1 w.heap.size w w'/\match Z3 f a b with
 | none=>e=.returned (.tuple #[.pointer none,.bool false])
 | some z=>∃p,e=.returned (.tuple #[.pointer (some p),.bool true])/\Rep f (fun k=>F' k\/w.heap.size<=k) w' (.pointer (some p)) z
def Vj(d x:Int)(f:Nat):Prop:=∀ (g:Nat) (lv:Int) (F F':Nat->Prop) (w:CH) (v v':Dp) (a b:To),f=g+1->Src g F w v a->ZM d x g lv (AG a)->Ah g (AG a)<=1000000->Rep f F' w v' b->(∀k,F' k->k<w.heap.size)->Zl d x f lv b->Zh f b<=1000000 ->
 Calls AS 89 #[v,v'] w (Eb f F' a b w)
section
variable{d x:Int}
theorem T7{g:Nat}{w:CH}{v':Dp}{b:To}(hs:Src g F w v a)(h:Rep (g+1) F' w v' b)(hb:ZQ b=false):
  Calls AS 89 #[v,v'] w (Eb (g+1) F' a b w):=by
 obtain⟨ab,ax,an,q5,q4,q0,rfl,_⟩:=hs;obtain⟨tb,tx,tn,ts,q7,q6,rfl,ht,_,e6⟩:=C3 h;rw[hb] at e6;have e1:(tx != 6)=true:=e6;have c0:=ht.c0;have HR:=Ab h;have HE:=Ab (show Z3 (g+1) a b=some b by cases b<;>first|rfl|cases hb);obtain⟨Q,hQ⟩:∃Q,Q=Eb (g+1) F' a b w:=⟨_,rfl⟩
 rw[<- hQ];have HQ:=Ab hQ;clear h hb e6 ht hQ
 go_enter func89,ntmps89
 go_wp2_with (fail);show Q (.returned (.tuple #[.pointer (some ⟨tb,0,none⟩),.bool true])) _
 rw[Aa HQ];refine⟨C2 _ _,?_⟩;rw[Aa HE];exact⟨_,rfl,(Aa HR).move fun k hk _=>⟨rfl,G3 hk⟩⟩
noncomputable def CF(f:Nat)(xs bs:List (Lit×To))(k:Lit):Option (Option To):=aH (Z3 f) xs k ((AT bs).atKey k .nil)
noncomputable def B2(f:Nat)(xs bs:List (Lit×To))(left:Lit->Bool)(k:Lit):Bool:=if AI (.map bs:A1 Unit) k=true then (!left k && (match CF f xs bs k with|some (some _)=>true|_=>false)) else AI (.map xs:A1 Unit) k
noncomputable def DC(f:Nat)(xs bs:List (Lit×To))(k:Lit):To:=if AI (.map bs:A1 Unit) k=true then (match CF f xs bs k with|some (some z)=>z|_=>AO 0) else AO 0
theorem Fg(h:AL es)(hh:AI (.map es:A1 Unit) k=true):∃s c,k=.string s/\(CL s,c)∈es/\(AT es).atKey k .nil=c:=by
 obtain⟨p,hp,hs⟩:=A5.1 (show (es.any fun p=>p.1.sameKey k)=true from hh);obtain⟨s,e⟩:=h.2 p hp;have ek:p.1=k:=DD hs;obtain⟨pk,pv⟩:=p;simp only at e ek;subst e;subst ek;exact⟨s,pv,rfl,hp,E0 .nil (by exact trivial) (apart_of_rising h.1) hp⟩
theorem O3{s:By}{c:To}(h:AL es)(hm:(CL s,c)∈es):AI (.map es:A1 Unit) (.string s)=true/\(AT es).atKey (.string s) .nil=c:=
 ⟨A5.2 ⟨_,hm,CU.2 rfl⟩,E0 .nil (by exact trivial) (apart_of_rising h.1) hm⟩
theorem RM{f:Nat}(hb:AL bs)(hh:AI (.map bs:A1 Unit) k=true)(hn:CF f (AG a) bs k=none):Z3 (f+1) a (.map bs)=none:=by
 obtain⟨s,c,rfl,hm,e⟩:=Fg hb hh;unfold CF at hn;rw[e] at hn;show (DM (Z3 f) (AG a) bs (C7 (AG a) bs)).map AT=none;rw[Hq ⟨_,hm,hn⟩];rfl
theorem T8{f N cnt:Nat}{w wr w2:CH}(hM:Cn f N w F2 (B2 f (AG a) bs left) (DC f (AG a) bs) cnt wr)(hl:∀k,left k=false)(q6:∀k,AI (.map bs:A1 Unit) k=true->left k=false->CF f (AG a) bs k≠none)(q5:AL (AG a))(hsb:AL bs)(hb:D1 wr.heap.size wr w2)(hvb:VB w2 wr.heap.size 6 n0 [] (.slice none 0 0) (.map (some w.heap.size)))(q8:∀k,F2 k->F' k\/w.heap.size<=k):
  ∃z,Z3 (f+1) a (.map bs)=some z/\Rep (f+1) (fun k=>F' k\/w.heap.size<=k) w2 (.pointer (some ⟨wr.heap.size,0,none⟩)) z/\D1 w.heap.size w w2:=by
 obtain⟨out,e,q7,hk⟩:=Ks (m:=Z3 f) (xs:=AG a) hsb (FL (bs:=bs) q5) (fun q hq=>by
  obtain⟨s,es⟩:=hsb.2 q hq;obtain⟨qk,qv⟩:=q;simp only at es;subst es;obtain⟨h1,h2⟩:=O3 hsb hq;have:=q6 _ h1 (hl _);unfold CF at this;rw[h2] at this;exact this)
 obtain⟨n',D',es',g1,g2,g3,g4,g5⟩:=hM.el;have c':=g3.canon (g2.canon Bw);have q0:∀k,AI (.map es':A1 Unit) k=AI (.map out:A1 Unit) k/\(AI (.map es':A1 Unit) k=true->(AT es').atKey k .nil=(AT out).atKey k .nil):=by
  intro k;rw[g4];by_cases q4:∃s,k=.string s
  ·obtain⟨s,rfl⟩:=q4;rcases Ej bs s with⟨c,hc⟩|hno
   ·obtain⟨h1,h2⟩:=O3 hsb hc;have hf:CF f (AG a) bs (.string s)=aH (Z3 f) (AG a) (.string s) c:=by unfold CF;rw[h2]
    have hz:=(hk s).1 c hc;rw[<- hf] at hz;have qb:=q6 _ h1 (hl _);have gh:=Nc (bs:=bs) q5 (.string s);cases hfa:CF f (AG a) bs (.string s) with
    | none=>exact absurd hfa qb
    | some o=>
     cases o with
     | none=>
      have h3:=hz.1 hfa;have e1:B2 f (AG a) bs left (.string s)=false:=by unfold B2;rw[if_pos h1,hfa];simp
      have e2:AI (.map out:A1 Unit) (.string s)=false:=by rw[h3.1,gh.1,h1];simp
      rw[e1,e2];exact⟨rfl,fun h=>by cases h⟩
     | some z=>
      have h3:=hz.2 z hfa;have e1:B2 f (AG a) bs left (.string s)=true:=by unfold B2;rw[if_pos h1,hfa,hl];rfl
      refine⟨e1.trans h3.1.symm,fun h=>?_⟩;rw[g5 _ h,h3.2];unfold DC;rw[if_pos h1,hfa]
   ·have h1:AI (.map bs:A1 Unit) (.string s)=false:=by
     cases h:AI (.map bs:A1 Unit) (.string s) with
     | false=>rfl
     | true=>
      obtain⟨s',c,e1,hm,_⟩:=Fg hsb h;exact absurd e1.symm (hno _ hm)
    have h3:=(hk s).2 hno;have gh:=Nc (bs:=bs) q5 (.string s);have e1:B2 f (AG a) bs left (.string s)=AI (.map (AG a):A1 Unit) (.string s):=by unfold B2;rw[if_neg (by rw[h1];decide)]
    have e2:AI (.map out:A1 Unit) (.string s)=AI (.map (AG a):A1 Unit) (.string s):=by rw[h3.1,gh.1,h1];simp
    refine⟨e1.trans e2.symm,fun h=>?_⟩;rw[g5 _ h,h3.2,gh.2 (by rw[<- h3.1,e2,<- e1];exact h)];unfold DC;rw[if_neg (by rw[h1];decide)]
  ·have no:∀es:List (Lit×To),AL es->AI (.map es:A1 Unit) k=false:=fun es h=>by
    cases hh:AI (.map es:A1 Unit) k with
    | false=>rfl
    | true=>
     obtain⟨s,_,e1,_⟩:=Fg h hh;exact absurd ⟨s,e1⟩ q4
   have e1:B2 f (AG a) bs left k=false:=by unfold B2;rw[if_neg (by rw[no bs hsb];decide),no _ q5]
   rw[e1,no out q7];exact⟨rfl,fun h=>by cases h⟩
 have q9:es'=out:=MM c' (Gy q7) (fun k=>(q0 k).1) (fun k hh=>(q0 k).2 hh);subst q9;refine⟨.map es',?_,⟨wr.heap.size,rfl,HA (Nat.le_of_lt hM.sz),HA (HA (HA (HA ⟨es',w.heap.size,n',D',rfl,hvb,HA (CD _),Aj g2 (hb.block _ hM.sz),g3.mono fun _ _ hr=>hr.move fun k h1 h2=>⟨hb.block k h2,q8 k h1⟩⟩)))⟩,hM.bel.trans (hb.mono hM.bel.size)⟩;show (DM (Z3 f) (AG a) bs (C7 (AG a) bs)).map AT=some (.map es');rw[e];rfl
theorem Sh{f N cnt:Nat}{w w3:CH}{xs:List (Lit×To)}(h:Cn f N w F2 (B2 f xs bs left) (DC f xs bs) cnt w3)(hc:cnt1<cnt)(hb:AI (.map bs:A1 Unit) kl=true)(hf:CF f xs bs kl=some none):
  Cn f N w F2 (B2 f xs bs (fun z=>left z && !z.sameKey kl)) (DC f xs bs) cnt1 w3:=by
 refine h.as (by omega) (fun k=>?_) (fun k _=>rfl);unfold B2;by_cases hkk:k=kl
 ·subst hkk;rw[if_pos hb,if_pos hb,hf];simp
 ·simp[Cg hkk]
theorem Uy{f N cnt:Nat}{w w3:CH}{xs:List (Lit×To)}{x:Dp}{p:Addr}{z:To}(h:Cn f N w F2 (B2 f xs bs left) (DC f xs bs) cnt w3)(hc:cnt1<cnt)(hN:N<maxLen)(hF:∀k,F2 k->k≠w.heap.size)(q0:keyOf AS 9 x=some kl)(hkk:H0 kl)(hb:AI (.map bs:A1 Unit) kl=true)(hf:CF f xs bs kl=some (some z))(hv:Rep f F2 w3 (.pointer (some p)) z):
  ∃w4,(HI 109 (.map (some w.heap.size)) x (.pointer (some p))).run AS w3=.ok () w4/\Cn f N w F2 (B2 f xs bs (fun z=>left z && !z.sameKey kl)) (DC f xs bs) cnt1 w4/\w3.grownBy w4 (some w.heap.size):=by
 obtain⟨w4,q4,hM,hg⟩:=h.put hc hN hF q0 hkk hv;refine⟨w4,q4,hM.as (CD _) (fun k=>?_) (fun k _=>?_),hg⟩
 ·unfold B2;by_cases hk:k=kl
  ·subst hk;rw[if_pos hb,if_pos hb,hf];simp[BY hkk]
  ·simp[Cg hk]
 ·by_cases hk:k=kl
  ·subst hk;rw[if_pos (BY hkk)];unfold DC;rw[if_pos hb,hf]
  ·rw[Cg hk,if_neg (by decide)]
theorem Si{f:Nat}{xs:List (Lit×To)}(hg:As xs kl=none):CF f xs bs kl=if ZZ ((AT bs).atKey kl .nil)=true then none else (Z3 f (.map []) ((AT bs).atKey kl .nil)).map some:=by
 unfold CF aH;rw[hg]
theorem Sg{f:Nat}{xs:List (Lit×To)}{y:To}(hg:As xs kl=some y):CF f xs bs kl=if veq y ((AT bs).atKey kl .nil)=true then some none else if ZZ ((AT bs).atKey kl .nil)=true then none else (Z3 f y ((AT bs).atKey kl .nil)).map some:=by
 unfold CF aH;rw[hg]
theorem R8{xs:List (Lit×To)}{y:To}(hs:AL xs)(hg:As xs kl=some y):∃s,(CL s,y)∈xs:=by
 unfold As at hg;split at hg
 ·rename_i h;obtain⟨s,c,rfl,hm,e⟩:=Fg hs h;injection hg with hg;exact⟨s,by rw[<- hg,e];exact hm⟩
 ·cases hg
theorem Gd{g:Nat}{v:To}(h:Zl d x (g+1) lv v):ZM d x g lv (AG v)/\Ah g (AG v)<=Zh (g+1) v:=by
 cases v with
 | map es=>
  refine⟨(B8 h).2,?_⟩;have h2:Zh (g+1) (.map es)=2+Ah g es:=CA g es;rw[h2];exact Nat.le_add_left _ _
 | _=>exact⟨⟨D3,fun p hp=>by cases hp⟩,HJ _⟩
theorem Wo{f:Nat}{w:CH}{tb mt nt:Nat}{Dt:List (Lit×A1 Dp)}(hS:Vj d x f)(ha:Src f F w v a)(y9:ZM d x f lv (AG a))(y8:Ah f (AG a)<=1000000)(ht:VB w tb 6 n0 [] (.slice none 0 0) (.map (some mt)))(yg:w.ownsMap AS 9 RV mt nt (.map Dt))(jc:Pt (Rep f F' w) Dt bs)(j8:ZM d x f lv bs)(j4:Ah f bs<=1000000)(yy:∀k,F' k->k<w.heap.size):
  Calls AS 89 #[v,.pointer (some ⟨tb,0,none⟩)] w (Eb (f+1) F' a (.map bs) w):=by
 have z6:=Bw;have j9:=B0;have xb:=@run_makeMap AS;obtain⟨ab,ax,an,x8,x7,mv,rfl,y6,qz⟩:=ha;obtain⟨xs,yj⟩:∃xs,xs=AG a:=⟨_,rfl⟩
 rw[<- yj] at y9 y8 qz;have t0:=ht.c0;have t6:=ht.c6;have a6:=y6.c6;have hal:=y6.lt;have yf:=ht.lt;have zg:=A7 yg;obtain⟨W1,z1⟩:∃W1,W1=w.alloc (.map #[] 0):=⟨_,rfl⟩
 have ja:W1.heap.size=w.heap.size+1:=by rw[z1];simp
 have hb1:D1 w.heap.size w W1:=by rw[z1];exact (C2 _ _).alloc (CD _) _
 have d6:W1.cell? ⟨ab,6,none⟩=some mv:=(Bs (w:=w) (a:=⟨ab,6,none⟩) (hb1.block ab hal)).trans a6;have u6:W1.cell? ⟨tb,6,none⟩=some (.map (some mt)):=(Bs (w:=w) (a:=⟨tb,6,none⟩) (hb1.block tb yf)).trans t6;have yz:Cn f (xs.length+bs.length) w (fun k=>(F' k\/w.heap.size<=k)/\k≠w.heap.size/\k≠w.heap.size+1) (fun _=>false) (fun _=>AO 0) (xs.length+bs.length) W1:=by
  have qp:=World.ownsMap_made w AS 9 RV;rw[<- z1] at qp;exact⟨hb1,by omega,0,[],[],by omega,qp,trivial,fun _=>rfl,fun k hk=>by cases hk⟩
 have yo:=Ab yz;have je:=Ab hb1;have zr:=Ab ja;have zc:=Ab qz;have yt:=Ab yg;have qu:=Ab jc;have zq:=Ab y9;have zb:=Ab j8;have zx:=Ab y8;have zy:=Ab j4;have zn:=Ab yy;have HS:=Ab hS;have yw:=Ab yj;have yu:=Ab z1;have A6:=Ab (show mv=mv/\w.cell? ⟨ab,6,none⟩=some mv from⟨rfl,a6⟩);rw[z1] at d6 u6;obtain⟨Q,hQ⟩:∃Q,Q=Eb (f+1) F' a (.map bs) w:=⟨_,rfl⟩
 rw[<- hQ];have HQ:=Ab hQ;clear yz qz yg jc y9 j8 y8 j4 yy hS yj y6 ht hb1 ja z1 a6 hQ
 go_enter func89,ntmps89
 go_upto_region 4 with (fail)
 rw[<- Aa yu]
 go_cut [27] (fun x3 wx=>x3=.pointer (some ⟨w.heap.size+1,0,none⟩)/\Hid (D1 W1.heap.size W1 wx/\wx.heap.size=w.heap.size+2/\((mv=.map none/\xs=[]/\wx=W1.alloc (.mapIter none 0 #[] 0)) \/ ∃m n' D,mv=.map (some m)/\Pt (Rep f F w) D xs/\w.ownsMap AS 9 RV m n' (.map D)/\wx.ranges AS 9 RV m (w.heap.size+1) n' (.map D) (has (.map D:A1 Dp)) (Maps.size (.map D:A1 Dp)))))
 case first=>
  rw[<- Aa yu] at d6;rcases Aa zc with⟨rfl,yi⟩|⟨m,n',D,rfl,ho,hp⟩
  ·have qg:=run_range_nilMap (P:=AS) W1 109 9 80 underlying109
   go_wp2_with (fail)
   go_meet
   exact⟨by rw[Aa zr],(C2 _ _).alloc (CD _) _,by simp[Aa zr],G3 ⟨trivial,yi,rfl⟩⟩
  ·have jj:=Ab (Aj ho ((Aa je).block m (A7 ho)));have HO:=Ab ho;have HP:=Ab hp;clear ho hp
   go_wp2_with (first
    | (at_range;refine HX _ rfl _ 109 rfl 9 80 z6 underlying109 RV m n' _ rfl (Aa jj) ?_;intro w0 qj ze zw)
    | go_in)
   have e0:=Aa zr;have yq:=Ab qj;rw[e0] at yq zw;have HG:=Ab (BA ze);clear qj ze;simp only[e0]
   go_wp2_with (fail)
   go_meet
   exact⟨rfl,Aa HG,zw,HA ⟨m,n',D,rfl,Aa HP,Aa HO,Aa yq⟩⟩
 case rest=>
  obtain⟨rfl,HC⟩:=hcut
  go_upto_block 0 with fail
  go_cut [] (fun wx=>Hid (Cn f (xs.length+bs.length) w (fun k=>(F' k\/w.heap.size<=k)/\k≠w.heap.size/\k≠w.heap.size+1) (fun k=>AI (.map xs:A1 Unit) k && !AI (.map bs:A1 Unit) k) (fun _=>AO 0) bs.length wx))
  case first=>
   obtain⟨hb2,hs2,hc⟩:=Aa HC;rcases hc with⟨_,yi,rfl⟩|⟨m,n',D,_,hp,ho,qg⟩
   ·have jx:∀ty,(Instr.next (.pointer (some ⟨W1.heap.size,0,none⟩)) false ty).run AS (W1.alloc (.mapIter none 0 #[] 0))=_:=fun ty=>run_next_nilMap W1 ty 0 0 #[];rw[Aa zr] at jx;have za:=Ab ((Aa yo).low hb2);clear hb2 hs2 HC
    go_wp2_with (fail);refine wp_loop_rounds 1 ?_
    rw[rounds_succ]
    go_wp2_with (fail)
    go_meet
    exact (Aa za).as (by omega) (fun k=>by rw[yi];rfl) (fun k h=>by rfl)
   ·have za:=Ab ((Aa yo).low hb2);have HP:=Ab hp;clear hb2 hp HC
    go_wp2_with (fail)
    go_loopw [] (fun wr=>∃ (left:Lit->Bool) (cnt:Nat),wr.ranges AS 9 RV m (w.heap.size+1) n' (.map D) left cnt/\Hid (Cn f (xs.length+bs.length) w (fun k=>(F' k\/w.heap.size<=k)/\k≠w.heap.size/\k≠w.heap.size+1) (fun k=>AI (.map xs:A1 Unit) k && !left k && !AI (.map bs:A1 Unit) k) (fun _=>AO 0) (cnt+bs.length) wr))
     (fun wr=>wr.rangeLeft m (w.heap.size+1))
    case atStart=>
     refine⟨_,_,qg,(Aa za).as ?_ (fun k=>?_) (fun k _=>rfl)⟩
     ·have:=(Aa HP).size;rw[H2];omega
     ·rw[(Aa HP).has k];cases AI (.map xs:A1 Unit) k<;>rfl
    case round=>
     obtain⟨left,cnt,qg,G⟩:=hrel
     go_wp2_with (first
      | (at_next;refine HU _ rfl _ rfl 9 z6 RV id id (fun key _ _=>⟨key,rfl⟩) (fun v _ _=>⟨v,rfl⟩) m (w.heap.size+1) n' _ _ _ rfl qg ?_ ?_)
      | go_in)
     ·intro _ hl0;have y3:=Ab ((Aa G).as (H':=fun k=>AI (.map xs:A1 Unit) k && !AI (.map bs:A1 Unit) k) (Z':=fun _=>AO 0) (cnt1:=bs.length) (by omega) (fun k=>by rw[hl0];simp) (fun k _=>rfl));clear qg
      go_wp2_with (fail)
      go_meet
      exact Aa y3
     ·intro x c kl yd yp w1 cnt1 q9 j7 hv qw q6 hlt zu qy ju;have zl:H3 c=yd:=congrArg Prod.fst (A2 hv);subst zl;have q7:AI (.map D:A1 Dp) kl=true:=HW qw
      obtain⟨c',_,q5⟩:=(Aa HP).at kl q7;have qn:AI (.map xs:A1 Unit) kl=true:=by rw[<- (Aa HP).has kl];exact q7
      obtain⟨g0,rfl⟩:∃g0,f=g0+1:=by
       cases f with
       | zero=>exact q5.elim
       | succ g0=>exact⟨g0,rfl⟩
      have G1:=Ab ((Aa G).grow zu (by simp) (fun i hi=>by have:=A2 hi;omega) (F2:=fun k=>(F' k\/w.heap.size<=k)/\k≠w.heap.size/\k≠w.heap.size+1) (fun k hk _=>⟨fun e=>hk.2.2 (A2 e),hk⟩));have xe:w1.cell? ⟨tb,6,none⟩=some (.map (some mt)):=(Bs (w:=w) (a:=⟨tb,6,none⟩) ((Aa G1).bel.block tb yf)).trans t6;have zk:=Aj (Aa yt) ((Aa G1).bel.block mt zg);have jf:=Ab qn;have zv:=(Aa qu).has kl;have hkk:=Is (Gy (Aa zq).skey) qn;cases hh:AI (.map Dt:A1 Dp) kl with
      | true=>
       have hb2:AI (.map bs:A1 Unit) kl=true:=by rw[<- zv,hh]
       have G2:=Ab ((Aa G1).as (H':=fun k=>AI (.map xs:A1 Unit) k && !(left k && !k.sameKey kl) && !AI (.map bs:A1 Unit) k) (Z':=fun _=>AO 0) (cnt1:=cnt1+bs.length) (by omega) (fun k=>by
        by_cases hkk:k=kl
        ·subst hkk;rw[hb2];simp
        ·rw[Cg hkk];simp) (fun k _=>rfl))
       clear qw q5 qn q7 hv zv hb2 hkk
       go_wp2_with (first
        | (at_lookup;refine HK _ rfl _ _ 109 rfl 9 80 z6 underlying109 RV (j9 _) (.held (.pointer none)) [] rfl mt nt (.map Dt) rfl zk _ kl rfl q9 ?_;intro v2 x2 zl;rw[hh];go_frame)
        | go_in)
       go_roundw
       case rel=>exact⟨_,cnt1,q6,G2⟩
       case measure=>rw[q6.left_eq,qg.left_eq];exact hlt
      | false=>
       have hb2:AI (.map bs:A1 Unit) kl=false:=by rw[<- zv,hh]
       obtain⟨w2,yh⟩:∃w2,w2=w1.alloc (.cells #[.int .i64 0,.bool false,.string ⟨#[]⟩,.int .i64 0,.string ⟨#[]⟩,.slice none 0 0,.map none] 111):=⟨_,rfl⟩
       have y7:D1 w1.heap.size w1 w2:=by rw[yh];exact (C2 _ _).alloc (CD _) _
       have hvb:VB w2 w1.heap.size 0 n0 [] (.slice none 0 0) (.map none):=by rw[yh];exact HL w1 _
       have jy:=(Aa G1).sz;have jz:w.heap.size+1<w1.heap.size:=q6.lt;obtain⟨w3,qk,j3,j5⟩:=((Aa G1).low y7).put (cnt1:=cnt1+bs.length) (by omega) (by have:=Da (g0+1) xs;have:=Da (g0+1) bs;have:=Aa zx;have:=Aa zy;unfold maxLen;omega) (fun k hk=>hk.2.1) q9 hkk (p:=⟨w1.heap.size,0,none⟩) (d:=AO 0) ⟨w1.heap.size,rfl,⟨HA (by omega),by omega,by omega⟩,G3 ⟨0,by omega,rfl,hvb⟩⟩;have jh:=Ab (j3.as (H':=fun k=>AI (.map xs:A1 Unit) k && !(left k && !k.sameKey kl) && !AI (.map bs:A1 Unit) k) (Z':=fun _=>AO 0) (cnt1:=cnt1+bs.length) (CD _) (fun k=>by
        by_cases hkk:k=kl
        ·subst hkk;rw[BY (by assumption),Aa jf,hb2];simp
        ·rw[Cg hkk];simp) (fun k _=>by split<;>rfl))
       have zi:=(q6.kept (A9 y7) (by simp) (by simp)).kept j5 (fun e=>by have:=A2 e;have:=A7 ho;omega) (fun e=>by have:=A2 e;omega);rw[yh,qy] at qk;clear qw q5 qn q7 hv zv hb2 hkk j3 hvb y7 j5
       go_wp2_with (first
        | (at_lookup;refine HK _ rfl _ _ 109 rfl 9 80 z6 underlying109 RV (j9 _) (.held (.pointer none)) [] rfl mt nt (.map Dt) rfl zk _ kl rfl q9 ?_;intro v2 x2 zl;rw[hh];go_frame)
        | go_in)
       go_roundw
       case rel=>exact⟨_,cnt1,zi,jh⟩
       case measure=>rw[zi.left_eq,qg.left_eq];exact hlt
  case rest=>
   have hM:=Aa hcut;have x5:wc.cell? ⟨tb,6,none⟩=some (.map (some mt)):=(Bs (w:=w) (a:=⟨tb,6,none⟩) (hM.bel.block tb yf)).trans t6;have jo:=Ab (Aj (Aa yt) (hM.bel.block mt zg));have ji:=Ab hM;have x0:=hM.sz;clear hM hcut d6 u6
   go_wp2_with (first
    | (at_range;refine HX _ rfl _ 109 rfl 9 80 z6 underlying109 RV mt nt _ rfl (Aa jo) ?_;intro w0 qj ze zw)
    | go_in)
   have za:=Ab (((Aa ji).grow (it:=none) ze (by simp) (fun i hi=>by cases hi) (F2:=fun k=>(F' k\/w.heap.size<=k)/\k≠w.heap.size/\k≠wc.heap.size) (fun k hk qx=>⟨by simp,hk.1,hk.2.1,by omega⟩)).as (H':=B2 f xs bs (has (.map Dt:A1 Dp))) (Z':=DC f xs bs) (cnt1:=Maps.size (.map Dt:A1 Dp)) (by have:=(Aa qu).size;rw[H2];omega) (fun k=>by
     unfold B2;rw[(Aa qu).has k];cases h:AI (.map bs:A1 Unit) k<;>simp) (fun k hk=>by
     unfold B2 at hk;rw[(Aa qu).has k] at hk;unfold DC;cases h:AI (.map bs:A1 Unit) k with
     | true=>rw[h] at hk;simp at hk
     | false=>rfl))
   clear ze zw x5
   go_loopw [] (fun wr=>∃ (left:Lit->Bool) (cnt:Nat),wr.ranges AS 9 RV mt wc.heap.size nt (.map Dt) left cnt/\Hid (Cn f (xs.length+bs.length) w (fun k=>(F' k\/w.heap.size<=k)/\k≠w.heap.size/\k≠wc.heap.size) (B2 f xs bs left) (DC f xs bs) cnt wr /\ ∀k,AI (.map bs:A1 Unit) k=true->left k=false->CF f xs bs k≠none))
    (fun wr=>wr.rangeLeft mt wc.heap.size)
   case atStart=>
    refine⟨_,_,qj,Aa za,fun k h1 h2=>?_⟩;rw[(Aa qu).has k,h1] at h2;cases h2
   case round=>
    obtain⟨left,cnt,qg,G0⟩:=hrel
    go_wp2_with (first
     | (at_next;refine HU _ rfl _ rfl 9 z6 RV id id (fun key _ _=>⟨key,rfl⟩) (fun v _ _=>⟨v,rfl⟩) mt wc.heap.size nt _ _ _ rfl qg ?_ ?_)
     | go_in)
    ·intro _ hl0;have hx:=Aa yw;have HD:=Ab (fun (w2:CH) (hb:D1 wr.heap.size wr w2) (hv:VB w2 wr.heap.size 6 n0 [] (.slice none 0 0) (.map (some w.heap.size)))=>T8 (F':=F') (F2:=fun k=>(F' k\/w.heap.size<=k)/\k≠w.heap.size/\k≠wc.heap.size) (a:=a) (by rw[<- hx];exact (Aa G0).1) hl0 (by rw[<- hx];exact (Aa G0).2) (by rw[<- hx];exact (Aa zq).skey) (Aa zb).skey hb hv (fun k hk=>hk.1));clear qj qg hx
     go_wp2_with (fail);show Q (.returned (.tuple #[.pointer (some ⟨wr.heap.size,0,none⟩),.bool true])) _
     rw[Aa HQ];obtain⟨z,e1,e2,e3⟩:=Aa HD _ ((C2 _ _).alloc (CD _) _) (HL wr _);refine⟨e3,?_⟩;rw[e1];exact⟨_,rfl,e2⟩
    ·intro kx c kl yd yp w1 cnt1 q9 j7 hv qw q6 hlt zu qy ju;have zl:H3 c=yd:=congrArg Prod.fst (A2 hv);subst zl;have q7:AI (.map Dt:A1 Dp) kl=true:=HW qw
     obtain⟨c',e1,q5⟩:=(Aa qu).at kl q7;have e2:c'=c:=by
      have e3:=(e1 .nil).symm.trans (qw .nil);injection e3
     subst e2;have qd:AI (.map bs:A1 Unit) kl=true:=by rw[<- (Aa qu).has kl];exact q7
     obtain⟨g0,qe⟩:∃g0,f=g0+1:=by
      cases f with
      | zero=>exact q5.elim
      | succ g0=>exact⟨g0,rfl⟩
     obtain⟨ks,yc,jw,yk,jd⟩:=Fg (Aa zb).skey qd;obtain⟨y,hy⟩:∃y,y=(AT bs).atKey kl .nil:=⟨_,rfl⟩
     rw[<- hy] at q5 jd;subst jd;obtain⟨_,hgy⟩:=(Aa zb).2 _ yk;have jb:Zh f y<=1000000:=CR (FH yk) (Aa zy);have hlv:=E3 hgy;have zt:=(Aa G0).1.grow zu (by simp;omega) (fun i hi=>by have:=A2 hi;omega) (F2:=fun k=>(F' k\/w.heap.size<=k)/\k≠w.heap.size/\k≠wc.heap.size) (fun k hk _=>⟨fun e=>hk.2.2 (A2 e),hk⟩);have ya:=(Aa G0).2;have x1:wc.heap.size<w1.heap.size:=q6.lt;have qh:=zt.bel;obtain⟨pb,pk,pn,xd,psl,pmv,jt,yb,qf,_⟩:=C3 q5;subst jt;have ck:w1.cell? ⟨pb,0,none⟩=some (.int .i64 pk):=(yb.kept (qh.block pb yb.lt)).c0;have x6:w1.cell? ⟨ab,6,none⟩=some mv:=(Bs (w:=w) (a:=⟨ab,6,none⟩) (qh.block ab hal)).trans (Aa A6).2;obtain⟨yv,qq,j6⟩:=TA (Aa zc) q9;have L1:=Ab (j6 w1 qh);have hkk:=Is (Gy (Aa zb).skey) qd
     -- what a call leaves,laid down
     have z8:=Ab (fun (A:To) (w2 w3:CH) (p:Addr) (z:To) (zs:D1 w1.heap.size w1 w2) (yx:D1 w2.heap.size w2 w3) (hf:CF f xs bs kl=some (some z)) (hv:Rep f (fun k=>F' k\/w2.heap.size<=k) w3 (.pointer (some p)) z)=>(by
      obtain⟨w4,qk,qv,jv⟩:=Uy (cnt1:=cnt1) ((zt.low zs).low yx) hlt (by have:=Da f xs;have:=Da f bs;have:=Aa zx;have:=Aa zy;unfold maxLen;omega) (fun k hk=>hk.2.1) q9 hkk qd hf (hv.move fun k hk qx=>⟨rfl,by
       rcases hk with hk|hk
       ·have:=Aa zn k hk;exact⟨G3 hk,by omega,by omega⟩
       ·have:=zs.size;exact⟨HA (by omega),by omega,by omega⟩⟩)
      have qb:=(q6.kept (A9 (zs.trans (yx.mono zs.size))) (by simp) (by simp)).kept jv (fun e=>by have:=A2 e;omega) (fun e=>by have:=A2 e;omega);refine⟨w4,qk,qb,qv,fun k h1 h2=>?_⟩;by_cases qx:k=kl
      ·subst qx;rw[hf];simp
      ·refine ya k h1 ?_;rw[Cg qx] at h2;simpa using h2:∃w4,(HI 109 (.map (some w.heap.size)) kx (.pointer (some p))).run AS w3=.ok () w4/\w4.ranges AS 9 RV mt wc.heap.size nt (.map Dt) (fun z=>left z && !z.sameKey kl) cnt1/\Cn f (xs.length+bs.length) w (fun k=>(F' k\/w.heap.size<=k)/\k≠w.heap.size/\k≠wc.heap.size) (B2 f xs bs (fun z=>left z && !z.sameKey kl)) (DC f xs bs) cnt1 w4 /\ ∀k,AI (.map bs:A1 Unit) k=true->(left k && !k.sameKey kl)=false->CF f xs bs k≠none))
     have jk:=Ab ya;have zz:=Ab zt;have qt:=Ab q5;have q0:=Ab qh;have jg:=Ab q9;have HB:=Ab qd;have ym:=Ab (show Zl d x f (lv+1) y from hgy);have yr:=Ab jb;have y5:=Ab q6;have zo:=Ab hlt;have qm:=Ab (fun (h:CF f xs bs kl=none)=>show Z3 (f+1) a (.map bs)=none from RM (k:=kl) (Aa zb).skey qd (by rw[<- Aa yw];exact h));have jr:=Aa zn;clear ya zt q5 qh q7 qd qw e1 yk hgy jb hlv j6 hkk hv yb q6 hlt zu j7 jw jr;cases hgx:As xs kl with
     | none=>
      rw[hgx] at qq;obtain rfl:yv=.pointer none:=qq;have L2:=Ab (show (HV 109 mv kx true).run AS w1=.ok (.tuple #[.pointer none,.bool false]) w1 by have:=Aa L1;rw[hgx] at this;exact this);have hfa:=Si (f:=f) (bs:=bs) hgx;rw[<- hy] at hfa;cases hn:ZZ y with
      | true=>
       rw[hn] at qf hfa;have ek:(pk==0)=true:=by simpa using qf
       have q8:=Ab (Aa qm (by rw[hfa];rfl));clear qf hfa hgx L1
       go_wp2_with (first|(at_lookup;refine BR rfl _ _ 109 true rfl _ _ _ rfl rfl (Aa L2) ?_)|fail)
       show Q (.returned (.tuple #[.pointer none,.bool false])) _;rw[Aa HQ];refine⟨Aa q0,?_⟩;rw[Aa q8]
      | false=>
       rw[hn] at qf hfa;have ek:(pk==0)=false:=by simpa using qf
       have qo:D1 w1.heap.size w1 (w1.alloc (.cells #[.int .i64 6,.bool false,.string ⟨#[]⟩,.int .i64 0,.string ⟨#[]⟩,.slice none 0 0,.map none] 111)):=(C2 _ _).alloc (CD _) _;have hvb:VB (w1.alloc (.cells #[.int .i64 6,.bool false,.string ⟨#[]⟩,.int .i64 0,.string ⟨#[]⟩,.slice none 0 0,.map none] 111)) wr.heap.size 6 n0 [] (.slice none 0 0) (.map none):=by rw[<- qy];exact HL w1 _
       have qr:=Ab qo;have HC:=Ab (Aa HS g0 (lv+1) F F' _ (.pointer (some ⟨wr.heap.size,0,none⟩)) _ (.map []) y qe ⟨wr.heap.size,6,_,_,_,_,rfl,hvb,G3 ⟨rfl,rfl⟩⟩ ⟨D3,fun p hp=>by cases hp⟩ (HJ _) (((Aa qt).bel (Aa q0)).bel qo) (fun k hk=>by have:=Aa zn k hk;have:=(Aa q0).size;have:=qo.size;omega) (Aa ym) (Aa yr));clear qf hgx L1 qo hvb
       go_wp2_with (first|(at_lookup;refine BR rfl _ _ 109 true rfl _ _ _ rfl rfl (Aa L2) ?_)|fail)
       refine (Aa HC).mono ?_;rintro e w3 ⟨hb3,he⟩;cases hm:Z3 f (.map []) y with
       | none=>
        rw[hm] at he hfa;obtain rfl:e=.returned (.tuple #[.pointer none,.bool false]):=he;have q8:=Ab (Aa qm (by rw[hfa];rfl));have z7:=Ab ((Aa q0).trans (((Aa qr).trans (hb3.mono (Aa qr).size)).mono (Aa q0).size));clear hfa hb3 HC
        go_wp2_with (fail);show Q (.returned (.tuple #[.pointer none,.bool false])) _
        rw[Aa HQ];refine⟨Aa z7,?_⟩;rw[Aa q8]
       | some z=>
        rw[hm] at he hfa;obtain⟨p,rfl,hz⟩:=he;obtain⟨w4,qk,qb,qv,qi⟩:=Aa z8 (.map []) _ w3 p z (Aa qr) hb3 (by rw[hfa];rfl) hz;have y4:=Ab (H1 qv qi);clear hfa hb3 HC hz qv qi
        go_wp2_with (fail)
        go_roundw
        case rel=>exact⟨_,cnt1,qb,y4⟩
        case measure=>rw[qb.left_eq,qg.left_eq];exact Aa zo
     | some xv=>
      rw[hgx] at qq;have qq:Rep f F w yv xv:=qq;have L2:=Ab (show (HV 109 mv kx true).run AS w1=.ok (.tuple #[yv,.bool true]) w1 by have:=Aa L1;rw[hgx] at this;exact this);have hfa:=Sg (f:=f) (bs:=bs) hgx;rw[<- hy] at hfa;have q4:=Ab (Eq f F F' w1 yv _ xv y (qq.bel (Aa q0)) ((Aa qt).bel (Aa q0)));obtain⟨sx,ye⟩:=R8 (Aa zq).skey hgx;obtain⟨_,zf⟩:=(Aa zq).2 _ ye;have zj:Zh f xv<=1000000:=CR (FH ye) (Aa zx);have jp:=Ab qq;have yl:=Ab (show Zl d x f (lv+1) xv from zf);have jm:=Ab zj;clear qq hgx L1 ye zf zj;cases hveq:veq xv y with
      | true=>
       rw[hveq] at q4 hfa;clear qf
       go_wp2_with (first|(at_lookup;refine BR rfl _ _ 109 true rfl _ _ _ rfl rfl (Aa L2) ?_)|fail)
       refine (Aa q4).mono ?_;rintro e w2 ⟨rfl,hb2⟩;have zh:=(Aa y5).kept (A9 hb2) (by simp) (by simp);have y3:=Ab (H1 (Sh ((Aa zz).low hb2) (Aa zo) (Aa HB) (by rw[hfa];rfl)) (fun k (h1:AI (.map bs:A1 Unit) k=true) (h2:(left k && !k.sameKey kl)=false)=>show CF f xs bs k≠none by
        by_cases qx:k=kl
        ·subst qx;rw[hfa];simp
        ·refine Aa jk k h1 ?_;rw[Cg qx] at h2;simpa using h2))
       clear hfa hb2 q4
       go_wp2_with (fail)
       go_roundw
       case rel=>exact⟨_,cnt1,zh,y3⟩
       case measure=>rw[zh.left_eq,qg.left_eq];exact Aa zo
      | false=>
       rw[hveq] at q4 hfa;cases hn:ZZ y with
       | true=>
        rw[hn] at qf hfa;have ek:(pk==0)=true:=by simpa using qf
        have q8:=Ab (Aa qm (by rw[hfa];rfl));clear qf hfa
        go_wp2_with (first|(at_lookup;refine BR rfl _ _ 109 true rfl _ _ _ rfl rfl (Aa L2) ?_)|fail)
        refine (Aa q4).mono ?_;rintro e w2 ⟨rfl,hb2⟩;have jq:w2.cell? ⟨pb,0,none⟩=some (.int .i64 pk):=(hb2.cell (p:=⟨pb,0,none⟩) (Ft w1 _ ck)).trans ck;have z7:=Ab ((Aa q0).trans (hb2.mono (Aa q0).size));clear hb2 q4
        go_wp2_with (fail);show Q (.returned (.tuple #[.pointer none,.bool false])) _
        rw[Aa HQ];refine⟨Aa z7,?_⟩;rw[Aa q8]
       | false=>
        rw[hn] at qf hfa;have ek:(pk==0)=false:=by simpa using qf
        have HC:=Ab (fun (w2:CH) (hb2:D1 w1.heap.size w1 w2)=>Aa HS g0 (lv+1) F F' w2 yv _ xv y qe (Q9 (by rw[<- qe];exact ((Aa jp).bel (Aa q0)).bel hb2)) (Gd (by rw[<- qe];exact Aa yl)).1 (CR (Gd (by rw[<- qe];exact Aa yl)).2 (by rw[<- qe];exact Aa jm)) (((Aa qt).bel (Aa q0)).bel hb2) (fun k hk=>by have:=Aa zn k hk;have:=(Aa q0).size;have:=hb2.size;omega) (Aa ym) (Aa yr));clear qf
        go_wp2_with (first|(at_lookup;refine BR rfl _ _ 109 true rfl _ _ _ rfl rfl (Aa L2) ?_)|fail)
        refine (Aa q4).mono ?_;rintro e w2 ⟨rfl,hb2⟩;have jq:w2.cell? ⟨pb,0,none⟩=some (.int .i64 pk):=(hb2.cell (p:=⟨pb,0,none⟩) (Ft w1 _ ck)).trans ck;have zm:=Ab hb2;clear hb2 q4
        go_wp2_with (fail);refine (Aa HC _ (Aa zm)).mono ?_
        rintro e w3 ⟨hb3,he⟩;cases hm:Z3 f xv y with
        | none=>
         rw[hm] at he hfa;obtain rfl:e=.returned (.tuple #[.pointer none,.bool false]):=he;have q8:=Ab (Aa qm (by rw[hfa];rfl));have z7:=Ab ((Aa q0).trans (((Aa zm).trans (hb3.mono (Aa zm).size)).mono (Aa q0).size));clear hfa hb3 HC
         go_wp2_with (fail);show Q (.returned (.tuple #[.pointer none,.bool false])) _
         rw[Aa HQ];refine⟨Aa z7,?_⟩;rw[Aa q8]
        | some z=>
         rw[hm] at he hfa;obtain⟨p,rfl,hz⟩:=he;obtain⟨w4,qk,qb,qv,qi⟩:=Aa z8 xv _ w3 p z (Aa zm) hb3 (by rw[hfa];rfl) hz;have y4:=Ab (H1 qv qi);clear hfa hb3 HC hz qv qi
         go_wp2_with (fail)
         go_roundw
         case rel=>exact⟨_,cnt1,qb,y4⟩
         case measure=>rw[qb.left_eq,qg.left_eq];exact Aa zo
end
section
variable{d x:Int}
theorem O4:∀f:Nat,Vj d x f
 | 0=>fun g _ _ _ _ _ _ _ _ h=>by omega
 | f+1=>fun g lv F F' w v v' a b q7 ha q6 q4 hb q0 q5 hsb=>by
  obtain rfl:f=g:=by omega
  cases hob:ZQ b with
  | false=>exact T7 ha hb hob
  | true=>
   obtain⟨bs,rfl⟩:∃bs,b=.map bs:=by
    cases b with
    | map bs=>exact⟨bs,rfl⟩
    | _=>cases hob
   obtain⟨tb,rfl,_,h⟩:=hb;have h2:Zh (f+1) (.map bs)=2+Ah f bs:=CA f bs;rcases h with⟨k,_,e,_⟩|⟨n,e,_⟩|⟨s,e,_⟩|⟨es',sl,ps,e,_⟩|⟨es',m,n,D,e,hv,_,ho,hp⟩
   ·cases e
   ·cases e
   ·cases e
   ·cases e
   ·injection e with e;subst e;exact Wo (O4 f) ha q6 q4 hv ho hp (B8 q5).2 (by omega) q0
def YS(d x:Int)(f:Nat):Prop:=∀ (lv:Int) (a b z:To) (C:Nat),Zl d x f lv b->(∀g,f=g+1->ZM d x g lv (AG a)/\Ah g (AG a)<=C)->Z3 f a b=some z->Zl d x f lv z/\Zh f z<=(2*C+1)*Zh f b
theorem Kt{f C:Nat}{lv:Int}{m:To->To->Option To}{xs:List (Lit×To)}:∀ {l out q0:List (Lit×To)},DM m xs l out=some q0->ZM d x f lv l->ZM d x f lv out ->
  (∀q∈l,∀z,aH m xs q.1 q.2=some (some z)->Zl d x f (lv+1) z/\Zh f z<=(2*C+1)*Zh f q.2)->ZM d x f lv q0/\Ah f q0<=Ah f out+(2*C+1)*Ah f l
 | [],out,q0,e,_,ho,_=>by
  have e':some out=some q0:=e;injection e' with e';subst e';exact⟨ho,Nat.le_add_right _ _⟩
 | (jl,y)::r,out,q0,e,hl,ho,hz=>by
  obtain⟨⟨j,ej,q6⟩,_⟩:=hl.2 _ A4;simp only at ej;subst ej;have q4:ZM d x f lv r:=⟨(HT.1 hl.1).2,fun p hp=>hl.2 p (A3 _ hp)⟩
  have q5:=fun q (hq:q∈r)=>hz q (A3 _ hq);have hc:Ah f ((CL j,y)::r)=(Ag j).length+2+Zh f y+Ah f r:=Bk _ _ _;rw[Hr] at e;rw[hc,HY];cases hm:aH m xs (.string j) y with
  | none=>rw[hm] at e;cases e
  | some o=>
   rw[hm] at e;cases o with
   | none=>
    obtain⟨h1,h2⟩:=Kt e q4 ho q5;exact⟨h1,by omega⟩
   | some z=>
    obtain⟨g1,g2⟩:=hz _ A4 z hm;simp only at g2;obtain⟨h1,h2⟩:=Kt (out:=Zr (.string j) z out) e q4 (ho.mput q6 g1) q5;refine⟨h1,?_⟩;rw[J6] at h2;have h3:Ah f (ZF (.string j) out)<=Ah f out:=BW f (fun p=>!p.1.sameKey (.string j)) out;have h4:(Ag j).length+2<=(2*C+1)*((Ag j).length+2):=HF _ (by omega);rw[HY];omega
theorem Wz{f:Nat}{xs:List (Lit×To)}(h:ZM d x f lv xs):ZM d x f lv (C7 xs bs)/\Ah f (C7 xs bs)<=2*Ah f xs:=by
 have q0:∀p∈xs,Zl d x f (lv+1) (AO 0)/\Zh f (AO 0)=4:=fun p hp=>by
  have h1:=(h.2 p hp).2;cases f with
  | zero=>exact h1.elim
  | succ f=>exact⟨⟨E3 h1,G3 ⟨0,by omega,rfl⟩⟩,rfl⟩
 constructor
 ·refine⟨(FL (bs:=bs) h.skey).1,fun p hp=>?_⟩;unfold C7 at hp;obtain⟨q,hq,rfl⟩:=F5.1 hp;have q4:=(C1.1 hq).1;exact⟨(h.2 q q4).1,(q0 q q4).1⟩
 ·have key:∀l:List (Lit×To),(∀p∈l,p∈xs)->Ah f (l.map fun p=>(p.1,AO 0))<=2*Ah f l:=by
   intro l;induction l with
   | nil=>intro _;exact HJ _
   | cons a l ih=>
    intro hl;have h1:=ih fun p hp=>hl p (A3 _ hp);have h2:=(q0 a (hl a A4)).2;obtain⟨⟨s,es,_⟩,_⟩:=h.2 a (hl a A4);rw[List.map_cons,Bk,Bk];simp only;rw[h2];have h3:2<=(Ag (strOf a.1)).length:=by simp[Ag]
    omega
  have h1:=key (xs.filter fun p=>!AI (.map bs:To) p.1) fun p hp=>(C1.1 hp).1;have h2:=BW f (fun p=>!AI (.map bs:To) p.1) xs;exact CR h1 (Nat.mul_le_mul_left 2 h2)
theorem MT:∀f:Nat,YS d x f
 | 0=>fun _ _ _ _ _ h=>h.elim
 | f+1=>fun lv a b z C hb ha e=>by
  cases hob:ZQ b with
  | false=>
   have e1:Z3 (f+1) a b=some b:=by cases b<;>first|rfl|cases hob
   rw[e1] at e;injection e with e;subst e;exact⟨hb,HF _ (by omega)⟩
  | true=>
   obtain⟨bs,rfl⟩:∃bs,b=.map bs:=by
    cases b with
    | map bs=>exact⟨bs,rfl⟩
    | _=>cases hob
   obtain⟨hlv,q6⟩:=B8 hb;obtain⟨q0,q7⟩:=ha f rfl;obtain⟨g1,g2⟩:=Wz (bs:=bs) q0;have e1:(DM (Z3 f) (AG a) bs (C7 (AG a) bs)).map AT=some z:=e;cases hm:DM (Z3 f) (AG a) bs (C7 (AG a) bs) with
   | none=>rw[hm] at e1;cases e1
   | some out=>
    rw[hm] at e1;have e2:some (AT out)=some z:=e1;injection e2 with e2;subst e2;obtain⟨h1,h2⟩:=Kt (C:=C) hm q6 g1 fun q hq z hz=>by
     have q5:=(q6.2 q hq).2;unfold aH at hz;cases hg:As (AG a) q.1 with
     | none=>
      rw[hg] at hz;simp only at hz;split at hz
      ·cases hz
      ·obtain⟨z',q4,e3⟩:=HH.1 hz;injection e3 with e3;subst e3;exact MT f (lv+1) (.map []) q.2 z' C q5 (fun g _=>⟨⟨D3,fun p hp=>by cases hp⟩,HJ _⟩) q4
     | some y=>
      rw[hg] at hz;simp only at hz;split at hz
      ·cases hz
      ·split at hz
       ·cases hz
       ·obtain⟨z',q4,e3⟩:=HH.1 hz;injection e3 with e3;subst e3;obtain⟨s,hs⟩:=R8 q0.skey hg;have hgy:=(q0.2 _ hs).2;have q8:Zh f y<=Ah f (AG a):=FH hs;refine MT f (lv+1) y q.2 z' C q5 (fun g hg=>?_) q4;subst hg;exact⟨(Gd hgy).1,CR (Gd hgy).2 (CR q8 q7)⟩
    refine⟨h1.gd hlv,?_⟩;show 2+Ah f out<=(2*C+1)*(2+Ah f bs);rw[HY];omega
end
end Go.Proofs.YtdpomdelmdofmaaGreatDoor
