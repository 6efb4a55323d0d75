import Derived.Test.YtdpomdelmdofmaaGreatDoorPfx15
import Derived.Laws.MakeOwn
open Go renaming bodyPost_ret->AI,World->A2,results->A5,Calls->CH,Value->CR,madeCells->C2
open Go.Proofs.Tryz renaming prog->AS
open Go.RowKit renaming Below->AT
open Go.World renaming cell?->A3,setCell->F1
open Go.RowKit.Below renaming heap_setCell->A4,refl->CD,heap_alloc->D2
open Nat renaming le_refl->A6,le_trans->CL,lt_of_lt_of_le->D0
open Array renaming getElem?_eq_some_iff->Bs,getElem?_push->BY,size_push->C1
open Int renaming toNat_of_nonneg->Dp,emod_lt_of_pos->DD,emod_nonneg->E0
open Or renaming inl->Dt,inr->Ft
open Go.Instr renaming makeSlice->D3
set_option maxRecDepth 100000
set_option maxHeartbeats 8000000
namespace Go.Proofs.YtdpomdelmdofmaaGreatDoor
open Go.Proofs.Tryz Go.RowKit
variable{r S a b:Nat}{w w':A2}{F:Nat->Prop}{d e n:Int}{p:CR}{v:To×ZG}{doc:aF}{cs:Array CR}
structure AE(r:Nat)(w w':A2):Prop where
 os:w'.os=w.os
 tape:w'.tape=w.tape
 output:w'.output=w.output
 size:w'.heap.size=w.heap.size
 block:∀k,k≠r->w'.heap[k]? = w.heap[k]?
theorem AE.of3(r:Nat)(w:A2)(a b c:CR):AE r w (((w.setCell ⟨r,0,none⟩ a).setCell ⟨r,1,none⟩ b).setCell ⟨r,2,none⟩ c):=
 ⟨rfl,rfl,rfl,by simp[F1],fun k hk=>(A4 _ _ _ _ hk).trans ((A4 _ _ _ _ hk).trans (A4 _ _ _ _ hk))⟩
theorem AE.below{B:Nat}{a:A2}(h:AE r w w')(hb:AT B a w)(hr:B<=r):AT B a w':=
 ⟨h.os.trans hb.os,h.tape.trans hb.tape,h.output.trans hb.output,by rw[h.size];exact hb.size,fun k hk=>(h.block k (by omega)).trans (hb.block k hk)⟩
theorem AE.kept{a:A2}(h:AE r w w')(hb:Ao F a w)(hr:a.heap.size<=r):Ao F a w':=
 ⟨h.os.trans hb.os,h.tape.trans hb.tape,h.output.trans hb.output,by rw[h.size];exact hb.size,fun k hk hx=>(h.block k (by omega)).trans (hb.block k hk hx)⟩
theorem Ca{f:FuncId}{fn:Func}{c:Code}(hf:Tryz.prog.funcs[f]? = some fn)(q0:(fn.name == "runtime.NumGoroutine")=false)(hb:fn.body=some c)(args:Array CR)(w:A2):
  (callFunc f args).run AS w=.ok (.enter f args) w:=by
 have h1:¬ fn.name = "runtime.NumGoroutine" := by simpa using q0
 simp[callFunc,hf,h1,hb]
theorem Et{f:Nat}{s:By}{Q:To->Option Addr->A2->ZK->A2->Prop}(hin:∀args w,(callFunc f args).run AS w=.ok (.enter f args) w)(h:SB w S d e n p)(hT:Af w)(q0:∀v p2 w1,AT w.heap.size w w1->AB w1 w.heap.size->Zy s d e=(0,some v)->Tr top (w.heap.size+1) w1 (.pointer p2) v ->
   CH AS f #[.pointer (some ⟨S,0,none⟩),.pointer p2] w1 fun x w2=>∃A:ZK,x=.returned (Ai A)/\AB w2 w.heap.size/\Q v p2 w1 A w2):
  CH AS 42 #[.pointer (some ⟨S,0,none⟩),.string ⟨s.toArray⟩,.func (.func f) #[.pointer (some ⟨S,0,none⟩)] #[]] w fun x w'=>
   (∃c,0<c/\Zy s d e=(c,none)/\x=.returned (Ai (c,0,[]))/\AT w.heap.size w w') \/
   (∃v p2 w1 A w2,Zy s d e=(0,some v)/\AT w.heap.size w w1/\w.heap.size<w1.heap.size/\Q v p2 w1 A w2/\x=.returned (Ai A)/\AE w.heap.size w2 w'):=by
 have q6:AT w.heap.size w (w.alloc (.cells #[.int .i64 0,.int .i64 0,.string ⟨#[]⟩] 46)):=(CD _ _).alloc (A6 _) _;have qb:=hT.below (q6.mono hT.ng);have HS:=Ab (h.low q6);have HT:=Ab qb;have qe:=Ab (AB.new w);have qg:=Ab q6;have hsz:(w.alloc (.cells #[.int .i64 0,.int .i64 0,.string ⟨#[]⟩] 46)).heap.size=w.heap.size+1:=by simp
 have HC:=Ab q0;have qf:=Ab hin;clear hT h qb q6 q0 hin
 go_enter func42,ntmps42
 go_wp2_with (fail);generalize w.alloc (.cells #[.int .i64 0,.int .i64 0,.string ⟨#[]⟩] 46)=wa at *
 refine (Mp s (Aa HS) (Aa HT)).mono ?_;rintro x w1 ⟨p2,c,rfl,hb1,hc⟩;have a1:=(Aa qe).low hb1;have q7:=Ab ((Aa qg).trans (hb1.mono (by omega)));have qh:=hb1.size;rcases hc with⟨hpos,q4⟩|⟨rfl,v,q4,q5⟩
 ·have q8:=Ab q4;have e0:((c:Int) != 0)=true:=by simp;omega
  have A1:=Ab a1;clear q4 a1 hb1
  go_wp2_with (fail);refine (Bj c w1).mono ?_
  rintro x w3 ⟨rfl,hb3⟩;have a3:=(Aa A1).low hb3;have g0:=a3.c0;have g1:=a3.c1;have g2:=a3.c2;have z:=a3.fz;have qd:=Ab ((Aa q7).trans (hb3.mono (by omega)));clear a3 hb3;unfold AW
  go_wp2_with (fail);refine AI (v:=Ai (c,0,[])) (by simp[A5,results42,go_sem,Ai,g0,g1,g2]) rfl ?_
  exact Dt ⟨c,hpos,Aa q8,rfl,(AE.of3 w.heap.size w3 _ _ _).below (Aa qd) (A6 _)⟩
 ·have q9:=Ab (Aa HC v p2 w1 (Aa q7) a1 q4 (by rw[<- hsz];exact q5));have q8:=Ab q4;clear q4 a1 hb1 q5 HC
  go_wp2_with (fail);rw[Aa qf,Oper.upon_enter]
  refine (Aa q9).mono ?_;rintro x w2 ⟨A,rfl,a2,hq⟩;have g0:=a2.c0;have g1:=a2.c1;have g2:=a2.c2;have z:=a2.fz;have HQ:=Ab hq;clear a2 hq q9;unfold Ai
  go_wp2_with (fail);refine AI (v:=Ai A) (by simp[A5,results42,go_sem,Ai,g0,g1,g2]) rfl ?_
  exact Ft ⟨v,p2,w1,A,w2,Aa q8,Aa q7,by omega,Aa HQ,rfl,AE.of3 _ _ _ _ _⟩
def L9:Prop:=∀ (S:Nat) (d e n:Int) (p:CR) (v:To×ZG) (F:Nat->Prop) (s:By) (w:A2),s.length<=1048576->SB w S d e n p->Bf w F p d e (some v)->Af w ->
 CH AS 57 #[.pointer (some ⟨S,0,none⟩),.string ⟨s.toArray⟩] w fun x w'=>x=.returned (Ai (bJ v.1 s))/\AT w.heap.size w w'
def Kb:Prop:=∀ (S:Nat) (d e n:Int) (p:CR) (v:To×ZG) (F:Nat->Prop) (s t:By) (w:A2),s.length<=1048576->SB w S d e n p->Bf w F p d e (some v)->Af w ->
 CH AS 58 #[.pointer (some ⟨S,0,none⟩),.string ⟨s.toArray⟩,.string ⟨t.toArray⟩] w fun x w'=>x=.returned (Ai (aU d e v.1 s t,0,[]))/\AT w.heap.size w w'
def Cm(F:Nat->Prop)(p:CR)(d e:Int)(r:ZK×(To×ZG))(w:A2)(x:Ending)(w':A2):Prop:=
 x=.returned (Ai r.1)/\Ao F w w'/\Bf w' (fun k=>(F k/\k<w.heap.size)\/w.heap.size<=k) p d e (some r.2)
theorem Cm.low{A:ZK}(hd:Bf w F p d e (some v))(hb:AT w.heap.size w w'):Cm F p d e (A,v) w (.returned (Ai A)) w':=
 ⟨rfl,Ao.of_below hb,hd.move fun k h1 h2=>⟨hb.block k h2,Dt ⟨h1,h2⟩⟩⟩
def KJ:Prop:=∀ (S:Nat) (d e n:Int) (p:CR) (v:To×ZG) (F:Nat->Prop) (s:By) (w:A2),aG d e n=true->(∀k,F k->NG<=k/\k≠S)->SB w S d e n p->Bf w F p d e (some v)->Af w ->
 CH AS 59 #[.pointer (some ⟨S,0,none⟩),.string ⟨s.toArray⟩] w (Cm F p d e (bE d e v s) w)
def Jk:Prop:=∀ (S:Nat) (d e n:Int) (p:CR) (v:To×ZG) (F:Nat->Prop) (w:A2),SB w S d e n p->Bf w F p d e (some v)->Af w ->
 CH AS 61 #[.pointer (some ⟨S,0,none⟩)] w fun x w'=>x=.returned (Ai (bM v))/\AT w.heap.size w w'
def KM:Prop:=∀ (S lo:Nat) (d e n:Int) (p:CR) (v:To×ZG) (F:Nat->Prop) (s:By) (q:To) (p2:Option Addr) (w:A2),aG d e n=true->(∀k,F k->NG<=k/\k≠S/\k<lo)->SB w S d e n p->Bf w F p d e (some v)->Af w ->
 Zy s d e=(0,some q)->Tr top lo w (.pointer p2) q->CH AS 60 #[.pointer (some ⟨S,0,none⟩),.pointer p2] w (Cm F p d e (aY v q) w)
def Kd:Prop:=∀ (S lo:Nat) (d e n:Int) (p:CR) (v:To×ZG) (F:Nat->Prop) (s:By) (q:To) (p2:Option Addr) (w:A2),aG d e n=true->SB w S d e n p->Bf w F p d e (some v)->Af w ->
 Zy s d e=(0,some q)->Tr top lo w (.pointer p2) q->CH AS 62 #[.pointer (some ⟨S,0,none⟩),.pointer p2] w fun x w'=>x=.returned (Ai (cP n v.1 q))/\AT w.heap.size w w'
def F3:Prop:=∀ (S lo:Nat) (d e n:Int) (p:CR) (v:To×ZG) (F:Nat->Prop) (s:By) (q:To) (p2:Option Addr) (w:A2),aG d e n=true->SB w S d e n p->Bf w F p d e (some v)->Af w ->
 Zy s d e=(0,some q)->Tr top lo w (.pointer p2) q->CH AS 63 #[.pointer (some ⟨S,0,none⟩),.pointer p2] w fun x w'=>x=.returned (Ai (bU v.1 q))/\AT w.heap.size w w'
def U8(o:St):Prop:=(o.1<3\/9<o.1)\/((o.1=3\/o.1=4)/\L9/\Kb/\o.2.1.length<=1048576)\/(o.1=5/\KJ)\/(o.1=6/\KM)\/(o.1=7/\Jk)\/(o.1=8/\Kd)\/(o.1=9/\F3)
noncomputable def Z9(d e n:Int)(v:To×ZG)(o:St):ZK×(To×ZG):=if o.1<5 then (cA d e v.1 o,v) else bI d e n v o
theorem Bf.bel(h:Bf w F p d e doc)(hb:AT w.heap.size w w'):Bf w' F p d e doc:=h.move fun k h1 h2=>⟨hb.block k h2,h1⟩
theorem DU.bel{D R:Nat}{wp:CR}(h:DU w F D R wp d e v)(hb:AT w.heap.size w w'):DU w' F D R wp d e v:=h.move fun k h1 h2=>⟨hb.block k h2,h1⟩
def Ea(w:A2)(k:Int)(s t:By):A2:=(w.alloc (.cells #[.int .i64 k,.string ⟨s.toArray⟩,.string ⟨t.toArray⟩] 49)).alloc (.cells #[.int .i64 0,.int .i64 0,.string ⟨#[]⟩] 46)
theorem J8(w:A2)(k:Int)(s t:By):AT w.heap.size w (Ea w k s t):=((CD _ _).alloc (A6 _) _).alloc (by simp) _
theorem LE(w:A2)(k:Int)(s t:By):(Ea w k s t).heap.size=w.heap.size+2:=by simp[Ea]
theorem Pr(w:A2)(k:Int)(s t:By):AB (Ea w k s t) (w.heap.size+1):=by
 have:=AB.new (w.alloc (.cells #[.int .i64 k,.string ⟨s.toArray⟩,.string ⟨t.toArray⟩] 49));rw[show (w.alloc (.cells #[.int .i64 k,.string ⟨s.toArray⟩,.string ⟨t.toArray⟩] 49)).heap.size=w.heap.size+1 by simp] at this;exact this
theorem Pq(w:A2)(k:Int)(s t:By):(Ea w k s t).heap[w.heap.size]? = some (.cells #[.int .i64 k,.string ⟨s.toArray⟩,.string ⟨t.toArray⟩] 49 (0,0)):=by
 show ((w.heap.push _).push _)[w.heap.size]? = _;simp[BY]
structure EP(a b:Nat)(w w':A2):Prop where
 os:w'.os=w.os
 tape:w'.tape=w.tape
 output:w'.output=w.output
 size:w'.heap.size=w.heap.size
 block:∀k,(k<a\/b<=k)->w'.heap[k]? = w.heap[k]?
theorem AE.isIn(h:AE r w w')(h1:a<=r)(h2:r<b):EP a b w w':=⟨h.os,h.tape,h.output,h.size,fun k hk=>h.block k (by omega)⟩
theorem EP.trans{q0:A2}(h:EP a b w w')(h':EP a b w' q0):EP a b w q0:=
 ⟨h'.os.trans h.os,h'.tape.trans h.tape,h'.output.trans h.output,h'.size.trans h.size,fun k hk=>(h'.block k hk).trans (h.block k hk)⟩
theorem EP.kept{w0:A2}(h:EP a b w w')(hb:Ao F w0 w)(hr:w0.heap.size<=a):Ao F w0 w':=
 ⟨h.os.trans hb.os,h.tape.trans hb.tape,h.output.trans hb.output,by rw[h.size];exact hb.size,fun k hk hx=>(h.block k (by omega)).trans (hb.block k hk hx)⟩
theorem KF{r:ZK×(To×ZG)}{w1 w2 w3:A2}(hb:AT w.heap.size w w1)(h:Cm (fun k=>F k/\k<w.heap.size) p d e r w1 (.returned (Ai r.1)) w2)(hs:EP w.heap.size w1.heap.size w2 w3):Cm F p d e r w (.returned (Ai r.1)) w3:=by
 obtain⟨_,h1,h2⟩:=h;refine⟨rfl,?_,h2.move fun k hk _=>⟨hs.block k ?_,?_⟩⟩
 ·exact hs.kept ((Ao.of_below (F:=F) hb).trans h1 fun k _ h=>h.1) (A6 _)
 ·rcases hk with⟨hk,_⟩|hk
  ·omega
  ·omega
 ·rcases hk with⟨hk,_⟩|hk
  ·exact Dt hk
  ·exact Ft (by have:=hb.size;omega)
theorem WY{k:Int}(s t:By)(hcfg:aG d e n=true)(qv:¬ k<1)(qt:¬ 9<k)(qu:k≠1)(hF:∀k,F k->NG<=k/\k≠S)(hf:U8 (k,s,t))(h:SB w S d e n p)(hd:Bf w F p d e (some v))(hT:Af w):
  CH AS 44 #[.pointer (some ⟨S,0,none⟩),.agg #[.int .i64 k,.string ⟨s.toArray⟩,.string ⟨t.toArray⟩]] w (Cm F p d e (Z9 d e n v (k,s,t)) w):=by
 have hlt:=h.lt;have qb:=J8 w k s t;have qk:=hT.below (qb.mono hT.ng);have h0:=h.low qb;have qr:Bf (Ea w k s t) (fun k=>F k/\k<w.heap.size) p d e (some v):=hd.move fun k h1 h2=>⟨qb.block k h2,h1,h2⟩
 have a0:=Pr w k s t;have o0:=Pq w k s t;have hsz:=LE w k s t;have qn:∀j,(F j/\j<w.heap.size)->NG<=j/\j≠S:=fun j hj=>hF j hj.1;have c3:=h0.c3;have q0:(Ea w k s t).cell? ⟨w.heap.size,0,none⟩=some (.int .i64 k):=by simp[A3,o0]
 have q1:(Ea w k s t).cell? ⟨w.heap.size,1,none⟩=some (.string ⟨s.toArray⟩):=by simp[A3,o0]
 have q2:(Ea w k s t).cell? ⟨w.heap.size,2,none⟩=some (.string ⟨t.toArray⟩):=by simp[A3,o0]
 have eW:(w.alloc (.cells #[.int .i64 k,.string ⟨s.toArray⟩,.string ⟨t.toArray⟩] 49)).alloc (.cells #[.int .i64 0,.int .i64 0,.string ⟨#[]⟩] 46)=Ea w k s t:=rfl;have HA:=Ab a0;have HT:=Ab qk;have H0:=Ab h0;have HD:=Ab qr;have q8:=Ab hd;have HF:=Ab hf;have qh:=Ab qn;have q7:=Ab qb;have qg:=Ab hcfg;clear h hd hT h0 qk a0 hf o0 hF qn qb hcfg;by_cases hk:k=2
 ·have HE:=Ab (show Z9 d e n v (k,s,t)=((0,0,Zm top v.1),v) by unfold Z9;rw[if_pos (show k<5 by omega)];unfold cA;rw[if_pos hk]);have qe:=HD;obtain⟨D,R,wp,rfl,qo⟩:=Aa HD;have qe:=Ab qo;obtain⟨A,hA⟩:∃A:ZK,A=(0,0,Zm top v.1):=⟨_,rfl⟩
  clear qo;subst hk
  go_enter func44,ntmps44
  go_wp2_with (fail);refine (Ia (Aa qe)).mono ?_
  rintro x w0 ⟨rfl,qd⟩;have qp:=((Aa qe).bel qd).rep;have qi:=Ab (CT qp ((Aa HT).below (qd.mono (Aa HT).ng)) (CL (Aa qe).len (by omega)));have qm:=Ab qd;clear qd qp
  go_wp2_with (fail);refine (Aa qi).mono ?_
  rintro x w1 ⟨rfl,hb1⟩;replace hb1:=(Aa qm).trans (hb1.mono (Aa qm).size);have a1:=(Aa HA).low hb1;have g0:=a1.c0;have g1:=a1.c1;have g2:=a1.c2;have z:=a1.fz;have HB:=Ab (show AT w.heap.size w w1 from (Aa q7).trans (hb1.mono (by omega)));clear a1 hb1
  go_wp2_with (fail);refine AI (v:=Ai (0,0,Zm top v.1)) (by simp[A5,results44,go_sem,Ai,g0,g1,g2]) rfl ?_
  rw[Aa HE];exact Cm.low (Aa q8) ((AE.of3 (w.heap.size+1) w1 _ _ _).below (Aa HB) (by omega))
 by_cases hk:k=3
 ·have HE:=Ab (show Z9 d e n v (k,s,t)=(bJ v.1 s,v) by unfold Z9;rw[if_pos (show k<5 by omega)];unfold cA;rw[if_neg (show ¬ k=2 by omega),if_pos hk]);have q4:L9/\Kb/\s.length<=1048576:=(by
   rcases Aa HF with h|⟨h,hh⟩|⟨h,hh⟩|⟨h,hh⟩|⟨h,hh⟩|⟨h,hh⟩|⟨h,hh⟩
   all_goals (simp only at h;first|exact hh|omega))
  have q5:=Ab (q4.1 S d e n _ v _ s _ q4.2.2 (Aa H0) (Aa HD) (Aa HT));obtain⟨A,hA⟩:∃A,A=bJ v.1 s:=⟨_,rfl⟩
  rw[<- hA] at HE q5;clear hA q4;subst hk
  go_enter func44,ntmps44
  go_wp2_with (fail);refine (Aa q5).mono ?_
  rintro x w1 ⟨rfl,hb1⟩;have a1:=(Aa HA).low hb1;have g0:=a1.c0;have g1:=a1.c1;have g2:=a1.c2;have z:=a1.fz;have HB:=Ab (show AT w.heap.size w w1 from (Aa q7).trans (hb1.mono (by omega)));clear a1 hb1;unfold Ai
  go_wp2_with (fail);refine AI (v:=Ai A) (by simp[A5,results44,go_sem,Ai,g0,g1,g2]) rfl ?_
  rw[Aa HE];exact Cm.low (Aa q8) ((AE.of3 (w.heap.size+1) w1 _ _ _).below (Aa HB) (by omega))
 by_cases hk:k=4
 ·have HE:=Ab (show Z9 d e n v (k,s,t)=((aU d e v.1 s t,0,[]),v) by unfold Z9;rw[if_pos (show k<5 by omega)];unfold cA;rw[if_neg (show ¬ k=2 by omega),if_neg (show ¬ k=3 by omega),if_pos hk]);have q4:L9/\Kb/\s.length<=1048576:=(by
   rcases Aa HF with h|⟨h,hh⟩|⟨h,hh⟩|⟨h,hh⟩|⟨h,hh⟩|⟨h,hh⟩|⟨h,hh⟩
   all_goals (simp only at h;first|exact hh|omega))
  have q5:=Ab (q4.2.1 S d e n _ v _ s t _ q4.2.2 (Aa H0) (Aa HD) (Aa HT));obtain⟨A,hA⟩:∃A:ZK,A=(aU d e v.1 s t,0,[]):=⟨_,rfl⟩
  rw[<- hA] at HE q5;clear hA q4;subst hk
  go_enter func44,ntmps44
  go_wp2_with (fail);refine (Aa q5).mono ?_
  rintro x w1 ⟨rfl,hb1⟩;have a1:=(Aa HA).low hb1;have g0:=a1.c0;have g1:=a1.c1;have g2:=a1.c2;have z:=a1.fz;have HB:=Ab (show AT w.heap.size w w1 from (Aa q7).trans (hb1.mono (by omega)));clear a1 hb1;unfold Ai
  go_wp2_with (fail);refine AI (v:=Ai A) (by simp[A5,results44,go_sem,Ai,g0,g1,g2]) rfl ?_
  rw[Aa HE];exact Cm.low (Aa q8) ((AE.of3 (w.heap.size+1) w1 _ _ _).below (Aa HB) (by omega))
 by_cases hk:k=5
 ·have HE:=Ab (show Z9 d e n v (k,s,t)=bE d e v s by unfold Z9;rw[if_neg (show ¬ k<5 by omega)];unfold bI;rw[if_pos hk]);have q4:KJ:=(by
   rcases Aa HF with h|⟨h,hh⟩|⟨h,hh⟩|⟨h,hh⟩|⟨h,hh⟩|⟨h,hh⟩|⟨h,hh⟩
   all_goals (simp only at h;first|exact hh|omega))
  have q5:=Ab (q4 S d e n _ v _ s _ (Aa qg) (Aa qh) (Aa H0) (Aa HD) (Aa HT));obtain⟨A,hA⟩:∃A,A=bE d e v s:=⟨_,rfl⟩
  rw[<- hA] at HE q5;clear hA q4;subst hk
  go_enter func44,ntmps44
  go_wp2_with (fail);refine (Aa q5).mono ?_
  rintro x w1 hx;have qj:=hx.1;subst qj;have a1:AB w1 (w.heap.size+1):=(hx.2.1.block _ (by omega) (fun h=>by omega)).trans (Aa HA);have g0:=a1.c0;have g1:=a1.c1;have g2:=a1.c2;have z:=a1.fz;have HX:=Ab hx;clear a1 hx;unfold Ai
  go_wp2_with (fail);refine AI (v:=Ai A.1) (by simp[A5,results44,go_sem,Ai,g0,g1,g2]) rfl ?_
  rw[Aa HE];exact KF (Aa q7) (Aa HX) ((AE.of3 (w.heap.size+1) w1 _ _ _).isIn (by omega) (by omega))
 by_cases hk:k=7
 ·have HE:=Ab (show Z9 d e n v (k,s,t)=(bM v,v) by unfold Z9;rw[if_neg (show ¬ k<5 by omega)];unfold bI;rw[if_neg (show ¬ k=5 by omega),if_neg (show ¬ k=6 by omega),if_pos hk]);have q4:Jk:=(by
   rcases Aa HF with h|⟨h,hh⟩|⟨h,hh⟩|⟨h,hh⟩|⟨h,hh⟩|⟨h,hh⟩|⟨h,hh⟩
   all_goals (simp only at h;first|exact hh|omega))
  have q5:=Ab (q4 S d e n _ v _ _ (Aa H0) (Aa HD) (Aa HT));obtain⟨A,hA⟩:∃A,A=bM v:=⟨_,rfl⟩
  rw[<- hA] at HE q5;clear hA q4;subst hk
  go_enter func44,ntmps44
  go_wp2_with (fail);refine (Aa q5).mono ?_
  rintro x w1 ⟨rfl,hb1⟩;have a1:=(Aa HA).low hb1;have g0:=a1.c0;have g1:=a1.c1;have g2:=a1.c2;have z:=a1.fz;have HB:=Ab (show AT w.heap.size w w1 from (Aa q7).trans (hb1.mono (by omega)));clear a1 hb1;unfold Ai
  go_wp2_with (fail);refine AI (v:=Ai A) (by simp[A5,results44,go_sem,Ai,g0,g1,g2]) rfl ?_
  rw[Aa HE];exact Cm.low (Aa q8) ((AE.of3 (w.heap.size+1) w1 _ _ _).below (Aa HB) (by omega))
 by_cases hk:k=6
 ·have HE:=Ab (show Z9 d e n v (k,s,t)=bT d e v s by unfold Z9;rw[if_neg (show ¬ k<5 by omega)];unfold bI;rw[if_neg (show ¬ k=5 by omega),if_pos hk]);have q4:KM:=(by
   rcases Aa HF with h|⟨h,hh⟩|⟨h,hh⟩|⟨h,hh⟩|⟨h,hh⟩|⟨h,hh⟩|⟨h,hh⟩
   all_goals (simp only at h;first|exact hh|omega))
  have q5:=Ab (Et (f:=60) (s:=s) (hin:=Ca func60 (by kernel_rfl) rfl) (Q:=fun q p2 w1 A w2=>A=(aY v q).1/\Cm (fun k=>F k/\k<w.heap.size) p d e (aY v q) w1 (.returned (Ai A)) w2) (Aa H0) (Aa HT) (fun q p2 w1 hb1 hab q6 q9=>by
   refine (q4 S (w.heap.size+3) d e n p v _ s q p2 w1 (Aa qg) (fun j hj=>⟨(Aa qh j hj).1,(Aa qh j hj).2,by omega⟩) ((Aa H0).low hb1) ((Aa HD).bel hb1) ((Aa HT).below (hb1.mono (Aa HT).ng)) q6 (by rw[hsz] at q9;exact q9)).mono ?_;rintro x w2 hx;have qj:=hx.1;subst qj;exact⟨_,rfl,(hx.2.1.block _ hab.lt (fun h=>by rw[hsz] at h;omega)).trans hab,rfl,hx⟩))
  clear q4;subst hk
  go_enter func44,ntmps44
  go_wp2_with (fail);refine (Aa q5).mono ?_
  rintro x w1 (⟨c,hpos,q6,rfl,hb1⟩|⟨q,p2,w2,A,w3,q6,hb2,hs2,⟨rfl,hx⟩,rfl,hsb⟩)
  ·obtain⟨A,hA⟩:∃A:ZK,A=(c,0,[]):=⟨_,rfl⟩
   have qf:=Ab (show bT d e v s=(A,v) by unfold bT;rw[q6,hA]);rw[<- hA];clear q6 hA;have a1:=(Aa HA).low hb1;have g0:=a1.c0;have g1:=a1.c1;have g2:=a1.c2;have z:=a1.fz;have HB:=Ab (show AT w.heap.size w w1 from (Aa q7).trans (hb1.mono (by omega)));clear a1 hb1 q5;unfold Ai
   go_wp2_with (fail);refine AI (v:=Ai A) (by simp[A5,results44,go_sem,Ai,g0,g1,g2]) rfl ?_
   rw[Aa HE,Aa qf];exact Cm.low (Aa q8) ((AE.of3 (w.heap.size+1) w1 _ _ _).below (Aa HB) (by omega))
  ·have qf:=Ab (show bT d e v s=aY v q by unfold bT;rw[q6]);obtain⟨M,hM⟩:∃M,M=aY v q:=⟨_,rfl⟩
   rw[<- hM] at hx qf |-;have a1:AB w1 (w.heap.size+1):=(hsb.block _ (by omega)).trans ((hx.2.1.block _ (by omega) (fun h=>by omega)).trans ((hb2.block _ (by omega)).trans (Aa HA)));have g0:=a1.c0;have g1:=a1.c1;have g2:=a1.c2;have z:=a1.fz;have HX:=Ab hx;have HS:=Ab (hsb.isIn (a:=w.heap.size) (b:=w2.heap.size) (by omega) (by omega));have qq:=Ab ((Aa q7).trans (hb2.mono (by omega)));clear a1 hx q6 hM hsb hb2 q5;unfold Ai
   go_wp2_with (fail);refine AI (v:=Ai M.1) (by simp[A5,results44,go_sem,Ai,g0,g1,g2]) rfl ?_
   rw[Aa HE,Aa qf];exact KF (Aa qq) (Aa HX) ((Aa HS).trans ((AE.of3 (w.heap.size+1) w1 _ _ _).isIn (by omega) (by omega)))
 by_cases hk:k=8
 ·have HE:=Ab (show Z9 d e n v (k,s,t)=(bY d e n v s,v) by unfold Z9;rw[if_neg (show ¬ k<5 by omega)];unfold bI;rw[if_neg (show ¬ k=5 by omega),if_neg (show ¬ k=6 by omega),if_neg (show ¬ k=7 by omega),if_pos hk]);have q4:Kd:=(by
   rcases Aa HF with h|⟨h,hh⟩|⟨h,hh⟩|⟨h,hh⟩|⟨h,hh⟩|⟨h,hh⟩|⟨h,hh⟩
   all_goals (simp only at h;first|exact hh|omega))
  have q5:=Ab (Et (f:=62) (s:=s) (hin:=Ca func62 (by kernel_rfl) rfl) (Q:=fun q p2 w1 A w2=>A=cP n v.1 q/\AT w1.heap.size w1 w2) (Aa H0) (Aa HT) (fun q p2 w1 hb1 hab q6 q9=>by
   refine (q4 S _ d e n p v _ s q p2 w1 (Aa qg) ((Aa H0).low hb1) ((Aa HD).bel hb1) ((Aa HT).below (hb1.mono (Aa HT).ng)) q6 q9).mono ?_;rintro x w2 ⟨rfl,hb2⟩;exact⟨_,rfl,hab.low hb2,rfl,hb2⟩))
  clear q4;subst hk
  go_enter func44,ntmps44
  go_wp2_with (fail);refine (Aa q5).mono ?_
  rintro x w1 hx;obtain⟨A,rfl,hA,hb1,a1⟩:∃A:ZK,x=.returned (Ai A)/\A=bY d e n v s/\AT w.heap.size w w1/\AB w1 (w.heap.size+1):=by
   rcases hx with⟨c,hpos,q6,rfl,hb1⟩|⟨q,p2,w2,A,w3,q6,hb2,hs2,⟨rfl,hx⟩,rfl,hsb⟩
   ·exact⟨_,rfl,by unfold bY;rw[q6],(Aa q7).trans (hb1.mono (by omega)),(Aa HA).low hb1⟩
   ·exact⟨_,rfl,by unfold bY;rw[q6],((Aa q7).trans (hb2.mono (by omega))).trans (hsb.below (hx.mono (by omega)) (by omega)),(hsb.block _ (by omega)).trans ((hx.block _ (by omega)).trans ((hb2.block _ (by omega)).trans (Aa HA)))⟩
  have g0:=a1.c0;have g1:=a1.c1;have g2:=a1.c2;have z:=a1.fz;have HB:=Ab hb1;rw[<- hA] at HE;clear a1 hb1 q5 hx hA;unfold Ai
  go_wp2_with (fail);refine AI (v:=Ai A) (by simp[A5,results44,go_sem,Ai,g0,g1,g2]) rfl ?_
  rw[Aa HE];exact Cm.low (Aa q8) ((AE.of3 (w.heap.size+1) w1 _ _ _).below (Aa HB) (by omega))
 obtain rfl:k=9:=by omega
 ·have hk:(9:Int)=9:=rfl;have HE:=Ab (show Z9 d e n v (9,s,t)=(bZ d e v s,v) by unfold Z9;rw[if_neg (show ¬ (9:Int)<5 by omega)];unfold bI;rw[if_neg (show ¬ (9:Int)=5 by omega),if_neg (show ¬ (9:Int)=6 by omega),if_neg (show ¬ (9:Int)=7 by omega),if_neg (show ¬ (9:Int)=8 by omega)]);have q4:F3:=(by
   rcases Aa HF with h|⟨h,hh⟩|⟨h,hh⟩|⟨h,hh⟩|⟨h,hh⟩|⟨h,hh⟩|⟨h,hh⟩
   all_goals (simp only at h;first|exact hh|omega))
  have q5:=Ab (Et (f:=63) (s:=s) (hin:=Ca func63 (by kernel_rfl) rfl) (Q:=fun q p2 w1 A w2=>A=bU v.1 q/\AT w1.heap.size w1 w2) (Aa H0) (Aa HT) (fun q p2 w1 hb1 hab q6 q9=>by
   refine (q4 S _ d e n p v _ s q p2 w1 (Aa qg) ((Aa H0).low hb1) ((Aa HD).bel hb1) ((Aa HT).below (hb1.mono (Aa HT).ng)) q6 q9).mono ?_;rintro x w2 ⟨rfl,hb2⟩;exact⟨_,rfl,hab.low hb2,rfl,hb2⟩))
  clear q4
  go_enter func44,ntmps44
  go_wp2_with (fail);refine (Aa q5).mono ?_
  rintro x w1 hx;obtain⟨A,rfl,hA,hb1,a1⟩:∃A:ZK,x=.returned (Ai A)/\A=bZ d e v s/\AT w.heap.size w w1/\AB w1 (w.heap.size+1):=by
   rcases hx with⟨c,hpos,q6,rfl,hb1⟩|⟨q,p2,w2,A,w3,q6,hb2,hs2,⟨rfl,hx⟩,rfl,hsb⟩
   ·exact⟨_,rfl,by unfold bZ;rw[q6],(Aa q7).trans (hb1.mono (by omega)),(Aa HA).low hb1⟩
   ·exact⟨_,rfl,by unfold bZ;rw[q6],((Aa q7).trans (hb2.mono (by omega))).trans (hsb.below (hx.mono (by omega)) (by omega)),(hsb.block _ (by omega)).trans ((hx.block _ (by omega)).trans ((hb2.block _ (by omega)).trans (Aa HA)))⟩
  have g0:=a1.c0;have g1:=a1.c1;have g2:=a1.c2;have z:=a1.fz;have HB:=Ab hb1;rw[<- hA] at HE;clear a1 hb1 q5 hx hA;unfold Ai
  go_wp2_with (fail);refine AI (v:=Ai A) (by simp[A5,results44,go_sem,Ai,g0,g1,g2]) rfl ?_
  rw[Aa HE];exact Cm.low (Aa q8) ((AE.of3 (w.heap.size+1) w1 _ _ _).below (Aa HB) (by omega))
def Cp(S:Nat)(d e n:Int)(doc:aF)(o:St)(F:Nat->Prop)(w:A2)(x:Ending)(w':A2):Prop:=
 x=.returned (Ai (ZR d e n doc o).1)/\Ao (fun k=>F k\/k=S) w w' /\ ∃p',SB w' S d e n p'/\Bf w' (fun k=>(F k/\k<w.heap.size)\/w.heap.size<=k) p' d e (ZR d e n doc o).2
theorem Cp.low{o:St}{a:ZK}(he:ZR d e n doc o=(a,doc))(h:SB w S d e n p)(hd:Bf w F p d e doc)(hb:AT w.heap.size w w'):
  Cp S d e n doc o F w (.returned (Ai a)) w':=by
 unfold Cp;rw[he];exact⟨rfl,Ao.of_below hb,p,h.low hb,hd.move fun k h1 h2=>⟨hb.block k h2,Dt ⟨h1,h2⟩⟩⟩
theorem Tz(k:Int)(s t:By)(hF:∀k,F k->NG<=k/\k≠S)(hf:U8 (k,s,t))(h:SB w S d e n p)(hd:Bf w F p d e doc)(hT:Af w):
  CH AS 36 #[.pointer (some ⟨S,0,none⟩),.agg #[.int .i64 k,.string ⟨s.toArray⟩,.string ⟨t.toArray⟩]] w fun x w'=>Cp S d e n doc (k,s,t) F w x w':=by
 have qn:=Ab hf;have qg:=Ab hF;have hlt:=h.lt;have qb:=J8 w k s t;have qh:=hT.below (qb.mono hT.ng);have h0:=h.low qb;have qk:Bf (Ea w k s t) (fun k=>F k/\k<w.heap.size) p d e doc:=hd.move fun k h1 h2=>⟨qb.block k h2,h1,h2⟩
 have a0:=Pr w k s t;have o0:=Pq w k s t;have hsz:=LE w k s t;have eW:(w.alloc (.cells #[.int .i64 k,.string ⟨s.toArray⟩,.string ⟨t.toArray⟩] 49)).alloc (.cells #[.int .i64 0,.int .i64 0,.string ⟨#[]⟩] 46)=Ea w k s t:=rfl;have c0:=h0.c0;have c1:=h0.c1;have c2:=h0.c2;have HA:=Ab a0;have H0:=Ab h0;have HD:=Ab qk;have HT:=Ab qh;have HH:=Ab h;have q7:=Ab hd;have HO:=Ab o0;have qj:=Ab qb;clear h hd hT h0 qk qh a0 o0 hf hF qb
 go_enter func36,ntmps36
 go_wp2_with (fail);refine (M8 d e n _).mono ?_
 rintro x w1 ⟨rfl,hb1⟩;replace hb1:AT (Ea w k s t).heap.size (Ea w k s t) w1:=hb1;have h1:=(Aa H0).low hb1;have d1:Bf w1 (fun k=>F k/\k<w.heap.size) p d e doc:=(Aa HD).bel hb1;have a1:=(Aa HA).low hb1;have T1:=(Aa HT).below (hb1.mono (Aa HT).ng);have o1:w1.heap[w.heap.size]? = _:=(hb1.block w.heap.size (by omega)).trans (Aa HO);have q9:AT w.heap.size w w1:=(Aa qj).trans (hb1.mono (by omega));have qt:w.heap.size+2<=w1.heap.size:=by have:=hb1.size;omega
 have q0:w1.cell? ⟨w.heap.size,0,none⟩=some (.int .i64 k):=by simp[A3,o1]
 have q1:w1.cell? ⟨w.heap.size,1,none⟩=some (.string ⟨s.toArray⟩):=by simp[A3,o1]
 have q2:w1.cell? ⟨w.heap.size,2,none⟩=some (.string ⟨t.toArray⟩):=by simp[A3,o1]
 have g0:=a1.c0;have g1:=a1.c1;have g2:=a1.c2;have z:=a1.fz;have c3:=h1.c3;have H1:=Ab h1;have D1:=Ab d1;have A1:=Ab a1;have qi:=Ab T1;have q6:=Ab q9;clear h1 d1 a1 T1 o1 hb1 q9 H0 HD HA HT HO c0 c1 c2 hsz eW qj;cases hcfg:aG d e n with
 | false=>
  have HE:=Ab (show ZR d e n doc (k,s,t)=((2,0,[]),doc) by unfold ZR;rw[hcfg];rfl);clear hcfg;simp only
  go_wp2_with (fail);refine (Bj 2 _).mono ?_
  rintro x w2 ⟨rfl,hb2⟩;have a2:=(Aa A1).low hb2;clear g0 g1 g2 z q0 q1 q2;have g0:=a2.c0;have g1:=a2.c1;have g2:=a2.c2;have z:=a2.fz;have q5:=Ab (show AT w.heap.size w w2 from (Aa q6).trans (hb2.mono (by omega)));clear a2 hb2;unfold AW
  go_wp2_with (fail);refine AI (v:=AW 2 []) (by simp[A5,results36,go_sem,AW,g0,g1,g2]) rfl ?_
  exact Cp.low (Aa HE) (Aa HH) (Aa q7) ((AE.of3 (w.heap.size+1) w2 _ _ _).below (Aa q5) (by omega))
 | true=>
  by_cases k1:k<1
  ·have HE:=Ab (show ZR d e n doc (k,s,t)=((1,0,[]),doc) by unfold ZR;rw[hcfg,if_pos rfl,if_pos (Dt k1)]);have e1:decide (k<1)=true:=by simpa using k1
   clear hcfg k1 c3;simp only
   go_wp2_with (fail);refine (Bj 1 _).mono ?_
   rintro x w2 ⟨rfl,hb2⟩;have a2:=(Aa A1).low hb2;clear g0 g1 g2 z q0 q1 q2;have g0:=a2.c0;have g1:=a2.c1;have g2:=a2.c2;have z:=a2.fz;have q5:=Ab (show AT w.heap.size w w2 from (Aa q6).trans (hb2.mono (by omega)));clear a2 hb2;unfold AW
   go_wp2_with (fail);refine AI (v:=AW 1 []) (by simp[A5,results36,go_sem,AW,g0,g1,g2]) rfl ?_
   exact Cp.low (Aa HE) (Aa HH) (Aa q7) ((AE.of3 (w.heap.size+1) w2 _ _ _).below (Aa q5) (by omega))
  by_cases k9:9<k
  ·have HE:=Ab (show ZR d e n doc (k,s,t)=((1,0,[]),doc) by unfold ZR;rw[hcfg,if_pos rfl,if_pos (Ft k9)]);have e1:decide (k<1)=false:=by simpa using k1
   have e9:decide (9<k)=true:=by simpa using k9
   clear hcfg k1 k9 c3;simp only
   go_wp2_with (fail);refine (Bj 1 _).mono ?_
   rintro x w2 ⟨rfl,hb2⟩;have a2:=(Aa A1).low hb2;clear g0 g1 g2 z q0 q1 q2;have g0:=a2.c0;have g1:=a2.c1;have g2:=a2.c2;have z:=a2.fz;have q5:=Ab (show AT w.heap.size w w2 from (Aa q6).trans (hb2.mono (by omega)));clear a2 hb2;unfold AW
   go_wp2_with (fail);refine AI (v:=AW 1 []) (by simp[A5,results36,go_sem,AW,g0,g1,g2]) rfl ?_
   exact Cp.low (Aa HE) (Aa HH) (Aa q7) ((AE.of3 (w.heap.size+1) w2 _ _ _).below (Aa q5) (by omega))
  by_cases kl:k=1
  ·subst kl;have HE:=Ab (show ZR d e n doc (1,s,t)=cI (Zy s d e) doc by unfold ZR;rw[hcfg,if_pos rfl,if_neg (by simp),if_pos rfl]);clear hcfg k1 k9 c3;simp only;have q4:=Ab (Et (f:=43) (s:=s) (hin:=Ca func43 (by kernel_rfl) rfl) (Q:=fun q p2 qf A w2=>A=(0,0,[])/\Ao (fun k=>k=S) qf w2 /\ ∃p',SB w2 S d e n p'/\Bf w2 (fun k=>w1.heap.size+1<=k) p' d e (some (q,none))) (Aa H1) (Aa qi) (fun q p2 qf hb1 hab q8 qr=>by
    refine (Ud ((Aa H1).low hb1) (show S<w1.heap.size+1 by omega) hab.lt qr q8).mono ?_;rintro x w2 ⟨rfl,hk,p',hsb,qd⟩;exact⟨_,rfl,(hk.block _ hab.lt (by omega)).trans hab,rfl,hk,p',hsb,qd⟩))
   go_wp2_with (fail);refine (Aa q4).mono ?_
   rintro x w2 (⟨c,hpos,q8,rfl,hb2⟩|⟨q,p2,w3,A,w4,q8,hb2,hs2,⟨rfl,hk,p',hsb4,qd⟩,rfl,hsb⟩)
   ·obtain⟨A,hA⟩:∃A:ZK,A=(c,0,[]):=⟨_,rfl⟩
    have qe:=Ab (show cI (Zy s d e) doc=(A,doc) by rw[q8,hA];rfl);rw[<- hA];have a2:=(Aa A1).low hb2;clear g0 g1 g2 z q0 q1 q2 hA q8;have g0:=a2.c0;have g1:=a2.c1;have g2:=a2.c2;have z:=a2.fz;have q5:=Ab (show AT w.heap.size w w2 from (Aa q6).trans (hb2.mono (by omega)));clear a2 hb2 q4;unfold Ai
    go_wp2_with (fail);refine AI (v:=Ai A) (by simp[A5,results36,go_sem,Ai,g0,g1,g2]) rfl ?_
    exact Cp.low ((Aa HE).trans (Aa qe)) (Aa HH) (Aa q7) ((AE.of3 (w.heap.size+1) w2 _ _ _).below (Aa q5) (by omega))
   ·have qe:=Ab (show cI (Zy s d e) doc=((0,0,[]),some (q,none)) by rw[q8];rfl);have a2:AB w2 (w.heap.size+1):=(hsb.block _ (by omega)).trans ((hk.block _ (by omega) (by omega)).trans ((hb2.block _ (by omega)).trans (Aa A1)));clear g0 g1 g2 z q0 q1 q2 q8;have g0:=a2.c0;have g1:=a2.c1;have g2:=a2.c2;have z:=a2.fz;have HK:=Ab ((Ao.of_below (F:=fun k=>F k\/k=S) ((Aa q6).trans (hb2.mono (by omega)))).trans hk fun j _ hj=>Ft hj);have HI:=Ab (hsb.isIn (a:=w.heap.size) (b:=w1.heap.size+1) (by omega) (by omega));have qm:=Ab hsb4;have qq:=Ab qd;clear a2 hb2 hk hsb hsb4 qd q4;unfold Ai
    go_wp2_with (fail);refine AI (v:=Ai (0,0,[])) (by simp[A5,results36,go_sem,Ai,g0,g1,g2]) rfl ?_
    have hi:=(Aa HI).trans ((AE.of3 (w.heap.size+1) w2 (.int .i64 ((0,0,[]):ZK).1) (.int .i64 ((0,0,[]):ZK).2.1) (.string ⟨((0,0,[]):ZK).2.2.toArray⟩)).isIn (a:=w.heap.size) (b:=w1.heap.size+1) (by omega) (by omega));unfold Cp;rw[(Aa HE).trans (Aa qe)];exact⟨rfl,hi.kept (Aa HK) (A6 _),p',(hi.block S (by omega)).trans (Aa qm),(Aa qq).move fun j hj _=>⟨hi.block j (Ft hj),Ft (by omega)⟩⟩
  have e1:decide (k<1)=false:=by simpa using k1
  have e9:decide (9<k)=false:=by simpa using k9
  have el:(k==1)=false:=by simpa using kl
  cases hdoc:doc with
  | none=>
   subst hdoc;have HE:=Ab (show ZR d e n none (k,s,t)=((3,0,[]),none) by unfold ZR;rw[hcfg,if_pos rfl,if_neg (by simp;omega),if_neg kl]);obtain rfl:p=.pointer none:=Aa q7;clear hcfg k1 k9 kl;simp only
   go_wp2_with (fail);refine (Bj 3 _).mono ?_
   rintro x w2 ⟨rfl,hb2⟩;have a2:=(Aa A1).low hb2;clear g0 g1 g2 z q0 q1 q2;have g0:=a2.c0;have g1:=a2.c1;have g2:=a2.c2;have z:=a2.fz;have q5:=Ab (show AT w.heap.size w w2 from (Aa q6).trans (hb2.mono (by omega)));clear a2 hb2;unfold AW
   go_wp2_with (fail);refine AI (v:=AW 3 []) (by simp[A5,results36,go_sem,AW,g0,g1,g2]) rfl ?_
   exact Cp.low (Aa HE) (Aa HH) (Aa q7) ((AE.of3 (w.heap.size+1) w2 _ _ _).below (Aa q5) (by omega))
  | some v=>
   subst hdoc;have HE:=Ab (show ZR d e n (some v) (k,s,t)=((Z9 d e n v (k,s,t)).1,some (Z9 d e n v (k,s,t)).2) by
    unfold ZR;rw[hcfg,if_pos rfl,if_neg (by simp;omega),if_neg kl];unfold Z9;by_cases h5:k<5
    ·simp only;rw[if_pos h5,if_pos h5]
    ·simp only;rw[if_neg h5,if_neg h5])
   have q4:=Ab (WY s t hcfg k1 k9 kl (fun j hj=>Aa qg j hj.1) (Aa qn) (Aa H1) (Aa D1) (Aa qi));have hD:=Aa q7;obtain⟨D,R,wp,rfl,_⟩:=hD;obtain⟨A,hA⟩:∃A,A=Z9 d e n v (k,s,t):=⟨_,rfl⟩
   rw[<- hA] at HE q4;clear hcfg k1 k9 kl;simp only
   go_wp2_with (fail);refine (Aa q4).mono ?_
   rintro x w2 hx;have qp:=hx.1;subst qp;have a2:AB w2 (w.heap.size+1):=(hx.2.1.block _ (by omega) (fun h=>by omega)).trans (Aa A1);have s2:SB w2 S d e n (.pointer (some ⟨D,0,none⟩)):=(hx.2.1.block S (by omega) (fun h=>(Aa qg S h.1).2 rfl)).trans (Aa H1);clear g0 g1 g2 z q0 q1 q2 hA;have g0:=a2.c0;have g1:=a2.c1;have g2:=a2.c2;have z:=a2.fz;have HX:=Ab hx;have qo:=Ab s2;clear a2 hx s2 q4;unfold Ai
   go_wp2_with (fail);refine AI (v:=Ai A.1) (by simp[A5,results36,go_sem,Ai,g0,g1,g2]) rfl ?_
   have hi:=(AE.of3 (w.heap.size+1) w2 (.int .i64 A.1.1) (.int .i64 A.1.2.1) (.string ⟨A.1.2.2.toArray⟩)).isIn (a:=w.heap.size) (b:=w1.heap.size) (by omega) (by omega);obtain⟨_,r1,r2⟩:=KF (F:=F) (Aa q6) (Aa HX) hi;unfold Cp;rw[Aa HE];exact⟨rfl,r1.mono fun j hj=>Dt hj,_,(hi.block S (by omega)).trans (Aa qo),r2⟩
def Plain(l:List St):Prop:=∀o∈l,U8 o
def Scr(w:A2)(sb so:Nat)(l:List St):Prop:=∀i (h:i<l.length),w.cell? ⟨sb,so+i*3,none⟩=some (.int .i64 l[i].1)/\w.cell? ⟨sb,so+i*3+1,none⟩=some (.string ⟨l[i].2.1.toArray⟩)/\w.cell? ⟨sb,so+i*3+2,none⟩=some (.string ⟨l[i].2.2.toArray⟩)
def EX(cs:Array CR)(n:Nat)(a:List ZK):Prop:=cs.size=n*3 /\ ∀i (h:i<a.length),cs[i*3]? = some (.int .i64 a[i].1)/\cs[i*3+1]? = some (.int .i64 a[i].2.1)/\cs[i*3+2]? = some (.string ⟨a[i].2.2.toArray⟩)
theorem U4:(Tryz.prog.info? 46).map (fun i=>(i.zero,i.size,i.bytes))=some (some (.agg #[.int .i64 0,.int .i64 0,.string ⟨#[]⟩]),3,32):=by kernel_rfl
theorem NL(n:Nat)(hn:n*32<=281474976710656)(w:A2):(D3 43 (.int .i64 n) (.int .i64 n)).run AS w=.ok (.slice (some ⟨w.heap.size,0,none⟩) n n) (w.alloc (.cells (C2 #[.int .i64 0,.int .i64 0,.string ⟨#[]⟩] (n*3)) 46)):=by
 obtain⟨i,hi,h⟩:=Option.map_eq_some_iff.1 U4;injection h with h1 h2;injection h2 with h2 h3;have:=run_make (P:=AS) w 43 46 i _ underlying43 hi h1 .i64 .i64 n n (by omega) (by omega) (by rw[h3];omega) (by omega);rw[h2] at this;simpa[Value.cells] using this
theorem Kj{A t:Nat}{fr:Nat×Nat}(h:w.heap[A]? = some (.cells cs t fr))(o:Nat)(u:CR):(w.setCell ⟨A,o,none⟩ u).heap[A]? = some (.cells (cs.setIfInBounds o u) t fr):=by
 simp only[F1,Array.getElem?_modify];rw[if_pos trivial,h];rfl
theorem EX.snoc{n:Nat}{a:List ZK}(h:EX cs n a)(x:ZK)(hl:a.length<n):
  EX (((cs.setIfInBounds (a.length*3) (.int .i64 x.1)).setIfInBounds (a.length*3+1) (.int .i64 x.2.1)).setIfInBounds (a.length*3+2) (.string ⟨x.2.2.toArray⟩)) n (a++[x]):=by
 obtain⟨h1,h2⟩:=h;refine⟨by simpa using h1,fun i hi=>?_⟩;simp only[Array.getElem?_setIfInBounds,Array.size_setIfInBounds];rw[List.length_append,List.length_singleton] at hi;by_cases hx:i=a.length
 ·subst hx;simp only[List.getElem_concat_length];refine⟨?_,?_,?_⟩;all_goals repeat' split
  all_goals first|rfl|omega|exact absurd trivial ‹¬True›
 ·have q0:i<a.length:=by omega
  rw[List.getElem_append_left q0];obtain⟨e1,e2,e3⟩:=h2 i q0;refine⟨?_,?_,?_⟩
  ·rw[if_neg (by omega),if_neg (by omega),if_neg (by omega)];exact e1
  ·rw[if_neg (by omega),if_neg (by omega),if_neg (by omega)];exact e2
  ·rw[if_neg (by omega),if_neg (by omega),if_neg (by omega)];exact e3
def NS(d e n:Int)(l:List St)(S A m:Nat)(w0:A2)(k:Nat)(w:A2):Prop:=
 ∃p cs,SB w S d e n p/\Bf w (fun j=>w0.heap.size<=j/\j≠S/\j≠A) p d e (aB d e n none (l.take k))/\w.heap[A]? = some (.cells cs 46 (0,0))/\EX cs m (ZX d e n none (l.take k))/\AT w0.heap.size w0 w
theorem NS.next{l:List St}{A m k:Nat}{w0:A2}(hk:k<l.length)(hm:m=l.length)(qf:S≠A)(q0:w0.heap.size<=A)(qh:w0.heap.size<=S)(hA:w.heap[A]? = some (.cells cs 46 (0,0)))(q7:EX cs m (ZX d e n none (l.take k)))(hb:AT w0.heap.size w0 w){w1 w3:A2}{o:Obj}(q5:w1=w.alloc o)(qi:S<w.heap.size)(hF:∀j,F j->w0.heap.size<=j/\j≠S/\j≠A)(qb:Cp S d e n (aB d e n none (l.take k)) l[k] F w1 (.returned (Ai (ZR d e n (aB d e n none (l.take k)) l[k]).1)) w3):
  NS d e n l S A m w0 (k+1) (((w3.setCell ⟨A,k*3,none⟩ (.int .i64 (ZR d e n (aB d e n none (l.take k)) l[k]).1.1)).setCell ⟨A,k*3+1,none⟩ (.int .i64 (ZR d e n (aB d e n none (l.take k)) l[k]).1.2.1)).setCell ⟨A,k*3+2,none⟩ (.string ⟨(ZR d e n (aB d e n none (l.take k)) l[k]).1.2.2.toArray⟩)):=by
 obtain⟨_,q8,p',hsb,hdoc⟩:=qb;have q9:A<w.heap.size:=(Bs.1 hA).1;have qe:w1.heap[A]? = some (.cells cs 46 (0,0)):=by rw[q5];exact (D2 _ _ _ q9).trans hA
 have qg:w1.heap.size=w.heap.size+1:=by rw[q5];simp
 have qd:w3.heap[A]? = some (.cells cs 46 (0,0)):=(q8.block A (by omega) (fun h=>by
  rcases h with h|h
  ·exact (hF A h).2.2 rfl
  ·omega)).trans qe
 have q6:(ZX d e n none (l.take k)).length=k:=by rw[cQ,List.length_take];omega
 have htk:l.take (k+1)=l.take k++[l[k]]:=List.take_succ_eq_append_getElem hk;have q4:=Kj (Kj (Kj qd (k*3) (.int .i64 (ZR d e n (aB d e n none (l.take k)) l[k]).1.1)) (k*3+1) (.int .i64 (ZR d e n (aB d e n none (l.take k)) l[k]).1.2.1)) (k*3+2) (.string ⟨(ZR d e n (aB d e n none (l.take k)) l[k]).1.2.2.toArray⟩);have hans':=q7.snoc (ZR d e n (aB d e n none (l.take k)) l[k]).1 (by omega);rw[q6,<- dK,<- htk] at hans';have ho:∀j,j≠A->(((w3.setCell ⟨A,k*3,none⟩ (.int .i64 (ZR d e n (aB d e n none (l.take k)) l[k]).1.1)).setCell ⟨A,k*3+1,none⟩ (.int .i64 (ZR d e n (aB d e n none (l.take k)) l[k]).1.2.1)).setCell ⟨A,k*3+2,none⟩ (.string ⟨(ZR d e n (aB d e n none (l.take k)) l[k]).1.2.2.toArray⟩)).heap[j]? = w3.heap[j]?:=fun j hj=>
  (A4 _ _ _ _ hj).trans ((A4 _ _ _ _ hj).trans (A4 _ _ _ _ hj))
 refine⟨p',_,(ho S qf).trans hsb,?_,q4,hans',?_⟩
 ·rw[htk,dL];refine hdoc.move fun j h1 _=>?_;have hj:w0.heap.size<=j/\j≠S/\j≠A:=by
   rcases h1 with h1|h1
   ·exact hF j h1.1
   ·exact⟨by have:=hb.size;omega,by omega,by omega⟩
  exact⟨ho j hj.2.2,hj⟩
 ·have hb1:AT w0.heap.size w0 w1:=by rw[q5];exact hb.alloc (by omega) _
  have hb3:AT w0.heap.size w0 w3:=hb1.trans (q8.below (fun j hj h=>by
   rcases h with h|h
   ·have:=(hF j h).1;omega
   ·omega) hb1.size)
  exact An (An (An hb3 A _ q0 _) A _ q0 _) A _ q0 _
theorem EX.cell{n:Nat}{a:List ZK}(h:EX cs n a)(j:Nat)(hj:j<n*3):∃u,cs[j]? = some u:=by
 have:=h.1;exact⟨cs[j],by rw[Array.getElem?_eq_getElem (by omega)]⟩
theorem NR{sb so m cap:Nat}{l:List St}(hs:Scr w sb so l)(qq:Plain l)(hm:m=l.length)(hpos:0<m)(qz:m<=cap)(hb:m*32<=281474976710656)(hsb:sb<w.heap.size)(hT:Af w):
  CH AS 24 #[.agg #[.int .i64 d,.int .i64 e,.int .i64 n],.slice (some ⟨sb,so,none⟩) m cap] w fun x w'=>∃A cs,x=.returned (.slice (some ⟨A,0,none⟩) m m)/\w.heap.size<=A/\w'.heap[A]? = some (.cells cs 46 (0,0))/\EX cs m (ZX d e n none l)/\AT w.heap.size w w':=by
 have zb:=NL m hb;have za:(m:Int)<=9223372036854775807:=by omega
 have HM:=Ab hm;have HS:=Ab hs;have HT:=Ab hT;have qk:=hT.ng;have qn:Hid (NS d e n l (w.heap.size+1+1) (w.heap.size+1) m w 0 (((w.alloc (.cells #[.int .i64 d,.int .i64 e,.int .i64 n] 23)).alloc (.cells (C2 #[.int .i64 0,.int .i64 0,.string ⟨#[]⟩] (m*3)) 46)).alloc (.cells #[.int .i64 d,.int .i64 e,.int .i64 n,.pointer none] 62))):=by
  refine⟨.pointer none,C2 #[.int .i64 0,.int .i64 0,.string ⟨#[]⟩] (m*3),?_,rfl,?_,⟨size_madeCells _ _,fun i hi=>absurd hi (by simp[ZX])⟩,(((CD _ w).alloc (A6 _) _).alloc (by simp) _).alloc (by simp;omega) _⟩
  ·show (((w.heap.push _).push _).push _)[w.heap.size+1+1]? = _;simp only[BY,C1];rw[if_pos trivial]
  ·show (((w.heap.push _).push _).push _)[w.heap.size+1]? = _;simp only[BY,C1];rw[if_neg (by omega),if_pos trivial]
 have qu:=Ab qq;clear hm hs hT qq
 go_enter func24,ntmps24
 go_wp2_with (fail)
 go_loopw [16] (fun i wr=>∃k:Nat,k<=m/\i=.int .i64 k/\NS d e n l (w.heap.size+1+1) (w.heap.size+1) m w k wr) (fun i _=>m-(intOf i).toNat)
 case atStart=>exact⟨0,by omega,rfl,Aa qn⟩
 case round=>
  obtain⟨k,hk,rfl,p,cs,q7,hdoc,q8,q6,q4⟩:=hrel;by_cases hlt:k<m
  ·have qi:k<l.length:=by have:=Aa HM;omega
   obtain⟨q0,q1,q2⟩:=Aa HS k qi;have z7:wr.cell? ⟨sb,so+k*3,none⟩=some (.int .i64 l[k].1):=(q4.cell (p:=⟨sb,so+k*3,none⟩) hsb).trans q0;have z8:wr.cell? ⟨sb,so+k*3+1,none⟩=some (.string ⟨l[k].2.1.toArray⟩):=(q4.cell (p:=⟨sb,so+k*3+1,none⟩) hsb).trans q1;have z6:wr.cell? ⟨sb,so+k*3+2,none⟩=some (.string ⟨l[k].2.2.toArray⟩):=(q4.cell (p:=⟨sb,so+k*3+2,none⟩) hsb).trans q2;have qw:=Ab q7;have qh:=Ab hdoc;have q9:=Ab q8;have q5:=Ab q6;have qe:=Ab q4;have qj:=q7.lt;have z1:=q4.size;clear q0 q1 q2 q7 hdoc q8 q6 q4 qn;have qv:w.heap.size+1<wr.heap.size:=(Bs.1 (Aa q9)).1
   go_wp2_with (fail);have qg:AT wr.heap.size wr (wr.alloc (.cells #[.int .i64 l[k].1,.string ⟨l[k].2.1.toArray⟩,.string ⟨l[k].2.2.toArray⟩] 49)):=(CD _ _).alloc (A6 _) _
   have qr:Bf (wr.alloc (.cells #[.int .i64 l[k].1,.string ⟨l[k].2.1.toArray⟩,.string ⟨l[k].2.2.toArray⟩] 49)) (fun j=>w.heap.size<=j/\j≠w.heap.size+1+1/\j≠w.heap.size+1) p d e (aB d e n none (l.take k)):=(Aa qh).move fun j h1 h2=>⟨qg.block j h2,h1⟩
   refine (Tz l[k].1 l[k].2.1 l[k].2.2 (fun j hj=>⟨CL qk hj.1,hj.2.1⟩) ((Aa qu) _ (List.getElem_mem qi)) ((Aa qw).low qg) qr (((Aa HT).below ((Aa qe).mono qk)).below (qg.mono (by omega)))).mono ?_;rintro x w3 qf;have hx:=qf.1;subst hx;have qb:=qf;have qt:=qb.2.1;have qd:w3.heap[w.heap.size+1]? = some (.cells cs 46 (0,0)):=(qt.block _ (by simp;omega) (by omega)).trans ((D2 _ _ _ qv).trans (Aa q9));obtain⟨u0,qp⟩:=(Aa q5).cell (k*3) (by omega);obtain⟨u1,qm⟩:=(Aa q5).cell (k*3+1) (by omega);obtain⟨u2,qo⟩:=(Aa q5).cell (k*3+2) (by omega);have g0:w3.cell? ⟨w.heap.size+1,k*3,none⟩=some u0:=by simp[A3,qd,qp]
   have g1:w3.cell? ⟨w.heap.size+1,k*3+1,none⟩=some u1:=by simp[A3,qd,qm]
   have g2:w3.cell? ⟨w.heap.size+1,k*3+2,none⟩=some u2:=by simp[A3,qd,qo]
   have z:∀o,w3.frozen? ⟨w.heap.size+1,o,none⟩=false:=fun o=>by simp[World.frozen?,qd]
   have qy:=Ab qf;clear qf qb qt qd qg qr qp qm qo;unfold Ai
   go_wp2_with (fail);exact⟨⟨k+1,by omega,by go_num,NS.next qi (Aa HM) (by omega) (by omega) (by omega) (Aa q9) (Aa q5) (Aa qe) rfl qj (fun j hj=>hj) (Aa qy)⟩,by simp[intOf];omega⟩
  ·go_wp2_with (fail)
   go_ret;have qx:k=m:=by omega
   subst qx;rw[List.take_of_length_le (by have:=Aa HM;omega)] at q6;exact⟨_,cs,rfl,by omega,q8,q6,q4⟩
theorem KH{pa:Option Addr}{cap:Nat}:
  CH AS 24 #[.agg #[.int .i64 d,.int .i64 e,.int .i64 n],.slice pa 0 cap] w fun x w'=>∃A cs,x=.returned (.slice (some ⟨A,0,none⟩) 0 0)/\w.heap.size<=A/\w'.heap[A]? = some (.cells cs 46 (0,0))/\EX cs 0 (ZX d e n none [])/\AT w.heap.size w w':=by
 have q0:∀W:A2,(D3 43 (.int .i64 0) (.int .i64 0)).run AS W=.ok (.slice (some ⟨W.heap.size,0,none⟩) 0 0) (W.alloc (.cells (C2 #[.int .i64 0,.int .i64 0,.string ⟨#[]⟩] 0) 46)):=fun W=>by simpa using NL 0 (by omega) W
 go_enter func24,ntmps24
 go_wp2_with (fail);refine wp_loop_rounds 1 ?_
 rw[rounds_succ]
 go_wp2_with (fail)
 go_ret;refine⟨w.heap.size+1,C2 #[.int .i64 0,.int .i64 0,.string ⟨#[]⟩] 0,rfl,by omega,?_,⟨size_madeCells _ _,fun i hi=>absurd hi (by simp[ZX])⟩,(((CD _ w).alloc (A6 _) _).alloc (by simp) _).alloc (by simp;omega) _⟩
 show (((w.heap.push _).push _).push _)[w.heap.size+1]? = _;simp only[BY,C1];rw[if_neg (by omega),if_pos trivial]
theorem MF(c:Int)(m:Nat)(h0:-9223372036854775808<=c)(h1:c<=9223372036854775807)(hm:0<m)(q0:m<=4611686018427387904)(w:A2):
  CH AS 23 #[.int .i64 c,.int .i64 m] w fun x w'=>(∃k:Nat,k<m/\x=.returned (.int .i64 k))/\w'=w:=by
 by_cases hc:c<0
 ·have e1:decide (c<0)=true:=by simpa using hc
  go_enter func23,ntmps23
  go_wp2_with (fail)
  go_ret;have e2:-(c+1).tmod (m:Int)=(-(c+1)) % (m:Int):=by
   rw[<- Int.neg_tmod,Int.tmod_eq_emod_of_nonneg (by omega)]
  have e3:=E0 (-(c+1)) (show (m:Int)≠0 by omega);have e4:=DD (-(c+1)) (show (0:Int)<m by omega);refine⟨⟨((-(c+1)) % (m:Int)).toNat,by omega,?_⟩,rfl⟩;rw[e2,Dp e3];rfl
 ·have e1:decide (c<0)=false:=by simpa using hc
  go_enter func23,ntmps23
  go_wp2_with (fail)
  go_ret;have e3:=E0 c (show (m:Int)≠0 by omega)
  have e4:=DD c (show (0:Int)<m by omega);refine⟨⟨(c % (m:Int)).toNat,by omega,?_⟩,rfl⟩;rw[Dp e3];rfl
theorem FJ(k:Int)(s t:ByteArray)(w:A2):CH AS 26 #[.int .i64 k,.string s,.string t] w fun x w'=>x=.returned (.agg #[.int .i64 k,.string s,.string t])/\AT w.heap.size w w':=by
 go_enter func26,ntmps26
 go_wp2_with (fail);refine AI (v:=.agg #[.int .i64 k,.string s,.string t]) (by simp[A5,results26,go_sem]) rfl ⟨rfl,?_⟩
 exact (CD _ w).alloc (A6 _) _
theorem IM(t:By)(w:A2):CH AS 30 #[AW 0 t,.string ⟨t.toArray⟩] w fun x w'=>x=.returned (.bool true)/\AT w.heap.size w w':=by
 unfold AW
 go_enter func30,ntmps30
 go_wp2_with (fail)
 go_ret;exact⟨rfl,(CD _ w).alloc (A6 _) _⟩
def cX:By:=[32,91,49,46,48,44,32,50,93]
def cC:By:=[91,49,44,50,93]
def cY:By:=[91]
def ls:List St:=[(1,cX,[]),(2,[],[]),(1,cY,[]),(2,[],[])]
theorem Zd:Zy cX 3 9=(0,some (Ap [Bv (false,[49],0),Bv (false,[50],0)])):=by kernel_rfl
theorem Zc:Zy cY 3 9=(5,none):=by kernel_rfl
theorem Ze:Zm top (Ap [Bv (false,[49],0),Bv (false,[50],0)])=cC:=by kernel_rfl
theorem Xk:ZX 3 9 100 none ls=[(0,0,[]),(0,0,cC),(5,0,[]),(0,0,cC)]:=by
 rfl
def Ku:Array CR:=#[.int .i64 1,.string ⟨#[32,91,49,46,48,44,32,50,93]⟩,.string ⟨#[]⟩,.int .i64 2,.string ⟨#[]⟩,.string ⟨#[]⟩,.int .i64 1,.string ⟨#[91]⟩,.string ⟨#[]⟩,.int .i64 2,.string ⟨#[]⟩,.string ⟨#[]⟩]
theorem Xj{g:Nat}(h:w.heap[g]? = some (.cells Ku 49 (0,0))):Scr w g 0 ls:=by
 intro i hi;have hc:∀j,w.cell? ⟨g,j,none⟩=Ku[j]?:=fun j=>by simp[A3,h]
 rw[hc,hc,hc]
 match i,hi with
 | 0,_=>exact⟨rfl,rfl,rfl⟩
 | 1,_=>exact⟨rfl,rfl,rfl⟩
 | 2,_=>exact⟨rfl,rfl,rfl⟩
 | 3,_=>exact⟨rfl,rfl,rfl⟩
theorem TO:Plain ls:=by
 intro o ho;simp only[ls,List.mem_cons,List.not_mem_nil,or_false] at ho;rcases ho with rfl|rfl|rfl|rfl<;>exact Dt (Dt (by decide))
theorem IF(w:A2)(hT:Af w):CH AS 17 #[] w fun x w'=>x=.returned (.bool true)/\AT w.heap.size w w':=by
 have HT:=Ab hT;have qv:=hT.ng;clear hT
 go_enter func17,ntmps17
 go_wp2_with (fail);refine (FJ 1 _ _ _).mono ?_
 rintro x w1 ⟨rfl,hb1⟩
 go_wp2_with (fail);refine (FJ 2 _ _ _).mono ?_
 rintro x w2 ⟨rfl,hb2⟩
 go_wp2_with (fail);refine (FJ 1 _ _ _).mono ?_
 rintro x w3 ⟨rfl,hb3⟩
 go_wp2_with (fail);refine (FJ 2 _ _ _).mono ?_
 rintro x w4 ⟨rfl,qi⟩;have q9:AT w.heap.size w w4:=((hb1.trans (hb2.mono hb1.size)).trans (hb3.mono (CL hb1.size hb2.size))).trans (qi.mono (CL hb1.size (CL hb2.size hb3.size)));have qz:=Ab q9;have qy:=q9.size;clear hb1 hb2 hb3 qi q9
 go_wp2_with (fail);have qf:AT w.heap.size w (w4.alloc (.cells Ku 49)):=(Aa qz).alloc qy _
 refine (NR (d:=3) (e:=9) (n:=100) (sb:=w4.heap.size) (so:=0) (m:=4) (cap:=4) (l:=ls) (Xj (C6 w4 _ _ rfl)) TO rfl (by omega) (by omega) (by omega) (by simp) ((Aa HT).below (qf.mono qv))).mono ?_;rintro x w6 ⟨A,cs,rfl,hA,q8,qe,qj⟩;rw[Xk] at qe;obtain⟨hsz,hc⟩:=qe;have q0:=hc 0 (by simp);have q1:=hc 1 (by simp);have q2:=hc 2 (by simp);have q3:=hc 3 (by simp);simp only[List.getElem_cons_zero,List.getElem_cons_succ] at q0 q1 q2 q3;have q4:∀j,w6.cell? ⟨A,j,none⟩=cs[j]?:=fun j=>by simp[A3,q8]
 have qx:=(q4 0).trans q0.1;have qw:=(q4 1).trans q0.2.1;have z8:=(q4 2).trans q0.2.2;have qo:=(q4 3).trans q1.1;have qt:=(q4 4).trans q1.2.1;have qn:=(q4 5).trans q1.2.2;have qm:=(q4 6).trans q2.1;have z1:=(q4 7).trans q2.2.1;have z6:=(q4 8).trans q2.2.2;have qk:=(q4 9).trans q3.1;have qh:=(q4 10).trans q3.2.1;have qr:=(q4 11).trans q3.2.2;have qb:AT w.heap.size w w6:=qf.trans (qj.mono qf.size);have qp:=Ab qb;have q6:A<w6.heap.size:=(Bs.1 q8).1;clear q0 q1 q2 q3 hc q4 q8 hsz qf qj qb
 go_wp2_with (fail);refine (IM [] w6).mono ?_
 rintro x w7 ⟨rfl,q5⟩;have k1:=(q5.cell (p:=⟨A,3,none⟩) q6).trans qo;have k2:=(q5.cell (p:=⟨A,4,none⟩) q6).trans qt;have k3:=(q5.cell (p:=⟨A,5,none⟩) q6).trans qn;have k4:=(q5.cell (p:=⟨A,6,none⟩) q6).trans qm;have k5:=(q5.cell (p:=⟨A,9,none⟩) q6).trans qk;have k6:=(q5.cell (p:=⟨A,10,none⟩) q6).trans qh;have k7:=(q5.cell (p:=⟨A,11,none⟩) q6).trans qr;have qq:=Ab ((Aa qp).trans (q5.mono (Aa qp).size));have qd:A<w7.heap.size:=D0 q6 q5.size;clear qx qw z8 qo qt qn qm z1 z6 qk qh qr q5
 go_wp2_with (fail);refine (IM cC w7).mono ?_
 rintro x w8 ⟨rfl,q7⟩;have m4:=(q7.cell (p:=⟨A,6,none⟩) qd).trans k4;have m5:=(q7.cell (p:=⟨A,9,none⟩) qd).trans k5;have m6:=(q7.cell (p:=⟨A,10,none⟩) qd).trans k6;have m7:=(q7.cell (p:=⟨A,11,none⟩) qd).trans k7;have qu:=Ab ((Aa qq).trans (q7.mono (Aa qq).size));have z7:A<w8.heap.size:=D0 qd q7.size;clear k1 k2 k3 k4 k5 k6 k7 q7
 go_wp2_with (fail);refine (IM cC w8).mono ?_
 rintro x w9 ⟨rfl,qg⟩;have n4:=(qg.cell (p:=⟨A,6,none⟩) z7).trans m4;have za:=Ab ((Aa qu).trans (qg.mono (Aa qu).size));clear m4 m5 m6 m7 qg
 go_wp2_with (fail)
 go_ret;exact⟨rfl,Aa za⟩
end Go.Proofs.YtdpomdelmdofmaaGreatDoor
