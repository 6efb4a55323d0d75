import Derived.Test.YtdpomdelmdofmaaGreatDoorRea25
import Derived.RangeFuncNested
import Derived.RangeFuncBound
import Derived.RangeFuncCalls
import Derived.RangeFuncLeaves
import Derived.Shelf.Abstract
import Derived.Shelf.RegionOpen
import Derived.OwnWalkIn
import Derived.TacticsInMore
import Derived.LoopNIn
import Derived.LoopIn
open Go.Proofs.Tryz renaming prog->AI
open Go renaming World->AS,bodyPost_ret->A2,Calls->A3,Value->A6,results->BY,callFunc->D2
open Go.RowKit renaming Below->AT
open Go.World renaming putObj_heap_other->A4,putObj_heap_same->CD,cell?->CH,alloc_heap_new->D0
open Nat renaming le_refl->A5
open Go.RowKit.Below renaming heap_setCell->CL,heap_alloc->C2,refl->Dp
open Array renaming getElem?_eq_some_iff->CR
open List renaming length_eq_zero_iff->C1
open Go.Fence renaming wide->Dt
open Or renaming inr->DD,inl->E0
open Go.IntKind renaming wrap_i64->D3
set_option maxRecDepth 100000
set_option maxHeartbeats 8000000
namespace Go.Proofs.YtdpomdelmdofmaaGreatDoor
open Go.Proofs.Tryz Go.RowKit Go.Maps
variable{w':AS}{r S b:Nat}{e n:Int}{p:A6}{s:By}{doc:gP}
section
variable{w:AS}{D R:Nat}{wp:Option Addr}{jn iv:A6}{ch:Bool}{Tb T a:dS}{Mb M:Nat->Prop}{wb:AS}{v xv:To}{js:List dX}{y:Option Addr}{F:Nat->Prop}{d x:Int}{B:Nat}
 {k:Nat} {pa fa:Option Addr} {pl pc fl fc:Nat} {p q:List By}
theorem Aw.at{G:Nat->Prop}{v:A6}{l:List By}(h:Aw w G v l)(hb:AT w.heap.size w w'):Aw w' G v l:=h.move fun k hk q0=>⟨hb.block k q0,hk⟩
theorem VI{G:Nat->Prop}{l:List By}(h:Aw w G (.slice pa pl pc) l):pl=l.length:=by
 rcases h with⟨rfl,a,c,e,_⟩|⟨g,o,cap,e,_⟩
 ·injection e with _ e _
 ·injection e with _ e _
theorem AO.form{r:Except Nat (To×List dX)}{e:Ending}(h:AO D R iv ch Tb Mb wb M js w r e w'):∃c:Nat,e=.returned (.int .i64 c)/\Hid (AO D R iv ch Tb Mb wb M js w r (.returned (.int .i64 c)) w'):=by
 cases r with
 | ok vj=>obtain⟨rfl,h⟩:=h;exact⟨0,rfl,rfl,h⟩
 | error c=>obtain⟨rfl,h⟩:=h;exact⟨c,rfl,rfl,h⟩
theorem US(h:JS w D R wp jn iv ch Tb Mb wb T a v M js)(hT:Ai w)(hv:eG d x B v)(hx:eG d x B xv)(hB:B<=900000000)(hl:js.length<=1000000000)(hy:Rep top F w (.pointer y) xv)(hp:Aw w (GA (top+1) Tb wb M) (.slice pa pl pc) p)(q0:fZ p):
  A3 AI 151 #[.pointer (some ⟨D,0,none⟩),opV k pa pl pc fa fl fc y] w fun e w'=>AO D R iv ch Tb Mb wb M js w (Cq v p xv) e w':=by
 have hM:∀k,M k->k<w.heap.size:=fun k hk=>(h.j.low k hk).1;refine (UT (Q:=fun c w'=>AO D R iv ch Tb Mb wb M js w (Cq v p xv) (.returned (.int .i64 c)) w') fun w1 hb1=>(LO (h.bel hb1) (hT.bel hb1) hv hx hB hl (hy.bel hb1) (hp.at hb1) q0).mono ?_).mono ?_
 ·rintro e w' he;obtain⟨c,rfl,h2⟩:=he.form;exact⟨c,rfl,AO.below hb1 hM (Aa h2)⟩
 ·rintro e w' ⟨c,rfl,h2⟩;exact h2
theorem O6(h:JS w D R wp jn iv ch Tb Mb wb T a v M js)(hT:Ai w)(hv:eG d x B v)(hB:B<=900000000)(hl:js.length<=1000000000)(hp:Aw w (GA (top+1) Tb wb M) (.slice pa pl pc) p)(q4:fZ p):
  A3 AI 152 #[.pointer (some ⟨D,0,none⟩),opV k pa pl pc fa fl fc y] w fun e w'=>AO D R iv ch Tb Mb wb M js w (CU v p) e w':=by
 have hM:∀k,M k->k<w.heap.size:=fun k hk=>(h.j.low k hk).1;have q0:=VI hp;by_cases hne:p=[]
 ·subst hne;obtain rfl:pl=0:=q0;refine O4.mono ?_;rintro e w' ⟨rfl,hb⟩;exact h.err hb
 ·have hl0:pl≠0:=by
   intro e0;rw[e0] at q0;exact hne (C1.1 q0.symm)
  cases hf:Ah v p with
  | error c=>
   rw[Xc hne hf];refine (O5 hl0 (Cj hf) (Iq h hT hp q4 hf)).mono ?_;rintro e w' ⟨rfl,hb⟩;exact h.err hb
  | ok ev=>
   obtain⟨f,q,m,c,i,key,qa,ql,qc,t1,t2,t3,t4,t5,t6,t7,t8,t9,q6,q5⟩:=JL h hT hv hB hp q4 hf;obtain⟨g,a1,r1,r2⟩:=t9 hne;rw[r2];refine (PV (Q:=fun w'=>AO D R iv ch Tb Mb wb M js w (.ok (dV top a1,[(0,p,ev)])) (.returned (.int .i64 0)) w') hl0 q5 fun w1 hb1=>(Me t1 (h.bel hb1).j t2 t3 t7 hl (t8.at hb1) t6).mono ?_).mono ?_
   ·rintro e w' ⟨rfl,he,_⟩;rw[t4] at he;exact⟨rfl,AO.below hb1 hM (JS.ok he r1 rfl)⟩
   ·rintro e w' ⟨rfl,he⟩;exact he
theorem Nr(h:JS w D R wp jn iv ch Tb Mb wb T a v M js)(hT:Ai w)(hv:eG d x B v)(hx:eG d x B xv)(hB:B<=900000000)(hl:js.length<=1000000000)(hy:Rep top F w (.pointer y) xv)(hp:Aw w (GA (top+1) Tb wb M) (.slice pa pl pc) p)(q4:fZ p):
  A3 AI 153 #[.pointer (some ⟨D,0,none⟩),opV k pa pl pc fa fl fc y] w fun e w'=>AO D R iv ch Tb Mb wb M js w (EO v p xv) e w':=by
 have hM:∀k,M k->k<w.heap.size:=fun k hk=>(h.j.low k hk).1;cases hf:Ah v p with
 | error c=>
  rw[W9 hf];refine (Nq (Cj hf) (Iq h hT hp q4 hf)).mono ?_;rintro e w' ⟨rfl,hb⟩;exact h.err hb
 | ok ev=>
  obtain⟨f,q,m,c,i,key,qa,ql,qc,t1,t2,t3,t4,t5,t6,t7,t8,t9,q7,q8⟩:=JL h hT hv hB hp q4 hf;refine (O3 (Q:=fun w'=>AO D R iv ch Tb Mb wb M js w (EO v p xv) (.returned (.int .i64 0)) w') (Q1:=fun z w1=>∃w0,AT w.heap.size w w0/\Frs w0 xv z w1) q8 (fun w1 hb1=>(Ka (hy.bel hb1) hx (by omega)).mono ?_) (fun z w1 w2 hq hb1 hb2=>?_)).mono ?_
  ·rintro e w' ⟨z,rfl,hq⟩;exact⟨z,rfl,(Aa hq).1,w1,hb1,Aa hq⟩
  ·obtain⟨w0,q5,q6⟩:=hq;obtain⟨ax,b1,b2,q9,b3,b4,b5⟩:=Frs.at (h.bel q5) q6 hx t5 t6;have q0:=hb1.trans (hb2.mono hb1.size);obtain⟨g,a1,r1,r2⟩:=q7 ax;rw[b2] at r2;rw[r2];refine (Yd t1 (h.bel q0).j t2 t3 t7 hl (t8.at q0) t6 (b1.bel hb2) b3 b5).mono ?_;rintro e w' ⟨rfl,he⟩;rw[t4] at he;exact⟨rfl,AO.below q0 hM (JS.ok he r1 rfl)⟩
  ·rintro e w' ⟨rfl,he⟩;exact he
theorem Sg(h:JS w D R wp jn iv ch Tb Mb wb T a v M js)(hT:Ai w)(hy:Rep top F w (.pointer y) xv)(hp:Aw w (GA (top+1) Tb wb M) (.slice pa pl pc) p)(q4:fZ p):
  A3 AI 156 #[.pointer (some ⟨D,0,none⟩),opV k pa pl pc fa fl fc y] w fun e w'=>AO D R iv ch Tb Mb wb M js w (KZ v p xv) e w':=by
 have p1:=q4.len;have p2:=q4.tok;have q5:=h.t.str;unfold KZ;cases hf:Ah v p with
 | error c=>
  have hf2:=hf;rw[<- q5] at hf2;refine (Sf (wp:=wp) (Cj hf) (fun w1 hb1=>Dw (h.bel hb1).t) (fun w1 hb1=>Kf (fun t ht=>by have:=p2 t ht;omega) (by omega) (hT.bel hb1).rng (h.bel hb1).t.sub (hp.at hb1).toks hf2)).mono ?_;rintro e w' ⟨rfl,hb⟩;exact h.err hb
 | ok ev=>
  have hf2:=hf;rw[<- q5] at hf2;obtain⟨f,q,m,u,e1,e2,e3,e4,e5⟩:=CG h.t.sub hf2;obtain⟨ub,rfl,_⟩:=e3.ptr;have q0:Rep top (fun _=>True) w (.pointer (some ⟨ub,0,none⟩)) ev:=by
   rw[<- e4,<- (e3.up (g:=top) (by omega)).2.2];exact (e3.up (g:=top) (by omega)).1.rep fun _ _=>trivial
  refine (UQ (wp:=wp) (bo:=veq ev xv) (fun w1 hb1=>Dw (h.bel hb1).t) (fun w1 hb1=>LV (fun t ht=>by have:=p2 t ht;omega) (by omega) (hT.bel hb1).rng (h.bel hb1).t.sub (hp.at hb1).toks hf2 e2 (e3.bel hb1) e5) (fun w1 hb1=>ES top _ _ w1 _ _ ev xv (q0.bel hb1) (hy.bel hb1))).mono ?_;rintro e w' ⟨rfl,hb⟩;simp only;by_cases hq:veq ev xv=true
  ·rw[if_pos hq,if_pos hq];exact⟨rfl,wp,jn,T,a,M,by simpa using h.bel hb,(h.j.bel hb).2⟩
  ·rw[if_neg hq,if_neg hq];exact h.err hb
theorem OV(hv:eG d x B v)(h:JS w D R wp jn iv ch Tb Mb wb T a v M js){ev:To}(hf:Ah v p=.ok ev):eG d x B ev:=by
 have q0:=h.t.str;rw[<- q0] at hf;obtain⟨f,q,m,u,e1,e2,e3,e4,e5⟩:=CG h.t.sub hf;obtain⟨n1,n2,n3,n4,n5,n6,n7⟩:=h.node hv e1 e2 e3;have hs:dV top m=ev:=by rw[(e3.up (g:=top) (by omega)).2.2,e4]
 have g1:dY d x (f+1) 1 (dV (f+1) m):=by
  have h1:=Fa (s:=-(q.length:Int)) n5;rw[show (1:Int)+q.length + -(q.length:Int)=1 by omega] at h1;exact CS (by omega) h1
 have g2:=Ci (f:=top) g1 (by have:=hv.dd;have:=E1;omega);rw[e4] at g2 n6;refine⟨g2,hv.dd,?_⟩;have:dT top ev=dT (f+1) ev:=by
  rw[e4] at g1;exact Fs g1 (by omega)
 omega
theorem Sl(h:JS w D R wp jn iv ch Tb Mb wb T a v M js)(hT:Ai w)(hv:eG d x B v)(hB:B<=900000000)(hl:js.length<=1000000000)(hp:Aw w (GA (top+1) Tb wb M) (.slice pa pl pc) p)(q7:fZ p)(hq:Aw w (GA (top+1) Tb wb M) (.slice fa fl fc) q)(q4:fZ q):
  A3 AI 155 #[.pointer (some ⟨D,0,none⟩),opV k pa pl pc fa fl fc y] w fun e w'=>AO D R iv ch Tb Mb wb M js w (Lb v q p) e w':=by
 have hM:∀k,M k->k<w.heap.size:=fun k hk=>(h.j.low k hk).1;have p1:=q4.len;have p2:=q4.tok;have q5:=h.t.str;unfold Lb;cases hf:Ah v q with
 | error c=>
  have hf2:=hf;rw[<- q5] at hf2;refine (Sk (wp:=wp) (Cj hf) (fun w1 hb1=>Dw (h.bel hb1).t) (fun w1 hb1=>Kf (fun t ht=>by have:=p2 t ht;omega) (by omega) (hT.bel hb1).rng (h.bel hb1).t.sub (hq.at hb1).toks hf2)).mono ?_;rintro e w' ⟨rfl,hb⟩;exact h.err hb
 | ok ev=>
  have hf2:=hf;rw[<- q5] at hf2;obtain⟨f,q',m,u,e1,e2,e3,e4,e5⟩:=CG h.t.sub hf2;obtain⟨ub,rfl,_⟩:=e3.ptr;have q0:Rep top (fun _=>True) w (.pointer (some ⟨ub,0,none⟩)) ev:=by
   rw[<- e4,<- (e3.up (g:=top) (by omega)).2.2];exact (e3.up (g:=top) (by omega)).1.rep fun _ _=>trivial
  have q6:=OV hv h hf;simp only;refine (UR (wp:=wp) (Q:=fun c w'=>AO D R iv ch Tb Mb wb M js w (Cq v p ev) (.returned (.int .i64 c)) w') (fun w1 hb1=>Dw (h.bel hb1).t) (fun w1 hb1=>LV (fun t ht=>by have:=p2 t ht;omega) (by omega) (hT.bel hb1).rng (h.bel hb1).t.sub (hq.at hb1).toks hf2 e2 (e3.bel hb1) e5) (fun w1 hb1=>(LO (h.bel hb1) (hT.bel hb1) hv q6 hB hl (q0.bel hb1) (hp.at hb1) q7).mono ?_)).mono ?_
  ·rintro e w' he;obtain⟨c,rfl,h2⟩:=he.form;exact⟨c,rfl,AO.below hb1 hM (Aa h2)⟩
  ·rintro e w' ⟨c,rfl,h2⟩;exact h2
theorem Ai.jex{M':Nat->Prop}(h:Ai w)(hM:∀k,k<NG->M k)(hX:JEx M M' w w'):Ai w':=
 h.below ⟨hX.os,hX.tape,hX.output,hX.size,fun k hk=>(hX.kept k (hM k hk)).2⟩
theorem Xb{j:List dX}{v1:To}(hv:eG d x B v)(h:JS w D R wp jn iv ch Tb Mb wb T a v M js)(hr:CU v q=.ok (v1,j)):eG d x B v1:=by
 unfold CU at hr;split at hr
 ·cases hr
 ·rename_i s t hs;split at hr
  ·cases hr
  ·rename_i n hn;split at hr
   ·cases hr
   ·rename_i e he;injection hr with hr;injection hr with hr _;subst hr;have q0:=h.t.str;have hf2:=hn;rw[<- q0] at hf2;obtain⟨f,q',m,u,e1,e2,e3,e4,e5⟩:=CG h.t.sub hf2;obtain⟨n1,n2,n3,n4,n5,n6,n7⟩:=h.node hv e1 e2 e3;rw[q0] at e5;rw[Dh e5];rw[e4] at n5 n6 n7;have hg:dY d x (f+1+q'.length) 1 v:=by rw[e1];exact hv.gd
    have g1:=KW hg n7 (Ur (i:=(eZ t).getD 0) (k:=t) n5);have g2:=Kn (n':=Lr ((eZ t).getD 0) t n) hg n7;rw[e1] at g1 g2;have g3:=S9 (f:=f) (i:=(eZ t).getD 0) (k:=t) (v:=n);have:=hv.sz;exact⟨g1,hv.dd,by omega⟩
theorem Si(h:JS w D R wp jn iv ch Tb Mb wb T a v M js)(hT:Ai w)(qn:∀k,k<NG->M k)(hv:eG d x B v)(hB:B<=900000000)(hl:js.length<=900000000)(hp:Aw w (GA (top+1) Tb wb M) (.slice pa pl pc) p)(qp:fZ p)(hq:Aw w (GA (top+1) Tb wb M) (.slice fa fl fc) q)(qj:fZ q):
  A3 AI 154 #[.pointer (some ⟨D,0,none⟩),opV k pa pl pc fa fl fc y] w fun e w'=>AO D R iv ch Tb Mb wb M js w (K6 v q p) e w':=by
 have hM:∀k,M k->k<w.heap.size:=fun k hk=>(h.j.low k hk).1;unfold K6;cases hf:Ah v q with
 | error c=>
  refine (Sh (Cj hf) (Iq h hT hq qj hf)).mono ?_;rintro e w' ⟨rfl,hb⟩;exact h.err hb
 | ok ev=>
  obtain⟨f,qq,m,c,i,key,qa,ql,qc,t1,t2,t3,t4,t5,t6,t7,t8,t9,qw,qg⟩:=JL h hT hv hB hq qj hf;have q0:∀w1,AT w.heap.size w w1->A3 AI 202 #[.slice fa fl fc,.slice pa pl pc] w1 fun e w'=>e=.returned (.bool (q==p))/\AT w1.heap.size w1 w':=fun w1 hb1=>Jv (hq.at hb1).toks (hp.at hb1).toks;have q9:∀w1,AT w.heap.size w w1->A3 AI 203 #[.slice pa pl pc,.slice fa fl fc] w1 fun e w'=>e=.returned (.bool (EX p q))/\AT w1.heap.size w1 w':=fun w1 hb1=>Sz (hp.at hb1).toks (hq.at hb1).toks;simp only;by_cases q7:q=p
  ·rw[if_pos q7];have e0:(q==p)=true:=by rw[q7];simp
   rw[e0] at q0;refine (PW qg q0).mono ?_;rintro e w' ⟨rfl,hb⟩;exact⟨rfl,wp,jn,T,a,M,by simpa using h.bel hb,(h.j.bel hb).2⟩
  ·rw[if_neg q7];have e0:(q==p)=false:=by rw[beq_eq_false_iff_ne];exact q7
   rw[e0] at q0;by_cases q6:EX p q=true
   ·rw[if_pos q6];rw[q6] at q9;refine (O7 qg q0 q9).mono ?_;rintro e w' ⟨rfl,hb⟩;exact h.err hb
   ·rw[if_neg q6];rw[Bool.eq_false_iff.2 q6] at q9;have hne:q≠[]:=by
     rintro rfl;refine q6 ?_;unfold EX;have:0<p.length:=by
      rcases Nat.eq_zero_or_pos p.length with h0|h0
      ·exact absurd (C1.1 h0).symm q7
      ·exact h0
     simp[this]
    obtain⟨g,a1,r1,r2⟩:=t9 hne;rw[r2];simp only;have q4:=Xb hv h r2;have q5:=OV hv h hf;obtain⟨um,qk⟩:=Ad.at (f:=f+1) (p:=qq) (by rw[t1];exact h.j.tr) t2;obtain⟨a1',a2',qv,qm⟩:=t3.apart (BI (f:=f+1) t2 (by rw[t1];exact h.j.nd));obtain⟨yv,hc⟩:=qk.kidAt qm;obtain⟨yb,rfl,_⟩:=hc.ptr;refine (Sj (x:=some ⟨yb,0,none⟩) (Q1:=fun w1=>∃qd qb T' a' M',JS w1 D R qd qb iv ch Tb Mb wb T' a' (dV top a1) M' (js++[(0,q,ev)])/\JEx M M' w w1/\Ad f w1 (.pointer (some ⟨yb,0,none⟩)) c)
     (Q:=fun cc w'=>AO D R iv ch Tb Mb wb M js w (match Cq (dV top a1) p ev with | .error c=>.error c | .ok (d2,j2)=>.ok (d2,[(0,q,ev)]++j2)) (.returned (.int .i64 cc)) w')
     qg q0 q9 (fun w1 hb1=>(Ea (qk.bel hb1) t3 t7.2).mono ?_) (fun w1 hb1 qi=>?_) (fun w1 qr=>?_)).mono ?_
    ·rintro e w' ⟨⟨y',rfl,qt⟩,hb⟩;obtain rfl:=qt.uniq hc;exact⟨rfl,hb⟩
    ·obtain⟨hG,hE⟩:=h.grow hb1 (fun k=>k=w.heap.size) (fun k hk=>by subst hk;exact⟨A5 _,qi.lt⟩);refine (Me t1 hG.j t2 t3 t7 (by omega) ((t8.at hb1).move fun k hk _=>⟨rfl,E0 hk.1,hk.2⟩) t6).mono ?_;rintro e w' ⟨rfl,he,qo⟩;rw[t4] at he;obtain⟨qd,qb,T',a',M',s1,s2⟩:=JS.done he r1 rfl;exact⟨rfl,(s2.kept _ (DD rfl)).2.trans qi,qd,qb,T',a',M',s1,hE.trans s2,qo _ (hc.bel hb1)⟩
    ·obtain⟨qd,qb,T',a',M',s1,s2,s3⟩:=qr;have qe:Rep top (fun _=>True) w1 (.pointer (some ⟨yb,0,none⟩)) ev:=by
      rw[<- t4,<- (s3.up t6).2.2];exact (s3.up t6).1.rep fun _ _=>trivial
     refine (LO s1 (hT.jex qn s2) q4 q5 hB (by simp;omega) qe (hp.move fun k hk _=>⟨(s2.kept k hk.1).2,(s2.kept k hk.1).1,hk.2⟩) qp).mono ?_;rintro e w' he;obtain⟨cc,rfl,h2⟩:=he.form;refine⟨cc,rfl,?_⟩;have q8:=Aa h2;cases hr:Cq (dV top a1) p ev with
     | error c'=>
      rw[hr] at q8;obtain⟨e9,qh,qf,T2,a2,v2,M2,qu,u1,u2⟩:=q8;exact⟨e9,qh,qf,T2,a2,v2,M2,qu,u1,s2.trans u2⟩
     | ok vj=>
      rw[hr] at q8;obtain⟨v2,j2⟩:=vj;obtain⟨e9,qh,qf,T2,a2,M2,u1,u2⟩:=q8;rw[List.append_assoc] at u1;exact⟨e9,qh,qf,T2,a2,M2,u1,s2.trans u2⟩
    ·rintro e w' ⟨cc,rfl,h2⟩;exact h2
end
structure AR(r:Nat)(w w':AS):Prop where
 os:w'.os=w.os
 tape:w'.tape=w.tape
 output:w'.output=w.output
 size:w'.heap.size=w.heap.size
 block:∀k,k≠r->w'.heap[k]? = w.heap[k]?
theorem AR.of3(r:Nat)(w:AS)(a b c:A6):AR r w (((w.setCell ⟨r,0,none⟩ a).setCell ⟨r,1,none⟩ b).setCell ⟨r,2,none⟩ c):=
 ⟨rfl,rfl,rfl,by simp_all,fun k hk=>(CL _ _ _ _ hk).trans ((CL _ _ _ _ hk).trans (CL _ _ _ _ hk))⟩
theorem AR.below{B:Nat}{a w:AS}(h:AR r w w')(hb:AT B a w)(hr:B<=r):AT B a w':=
 ⟨h.os.trans hb.os,h.tape.trans hb.tape,h.output.trans hb.output,by rw[h.size];exact hb.size,fun k hk=>(h.block k (by omega)).trans (hb.block k hk)⟩
theorem AR.kept{F:Nat->Prop}{a w:AS}(h:AR r w w')(hb:Av F a w)(hr:a.heap.size<=r):Av F a w':=
 ⟨h.os.trans hb.os,h.tape.trans hb.tape,h.output.trans hb.output,by rw[h.size];exact hb.size,fun k hk hx=>(h.block k (by omega)).trans (hb.block k hk hx)⟩
theorem Cf{f:FuncId}{fn:Func}{c:Code}(hf:Tryz.prog.funcs[f]? = some fn)(q0:(fn.name == "runtime.NumGoroutine")=false)(hb:fn.body=some c)(args:Array A6)(w:AS):
  (D2 f args).run AI w=.ok (.enter f args) w:=by
 have h1:¬ fn.name = "runtime.NumGoroutine" := by grind
 simp[D2,hf,h1,hb]
theorem Gw{f:Nat}{d:Int}{w:AS}{Q:To->Option Addr->AS->fE->AS->Prop}(hin:∀args w,(D2 f args).run AI w=.ok (.enter f args) w)(h:SB w S d e n p)(hT:Ai w)(q0:∀v p2 w1,AT w.heap.size w w1->AB w1 w.heap.size->eH s d e=(0,some v)->Tr top (w.heap.size+1) w1 (.pointer p2) v ->
   A3 AI f #[.pointer (some ⟨S,0,none⟩),.pointer p2] w1 fun x w2=>∃A:fE,x=.returned (Ax A)/\AB w2 w.heap.size/\Q v p2 w1 A w2):
  A3 AI 42 #[.pointer (some ⟨S,0,none⟩),.string ⟨s.toArray⟩,.func (.func f) #[.pointer (some ⟨S,0,none⟩)] #[]] w fun x w'=>
   (∃c,0<c/\eH s d e=(c,none)/\x=.returned (Ax (c,0,[]))/\AT w.heap.size w w') \/
   (∃v p2 w1 A w2,eH s d e=(0,some v)/\AT w.heap.size w w1/\w.heap.size<w1.heap.size/\Q v p2 w1 A w2/\x=.returned (Ax A)/\AR w.heap.size w2 w'):=by
 have q5:AT w.heap.size w (w.alloc (.cells #[.int .i64 0,.int .i64 0,.string ⟨#[]⟩] 46)):=(Dp _ _).alloc (A5 _) _;have qb:=hT.below (q5.mono hT.ng);have HS:=Ab (h.low q5);have HT:=Ab qb;have qd:=Ab (AB.new w);have qf:=Ab q5;have hsz:(w.alloc (.cells #[.int .i64 0,.int .i64 0,.string ⟨#[]⟩] 46)).heap.size=w.heap.size+1:=by simp
 have HC:=Ab q0;have qg:=Ab hin;clear hT h qb q5 q0 hin
 go_enter func42,ntmps42
 go_wp2_with (fail);generalize w.alloc (.cells #[.int .i64 0,.int .i64 0,.string ⟨#[]⟩] 46)=wa at *
 refine (NV s (Aa HS) (Aa HT)).mono ?_;rintro x w1 ⟨p2,c,rfl,hb1,hc⟩;have a1:=(Aa qd).low hb1;have q6:=Ab ((Aa qf).trans (hb1.mono (by omega)));have qh:=hb1.size;rcases hc with⟨hpos,q4⟩|⟨rfl,v,q4,q8⟩
 ·have q7:=Ab q4;have e0:((c:Int) != 0)=true:=by simp;omega
  have A1:=Ab a1;clear q4 a1 hb1
  go_wp2_with (fail);refine (Bp c w1).mono ?_
  rintro x w3 ⟨rfl,hb3⟩;have a3:=(Aa A1).low hb3;have g0:=a3.c0;have g1:=a3.c1;have g2:=a3.c2;have z:=a3.fz;have qe:=Ab ((Aa q6).trans (hb3.mono (by omega)));clear a3 hb3;unfold Ba
  go_wp2_with (fail);refine A2 (v:=Ax (c,0,[])) (by simp[BY,results42,go_sem,Ax,g0,g1,g2]) rfl ?_
  exact E0 ⟨c,hpos,Aa q7,rfl,(AR.of3 w.heap.size w3 _ _ _).below (Aa qe) (A5 _)⟩
 ·have q9:=Ab (Aa HC v p2 w1 (Aa q6) a1 q4 (by grind));have q7:=Ab q4;clear q4 a1 hb1 q8 HC
  go_wp2_with (fail);rw[Aa qg,Oper.upon_enter]
  refine (Aa q9).mono ?_;rintro x w2 ⟨A,rfl,a2,hq⟩;have g0:=a2.c0;have g1:=a2.c1;have g2:=a2.c2;have z:=a2.fz;have HQ:=Ab hq;clear a2 hq q9;unfold Ax
  go_wp2_with (fail);refine A2 (v:=Ax A) (by simp[BY,results42,go_sem,Ax,g0,g1,g2]) rfl ?_
  exact DD ⟨v,p2,w1,A,w2,Aa q7,Aa q6,by omega,Aa HQ,rfl,AR.of3 _ _ _ _ _⟩
def SM:Prop:=∀ (S:Nat) (d e n:Int) (p:A6) (v:To×eL) (F:Nat->Prop) (s:By) (w:AS),s.length<=1048576->SB w S d e n p->Bl w F p d e (some v)->Ai w ->
 A3 AI 57 #[.pointer (some ⟨S,0,none⟩),.string ⟨s.toArray⟩] w fun x w'=>x=.returned (Ax (iS v.1 s))/\AT w.heap.size w w'
def Pr:Prop:=∀ (S:Nat) (d e n:Int) (p:A6) (v:To×eL) (F:Nat->Prop) (s t:By) (w:AS),s.length<=1048576->SB w S d e n p->Bl w F p d e (some v)->Ai w ->
 A3 AI 58 #[.pointer (some ⟨S,0,none⟩),.string ⟨s.toArray⟩,.string ⟨t.toArray⟩] w fun x w'=>x=.returned (Ax (iH d e v.1 s t,0,[]))/\AT w.heap.size w w'
def Dg(F:Nat->Prop)(p:A6)(d e:Int)(r:fE×(To×eL))(w:AS)(x:Ending)(w':AS):Prop:=
 x=.returned (Ax r.1)/\Av F w w'/\Bl w' (fun k=>(F k/\k<w.heap.size)\/w.heap.size<=k) p d e (some r.2)
theorem Dg.low{F:Nat->Prop}{d:Int}{A:fE}{v:To×eL}{w:AS}(hd:Bl w F p d e (some v))(hb:AT w.heap.size w w'):Dg F p d e (A,v) w (.returned (Ax A)) w':=
 ⟨rfl,Av.of_below hb,hd.move fun k h1 h2=>⟨hb.block k h2,E0 ⟨h1,h2⟩⟩⟩
def LQ:Prop:=∀ (S:Nat) (d e n:Int) (p:A6) (v:To×eL) (F:Nat->Prop) (s:By) (w:AS),fH d e n=true->(∀k,F k->NG<=k/\k≠S)->SB w S d e n p->Bl w F p d e (some v)->Ai w ->
 A3 AI 59 #[.pointer (some ⟨S,0,none⟩),.string ⟨s.toArray⟩] w (Dg F p d e (iB d e v s) w)
def Ke:Prop:=∀ (S:Nat) (d e n:Int) (p:A6) (v:To×eL) (F:Nat->Prop) (w:AS),SB w S d e n p->Bl w F p d e (some v)->Ai w ->
 A3 AI 61 #[.pointer (some ⟨S,0,none⟩)] w fun x w'=>x=.returned (Ax (iR v))/\AT w.heap.size w w'
def LT:Prop:=∀ (S lo:Nat) (d e n:Int) (p:A6) (v:To×eL) (F:Nat->Prop) (s:By) (q:To) (p2:Option Addr) (w:AS),fH d e n=true->(∀k,F k->NG<=k/\k≠S/\k<lo)->SB w S d e n p->Bl w F p d e (some v)->Ai w ->
 eH s d e=(0,some q)->Tr top lo w (.pointer p2) q->A3 AI 60 #[.pointer (some ⟨S,0,none⟩),.pointer p2] w (Dg F p d e (iK v q) w)
def Lj:Prop:=∀ (S lo:Nat) (d e n:Int) (p:A6) (v:To×eL) (F:Nat->Prop) (s:By) (q:To) (p2:Option Addr) (w:AS),fH d e n=true->SB w S d e n p->Bl w F p d e (some v)->Ai w ->
 eH s d e=(0,some q)->Tr top lo w (.pointer p2) q->A3 AI 62 #[.pointer (some ⟨S,0,none⟩),.pointer p2] w fun x w'=>x=.returned (Ax (jY n v.1 q))/\AT w.heap.size w w'
def GE:Prop:=∀ (S lo:Nat) (d e n:Int) (p:A6) (v:To×eL) (F:Nat->Prop) (s:By) (q:To) (p2:Option Addr) (w:AS),fH d e n=true->SB w S d e n p->Bl w F p d e (some v)->Ai w ->
 eH s d e=(0,some q)->Tr top lo w (.pointer p2) q->A3 AI 63 #[.pointer (some ⟨S,0,none⟩),.pointer p2] w fun x w'=>x=.returned (Ax (iZ v.1 q))/\AT w.heap.size w w'
def SN(o:St):Prop:=(o.1<3\/9<o.1)\/((o.1=3\/o.1=4)/\SM/\Pr/\o.2.1.length<=1048576)\/(o.1=5/\LQ)\/(o.1=6/\LT)\/(o.1=7/\Ke)\/(o.1=8/\Lj)\/(o.1=9/\GE)
noncomputable def iC(d e n:Int)(v:To×eL)(o:St):fE×(To×eL):=if o.1<5 then (jJ d e v.1 o,v) else iV d e n v o
theorem Bl.bel{w:AS}{F:Nat->Prop}{d:Int}(h:Bl w F p d e doc)(hb:AT w.heap.size w w'):Bl w' F p d e doc:=h.move fun k h1 h2=>⟨hb.block k h2,h1⟩
theorem Eg.bel{w:AS}{F:Nat->Prop}{D R:Nat}{wp:A6}{d:Int}{v:To×eL}(h:Eg w F D R wp d e v)(hb:AT w.heap.size w w'):Eg w' F D R wp d e v:=h.move fun k h1 h2=>⟨hb.block k h2,h1⟩
def Ex(w:AS)(k:Int)(s t:By):AS:=(w.alloc (.cells #[.int .i64 k,.string ⟨s.toArray⟩,.string ⟨t.toArray⟩] 49)).alloc (.cells #[.int .i64 0,.int .i64 0,.string ⟨#[]⟩] 46)
theorem Ld(w:AS)(k:Int)(s t:By):AT w.heap.size w (Ex w k s t):=((Dp _ _).alloc (A5 _) _).alloc (by simp) _
theorem Ne(w:AS)(k:Int)(s t:By):(Ex w k s t).heap.size=w.heap.size+2:=by simp[Ex]
theorem Rb(w:AS)(k:Int)(s t:By):AB (Ex w k s t) (w.heap.size+1):=by
 have:=AB.new (w.alloc (.cells #[.int .i64 k,.string ⟨s.toArray⟩,.string ⟨t.toArray⟩] 49));rw[show (w.alloc (.cells #[.int .i64 k,.string ⟨s.toArray⟩,.string ⟨t.toArray⟩] 49)).heap.size=w.heap.size+1 by simp] at this;exact this
theorem Ra(w:AS)(k:Int)(s t:By):(Ex w k s t).heap[w.heap.size]? = some (.cells #[.int .i64 k,.string ⟨s.toArray⟩,.string ⟨t.toArray⟩] 49 (0,0)):=by
 show ((w.heap.push _).push _)[w.heap.size]? = _
 grind
structure Ey(a b:Nat)(w w':AS):Prop where
 os:w'.os=w.os
 tape:w'.tape=w.tape
 output:w'.output=w.output
 size:w'.heap.size=w.heap.size
 block:∀k,(k<a\/b<=k)->w'.heap[k]? = w.heap[k]?
theorem AR.isIn{a:Nat}{w:AS}(h:AR r w w')(h1:a<=r)(h2:r<b):Ey a b w w':=⟨h.os,h.tape,h.output,h.size,fun k hk=>h.block k (by omega)⟩
theorem Ey.trans{a:Nat}{w q0:AS}(h:Ey a b w w')(h':Ey a b w' q0):Ey a b w q0:=
 ⟨h'.os.trans h.os,h'.tape.trans h.tape,h'.output.trans h.output,h'.size.trans h.size,fun k hk=>(h'.block k hk).trans (h.block k hk)⟩
theorem Ey.kept{a:Nat}{F:Nat->Prop}{w0 w:AS}(h:Ey a b w w')(hb:Av F w0 w)(hr:w0.heap.size<=a):Av F w0 w':=
 ⟨h.os.trans hb.os,h.tape.trans hb.tape,h.output.trans hb.output,by rw[h.size];exact hb.size,fun k hk hx=>(h.block k (by omega)).trans (hb.block k hk hx)⟩
theorem Rd{F:Nat->Prop}{d:Int}{r:fE×(To×eL)}{w w1 w2 w3:AS}(hb:AT w.heap.size w w1)(h:Dg (fun k=>F k/\k<w.heap.size) p d e r w1 (.returned (Ax r.1)) w2)(hs:Ey w.heap.size w1.heap.size w2 w3):Dg F p d e r w (.returned (Ax r.1)) w3:=by
 obtain⟨_,h1,h2⟩:=h;refine⟨rfl,?_,h2.move fun k hk _=>⟨hs.block k ?_,?_⟩⟩
 ·exact hs.kept ((Av.of_below (F:=F) hb).trans h1 fun k _ h=>h.1) (A5 _)
 ·omega
 ·rcases hk with⟨hk,_⟩|hk
  ·grind
  ·exact DD (by have:=hb.size;omega)
def EA(F:Nat->Prop)(p:A6)(d e:Int)(M:fE×(To×eL))(w:AS)(x:Ending)(w':AS):Prop:=
 ∃wm w2,AT w.heap.size w wm/\w.heap.size+2<=wm.heap.size/\Dg (fun k=>F k/\k<w.heap.size) p d e M wm (.returned (Ax M.1)) w2/\Ey w.heap.size wm.heap.size w2 w'/\AB w' (w.heap.size+1)/\x=.returned (Ax M.1)
theorem EA.low{F:Nat->Prop}{d:Int}{A:fE}{v:To×eL}{w wa:AS}(hd:Bl wa (fun k=>F k/\k<w.heap.size) p d e (some v))(ha:AB wa (w.heap.size+1))(q0:AT w.heap.size w wa)(hs:wa.heap.size=w.heap.size+2)(hb:AT wa.heap.size wa w'):EA F p d e (A,v) w (.returned (Ax A)) w':=
 ⟨wa,w',q0,by omega,Dg.low hd hb,⟨rfl,rfl,rfl,rfl,fun _ _=>rfl⟩,ha.low hb,rfl⟩
theorem Pn{f:Nat}{d:Int}{F:Nat->Prop}{v:To×eL}{w wa:AS}{g:To->fE}{M:fE×(To×eL)}(hin:∀args w,(D2 f args).run AI w=.ok (.enter f args) w)(h:SB wa S d e n p)(hT:Ai wa)(hd:Bl wa (fun k=>F k/\k<w.heap.size) p d e (some v))(ha:AB wa (w.heap.size+1))(q5:AT w.heap.size w wa)(hs:wa.heap.size=w.heap.size+2)(hM:M=match eH s d e with
   | (c,none)=>((c,0,[]),v)
   | (_,some q)=>(g q,v))(q0:∀q p2 w1,AT wa.heap.size wa w1->eH s d e=(0,some q)->Tr top (wa.heap.size+1) w1 (.pointer p2) q->A3 AI f #[.pointer (some ⟨S,0,none⟩),.pointer p2] w1 fun x w2=>x=.returned (Ax (g q))/\AT w1.heap.size w1 w2):
  A3 AI 42 #[.pointer (some ⟨S,0,none⟩),.string ⟨s.toArray⟩,.func (.func f) #[.pointer (some ⟨S,0,none⟩)] #[]] wa (EA F p d e M w):=by
 refine (Gw (Q:=fun q _ w1 A w2=>A=g q/\AT w1.heap.size w1 w2) hin h hT fun q p2 w1 hb1 hab q4 q6=>?_).mono ?_
 ·refine (q0 q p2 w1 hb1 q4 q6).mono ?_;rintro x w2 ⟨rfl,hb2⟩;exact⟨_,rfl,hab.low hb2,rfl,hb2⟩
 ·rintro x w1 (⟨c,_,q4,rfl,hb1⟩|⟨q,p2,w2,A,w3,q4,hb2,hs2,⟨rfl,hx⟩,rfl,hsb⟩)
  ·rw[hM,q4];exact EA.low hd ha q5 hs hb1
  ·rw[hM,q4];exact EA.low hd ha q5 hs (hsb.below (hb2.trans (hx.mono (by omega))) (A5 _))
theorem Zp{d k:Int}{v:To×eL}{w:AS}{F:Nat->Prop}(s t:By)(hcfg:fH d e n=true)(qr:¬ k<1)(qu:¬ 9<k)(qt:k≠1)(hF:∀k,F k->NG<=k/\k≠S)(hf:SN (k,s,t))(h:SB w S d e n p)(hd:Bl w F p d e (some v))(hT:Ai w):
  A3 AI 44 #[.pointer (some ⟨S,0,none⟩),.agg #[.int .i64 k,.string ⟨s.toArray⟩,.string ⟨t.toArray⟩]] w (Dg F p d e (iC d e n v (k,s,t)) w):=by
 obtain⟨M,hM⟩:∃M,M=iC d e n v (k,s,t):=⟨_,rfl⟩
 rw[<- hM];have hlt:=h.lt;have q8:=Ld w k s t;have qm:=hT.below (q8.mono hT.ng);have h0:=h.low q8;have qq:Bl (Ex w k s t) (fun k=>F k/\k<w.heap.size) p d e (some v):=hd.move fun k h1 h2=>⟨q8.block k h2,h1,h2⟩
 have a0:=Rb w k s t;have o0:=Ra w k s t;have hsz:=Ne w k s t;have qk:∀j,(F j/\j<w.heap.size)->NG<=j/\j≠S:=fun j hj=>hF j hj.1;have c3:=h0.c3;have q0:(Ex w k s t).cell? ⟨w.heap.size,0,none⟩=some (.int .i64 k):=by simp[CH,o0]
 have q1:(Ex w k s t).cell? ⟨w.heap.size,1,none⟩=some (.string ⟨s.toArray⟩):=by simp[CH,o0]
 have q2:(Ex w k s t).cell? ⟨w.heap.size,2,none⟩=some (.string ⟨t.toArray⟩):=by simp[CH,o0]
 have eW:(w.alloc (.cells #[.int .i64 k,.string ⟨s.toArray⟩,.string ⟨t.toArray⟩] 49)).alloc (.cells #[.int .i64 0,.int .i64 0,.string ⟨#[]⟩] 46)=Ex w k s t:=rfl;have HA:=Ab a0;have HT:=Ab qm;have H0:=Ab h0;have HD:=Ab qq;have qp:=Ab hd;have HF:=Ab hf;have qh:=Ab qk;have q6:=Ab q8;have qb:=Ab hcfg;have HM:=Ab hM;clear h hd hT h0 qm a0 hf o0 hF qk q8 hcfg hM;by_cases hk:k=2
 ·have HE:=Ab (show M=((0,0,dZ top v.1),v) by rw[Aa HM];unfold iC;rw[if_pos (show k<5 by omega)];unfold jJ;grind);have qd:=HD;obtain⟨D,R,wp,rfl,qn⟩:=Aa HD;have qd:=Ab qn;obtain⟨A,hA⟩:∃A:fE,A=(0,0,dZ top v.1):=⟨_,rfl⟩
  clear qn;subst hk
  go_enter func44,ntmps44
  go_wp2_with (fail);refine (I1 (Aa qd)).mono ?_
  rintro x w0 ⟨rfl,qe⟩;have qo:=((Aa qd).bel qe).rep;have qg:=Ab (C9 qo ((Aa HT).below (qe.mono (Aa HT).ng)) (Nat.le_trans (Aa qd).len (by omega)));have qj:=Ab qe;clear qe qo
  go_wp2_with (fail);refine (Aa qg).mono ?_
  rintro x w1 ⟨rfl,hb1⟩;replace hb1:=(Aa qj).trans (hb1.mono (Aa qj).size);have a1:=(Aa HA).low hb1;have g0:=a1.c0;have g1:=a1.c1;have g2:=a1.c2;have z:=a1.fz;have HB:=Ab (show AT w.heap.size w w1 from (Aa q6).trans (hb1.mono (by omega)));clear a1 hb1
  go_wp2_with (fail);refine A2 (v:=Ax (0,0,dZ top v.1)) (by simp[BY,results44,go_sem,Ax,g0,g1,g2]) rfl ?_
  rw[Aa HE];exact Dg.low (Aa qp) ((AR.of3 (w.heap.size+1) w1 _ _ _).below (Aa HB) (by omega))
 have q9:(k=3/\SM/\s.length<=1048576)\/(k=4/\Pr/\s.length<=1048576)\/(k=5/\LQ)\/(k=7/\Ke)\/(k=6/\LT)\/(k=8/\Lj)\/(k=9/\GE):=by
  rcases Aa HF with h|⟨h,hh⟩|⟨h,hh⟩|⟨h,hh⟩|⟨h,hh⟩|⟨h,hh⟩|⟨h,hh⟩
  all_goals grind
 rcases q9 with⟨hk,q4,hs⟩|⟨hk,q4,hs⟩|⟨hk,q4⟩|⟨hk,q4⟩|⟨hk,q4⟩|⟨hk,q4⟩|⟨hk,q4⟩
 have q5:=Ab (((q4 S d e n _ v _ s _ hs (Aa H0) (Aa HD) (Aa HT))).mono (R':=EA F p d e M w) (by
   rintro x w1 ⟨rfl,hb⟩;rw[show M=(iS v.1 s,v) by rw[Aa HM];unfold iC;rw[if_pos (show k<5 by omega)];unfold jJ;grind];exact EA.low (Aa HD) (Aa HA) (Aa q6) hsz hb))
 rotate_left
 have q5:=Ab (((q4 S d e n _ v _ s t _ hs (Aa H0) (Aa HD) (Aa HT))).mono (R':=EA F p d e M w) (by
   rintro x w1 ⟨rfl,hb⟩;rw[show M=((iH d e v.1 s t,0,[]),v) by rw[Aa HM];unfold iC;rw[if_pos (show k<5 by omega)];unfold jJ;grind];exact EA.low (Aa HD) (Aa HA) (Aa q6) hsz hb))
 rotate_left
 have q5:=Ab ((q4 S d e n _ v _ s _ (Aa qb) (Aa qh) (Aa H0) (Aa HD) (Aa HT)).mono (R':=EA F p d e M w) (by
   rintro x w1 hx;rw[show iB d e v s=M by rw[Aa HM];grind [iC,iV]] at hx;have qi:=hx.1;subst qi;exact⟨_,w1,Aa q6,by omega,hx,⟨rfl,rfl,rfl,rfl,fun _ _=>rfl⟩,(hx.2.1.block _ (by omega) (fun h=>by omega)).trans (Aa HA),rfl⟩))
 rotate_left
 have q5:=Ab ((q4 S d e n _ v _ _ (Aa H0) (Aa HD) (Aa HT)).mono (R':=EA F p d e M w) (by
   rintro x w1 ⟨rfl,hb⟩;rw[show M=(iR v,v) by rw[Aa HM];grind [iC,iV]];exact EA.low (Aa HD) (Aa HA) (Aa q6) hsz hb))
 rotate_left
 have q5:=Ab ((Gw (f:=60) (s:=s) (hin:=Cf func60 (by kernel_rfl) rfl) (Q:=fun q p2 w1 A w2=>A=(iK v q).1/\Dg (fun k=>F k/\k<w.heap.size) p d e (iK v q) w1 (.returned (Ax A)) w2) (Aa H0) (Aa HT) (fun q p2 w1 hb1 hab q7 qf=>by
   refine (q4 S (w.heap.size+3) d e n p v _ s q p2 w1 (Aa qb) (fun j hj=>⟨(Aa qh j hj).1,(Aa qh j hj).2,by omega⟩) ((Aa H0).low hb1) ((Aa HD).bel hb1) ((Aa HT).below (hb1.mono (Aa HT).ng)) q7 (by grind)).mono ?_;rintro x w2 hx;have qi:=hx.1;subst qi;exact⟨_,rfl,(hx.2.1.block _ hab.lt (by omega)).trans hab,rfl,hx⟩)).mono (R':=EA F p d e M w) (by
   have hE:M=iM d e v s:=by rw[Aa HM];grind [iC,iV]
   rintro x w1 (⟨c,_,q7,rfl,hb1⟩|⟨q,p2,w2,A,w3,q7,hb2,hs2,⟨rfl,hx⟩,rfl,hsb⟩)
   ·rw[hE,show iM d e v s=((c,0,[]),v) by unfold iM;rw[q7]];exact EA.low (Aa HD) (Aa HA) (Aa q6) hsz hb1
   ·rw[hE,show iM d e v s=iK v q by unfold iM;rw[q7]];exact⟨w2,w3,(Aa q6).trans (hb2.mono (by omega)),by omega,hx,hsb.isIn (by omega) (by omega),(hsb.block _ (by omega)).trans ((hx.2.1.block _ (by omega) (fun h=>by omega)).trans ((hb2.block _ (by omega)).trans (Aa HA))),rfl⟩))
 rotate_left
 have q5:=Ab (Pn (f:=62) (s:=s) (M:=M) (g:=fun q=>jY n v.1 q) (Cf func62 (by kernel_rfl) rfl) (Aa H0) (Aa HT) (Aa HD) (Aa HA) (Aa q6) hsz (by rw[Aa HM];unfold iC;rw[if_neg (by omega)];unfold iV;simp only[hk];unfold iU;grind) (fun q p2 w1 hb1 q7 qf=>q4 S _ d e n p v _ s q p2 w1 (Aa qb) ((Aa H0).low hb1) ((Aa HD).bel hb1) ((Aa HT).below (hb1.mono (Aa HT).ng)) q7 qf))
 rotate_left
 have q5:=Ab (Pn (f:=63) (s:=s) (M:=M) (g:=fun q=>iZ v.1 q) (Cf func63 (by kernel_rfl) rfl) (Aa H0) (Aa HT) (Aa HD) (Aa HA) (Aa q6) hsz (by rw[Aa HM];unfold iC;rw[if_neg (by omega)];unfold iV;simp only[hk];unfold jI;grind) (fun q p2 w1 hb1 q7 qf=>q4 S _ d e n p v _ s q p2 w1 (Aa qb) ((Aa H0).low hb1) ((Aa HD).bel hb1) ((Aa HT).below (hb1.mono (Aa HT).ng)) q7 qf))
 rotate_left
 all_goals (
  clear q4;subst hk
  go_enter func44,ntmps44
  go_wp2_with (fail);refine (Aa q5).mono ?_
  rintro x w1 ⟨wm,w2,hb,hm,hx,hs,a1,rfl⟩;have g0:=a1.c0;have g1:=a1.c1;have g2:=a1.c2;have z:=a1.fz;have HX:=Ab hx;have HS:=Ab hs;have HB:=Ab hb;clear a1 hx hs hb q5;unfold Ax
  go_wp2_with (fail);refine A2 (v:=Ax M.1) (by simp[BY,results44,go_sem,Ax,g0,g1,g2]) rfl ?_
  exact Rd (Aa HB) (Aa HX) ((Aa HS).trans ((AR.of3 (w.heap.size+1) w1 _ _ _).isIn (by omega) (by omega))))
def stV(o:St):A6:=.agg #[.int .i64 o.1,.string ⟨o.2.1.toArray⟩,.string ⟨o.2.2.toArray⟩]
def Ct(S:Nat)(d e n:Int)(doc:gP)(o:St)(F:Nat->Prop)(w:AS)(x:Ending)(w':AS):Prop:=
 x=.returned (Ax (eM d e n doc o).1)/\Av (fun k=>F k\/k=S) w w' /\ ∃p',SB w' S d e n p'/\Bl w' (fun k=>(F k/\k<w.heap.size)\/w.heap.size<=k) p' d e (eM d e n doc o).2
theorem Ct.low{d:Int}{o:St}{F:Nat->Prop}{w:AS}{a:fE}(he:eM d e n doc o=(a,doc))(h:SB w S d e n p)(hd:Bl w F p d e doc)(hb:AT w.heap.size w w'):
  Ct S d e n doc o F w (.returned (Ax a)) w':=by
 unfold Ct;rw[he];exact⟨rfl,Av.of_below hb,p,h.low hb,hd.move fun k h1 h2=>⟨hb.block k h2,E0 ⟨h1,h2⟩⟩⟩
theorem VL{d:Int}{w:AS}{F:Nat->Prop}(k:Int)(s t:By)(hF:∀k,F k->NG<=k/\k≠S)(hf:SN (k,s,t))(h:SB w S d e n p)(hd:Bl w F p d e doc)(hT:Ai w):
  A3 AI 36 #[.pointer (some ⟨S,0,none⟩),.agg #[.int .i64 k,.string ⟨s.toArray⟩,.string ⟨t.toArray⟩]] w fun x w'=>Ct S d e n doc (k,s,t) F w x w':=by
 have qn:=Ab hf;have qg:=Ab hF;have hlt:=h.lt;have qb:=Ld w k s t;have qi:=hT.below (qb.mono hT.ng);have h0:=h.low qb;have qj:Bl (Ex w k s t) (fun k=>F k/\k<w.heap.size) p d e doc:=hd.move fun k h1 h2=>⟨qb.block k h2,h1,h2⟩
 have a0:=Rb w k s t;have o0:=Ra w k s t;have hsz:=Ne w k s t;have eW:(w.alloc (.cells #[.int .i64 k,.string ⟨s.toArray⟩,.string ⟨t.toArray⟩] 49)).alloc (.cells #[.int .i64 0,.int .i64 0,.string ⟨#[]⟩] 46)=Ex w k s t:=rfl;have c0:=h0.c0;have c1:=h0.c1;have c2:=h0.c2;have HA:=Ab a0;have H0:=Ab h0;have HD:=Ab qj;have HT:=Ab qi;have HH:=Ab h;have q7:=Ab hd;have HO:=Ab o0;have qf:=Ab qb;clear h hd hT h0 qj qi a0 o0 hf hF qb
 go_enter func36,ntmps36
 go_wp2_with (fail);refine (OI d e n _).mono ?_
 rintro x w1 ⟨rfl,hb1⟩;replace hb1:AT (Ex w k s t).heap.size (Ex w k s t) w1:=hb1;have h1:=(Aa H0).low hb1;have d1:Bl w1 (fun k=>F k/\k<w.heap.size) p d e doc:=(Aa HD).bel hb1;have a1:=(Aa HA).low hb1;have T1:=(Aa HT).below (hb1.mono (Aa HT).ng);have o1:w1.heap[w.heap.size]? = _:=(hb1.block w.heap.size (by omega)).trans (Aa HO);have q9:AT w.heap.size w w1:=(Aa qf).trans (hb1.mono (by omega));have qt:w.heap.size+2<=w1.heap.size:=by have:=hb1.size;omega
 have q0:w1.cell? ⟨w.heap.size,0,none⟩=some (.int .i64 k):=by simp[CH,o1]
 have q1:w1.cell? ⟨w.heap.size,1,none⟩=some (.string ⟨s.toArray⟩):=by simp[CH,o1]
 have q2:w1.cell? ⟨w.heap.size,2,none⟩=some (.string ⟨t.toArray⟩):=by simp[CH,o1]
 have g0:=a1.c0;have g1:=a1.c1;have g2:=a1.c2;have z:=a1.fz;have c3:=h1.c3;have H1:=Ab h1;have D1:=Ab d1;have A1:=Ab a1;have qh:=Ab T1;have q6:=Ab q9;clear h1 d1 a1 T1 o1 hb1 q9 H0 HD HA HT HO c0 c1 c2 hsz eW qf;cases hcfg:fH d e n with
 | false=>
  have HE:=Ab (show eM d e n doc (k,s,t)=((2,0,[]),doc) by unfold eM;grind);clear hcfg;simp only
  go_wp2_with (fail);refine (Bp 2 _).mono ?_
  rintro x w2 ⟨rfl,hb2⟩;have a2:=(Aa A1).low hb2;clear g0 g1 g2 z q0 q1 q2;have g0:=a2.c0;have g1:=a2.c1;have g2:=a2.c2;have z:=a2.fz;have q5:=Ab (show AT w.heap.size w w2 from (Aa q6).trans (hb2.mono (by omega)));clear a2 hb2;unfold Ba
  go_wp2_with (fail);refine A2 (v:=Ba 2 []) (by simp[BY,results36,go_sem,Ba,g0,g1,g2]) rfl ?_
  exact Ct.low (Aa HE) (Aa HH) (Aa q7) ((AR.of3 (w.heap.size+1) w2 _ _ _).below (Aa q5) (by omega))
 | true=>
  by_cases k1:k<1
  ·have HE:=Ab (show eM d e n doc (k,s,t)=((1,0,[]),doc) by unfold eM;grind);have e1:decide (k<1)=true:=by grind
   clear hcfg k1 c3;simp only
   go_wp2_with (fail);refine (Bp 1 _).mono ?_
   rintro x w2 ⟨rfl,hb2⟩;have a2:=(Aa A1).low hb2;clear g0 g1 g2 z q0 q1 q2;have g0:=a2.c0;have g1:=a2.c1;have g2:=a2.c2;have z:=a2.fz;have q5:=Ab (show AT w.heap.size w w2 from (Aa q6).trans (hb2.mono (by omega)));clear a2 hb2;unfold Ba
   go_wp2_with (fail);refine A2 (v:=Ba 1 []) (by simp[BY,results36,go_sem,Ba,g0,g1,g2]) rfl ?_
   exact Ct.low (Aa HE) (Aa HH) (Aa q7) ((AR.of3 (w.heap.size+1) w2 _ _ _).below (Aa q5) (by omega))
  by_cases k9:9<k
  ·have HE:=Ab (show eM d e n doc (k,s,t)=((1,0,[]),doc) by unfold eM;grind);have e1:decide (k<1)=false:=by grind
   have e9:decide (9<k)=true:=by grind
   clear hcfg k1 k9 c3;simp only
   go_wp2_with (fail);refine (Bp 1 _).mono ?_
   rintro x w2 ⟨rfl,hb2⟩;have a2:=(Aa A1).low hb2;clear g0 g1 g2 z q0 q1 q2;have g0:=a2.c0;have g1:=a2.c1;have g2:=a2.c2;have z:=a2.fz;have q5:=Ab (show AT w.heap.size w w2 from (Aa q6).trans (hb2.mono (by omega)));clear a2 hb2;unfold Ba
   go_wp2_with (fail);refine A2 (v:=Ba 1 []) (by simp[BY,results36,go_sem,Ba,g0,g1,g2]) rfl ?_
   exact Ct.low (Aa HE) (Aa HH) (Aa q7) ((AR.of3 (w.heap.size+1) w2 _ _ _).below (Aa q5) (by omega))
  by_cases kl:k=1
  ·subst kl;have HE:=Ab (show eM d e n doc (1,s,t)=gX (eH s d e) doc by unfold eM;grind);clear hcfg k1 k9 c3;simp only;have q4:=Ab (Gw (f:=43) (s:=s) (hin:=Cf func43 (by kernel_rfl) rfl) (Q:=fun q p2 qk A w2=>A=(0,0,[])/\Av (fun k=>k=S) qk w2 /\ ∃p',SB w2 S d e n p'/\Bl w2 (fun k=>w1.heap.size+1<=k) p' d e (some (q,none))) (Aa H1) (Aa qh) (fun q p2 qk hb1 hab q8 qq=>by
    refine (Wr ((Aa H1).low hb1) (by omega) hab.lt qq q8).mono ?_;rintro x w2 ⟨rfl,hk,p',hsb,qd⟩;exact⟨_,rfl,(hk.block _ hab.lt (by omega)).trans hab,rfl,hk,p',hsb,qd⟩))
   go_wp2_with (fail);refine (Aa q4).mono ?_
   rintro x w2 (⟨c,hpos,q8,rfl,hb2⟩|⟨q,p2,w3,A,w4,q8,hb2,hs2,⟨rfl,hk,p',hsb4,qd⟩,rfl,hsb⟩)
   ·obtain⟨A,hA⟩:∃A:fE,A=(c,0,[]):=⟨_,rfl⟩
    have qe:=Ab (show gX (eH s d e) doc=(A,doc) by rw[q8,hA];rfl);rw[<- hA];have a2:=(Aa A1).low hb2;clear g0 g1 g2 z q0 q1 q2 hA q8;have g0:=a2.c0;have g1:=a2.c1;have g2:=a2.c2;have z:=a2.fz;have q5:=Ab (show AT w.heap.size w w2 from (Aa q6).trans (hb2.mono (by omega)));clear a2 hb2 q4;unfold Ax
    go_wp2_with (fail);refine A2 (v:=Ax A) (by simp[BY,results36,go_sem,Ax,g0,g1,g2]) rfl ?_
    exact Ct.low ((Aa HE).trans (Aa qe)) (Aa HH) (Aa q7) ((AR.of3 (w.heap.size+1) w2 _ _ _).below (Aa q5) (by omega))
   ·have qe:=Ab (show gX (eH s d e) doc=((0,0,[]),some (q,none)) by rw[q8];rfl);have a2:AB w2 (w.heap.size+1):=(hsb.block _ (by omega)).trans ((hk.block _ (by omega) (by omega)).trans ((hb2.block _ (by omega)).trans (Aa A1)));clear g0 g1 g2 z q0 q1 q2 q8;have g0:=a2.c0;have g1:=a2.c1;have g2:=a2.c2;have z:=a2.fz;have HK:=Ab ((Av.of_below (F:=fun k=>F k\/k=S) ((Aa q6).trans (hb2.mono (by omega)))).trans hk fun j _ hj=>DD hj);have HI:=Ab (hsb.isIn (a:=w.heap.size) (b:=w1.heap.size+1) (by omega) (by omega));have qp:=Ab hsb4;have qm:=Ab qd;clear a2 hb2 hk hsb hsb4 qd q4;unfold Ax
    go_wp2_with (fail);refine A2 (v:=Ax (0,0,[])) (by simp[BY,results36,go_sem,Ax,g0,g1,g2]) rfl ?_
    have hi:=(Aa HI).trans ((AR.of3 (w.heap.size+1) w2 (.int .i64 ((0,0,[]):fE).1) (.int .i64 ((0,0,[]):fE).2.1) (.string ⟨((0,0,[]):fE).2.2.toArray⟩)).isIn (a:=w.heap.size) (b:=w1.heap.size+1) (by omega) (by omega));unfold Ct;rw[(Aa HE).trans (Aa qe)];exact⟨rfl,hi.kept (Aa HK) (A5 _),p',(hi.block S (by omega)).trans (Aa qp),(Aa qm).move fun j hj _=>⟨hi.block j (DD hj),DD (by omega)⟩⟩
  have e1:decide (k<1)=false:=by grind
  have e9:decide (9<k)=false:=by grind
  have el:(k==1)=false:=by grind
  cases hdoc:doc with
  | none=>
   subst hdoc;have HE:=Ab (show eM d e n none (k,s,t)=((3,0,[]),none) by grind [eM,Ba,BY]);obtain rfl:p=.pointer none:=Aa q7;clear hcfg k1 k9 kl;simp only
   go_wp2_with (fail);refine (Bp 3 _).mono ?_
   rintro x w2 ⟨rfl,hb2⟩;have a2:=(Aa A1).low hb2;clear g0 g1 g2 z q0 q1 q2;have g0:=a2.c0;have g1:=a2.c1;have g2:=a2.c2;have z:=a2.fz;have q5:=Ab (show AT w.heap.size w w2 from (Aa q6).trans (hb2.mono (by omega)));clear a2 hb2;unfold Ba
   go_wp2_with (fail);refine A2 (v:=Ba 3 []) (by simp[BY,results36,go_sem,Ba,g0,g1,g2]) rfl ?_
   exact Ct.low (Aa HE) (Aa HH) (Aa q7) ((AR.of3 (w.heap.size+1) w2 _ _ _).below (Aa q5) (by omega))
  | some v=>
   subst hdoc;have HE:=Ab (show eM d e n (some v) (k,s,t)=((iC d e n v (k,s,t)).1,some (iC d e n v (k,s,t)).2) by
    unfold eM;rw[hcfg,if_pos rfl,if_neg (by simp;omega),if_neg kl];unfold iC
    grind)
   have q4:=Ab (Zp s t hcfg k1 k9 kl (fun j hj=>Aa qg j hj.1) (Aa qn) (Aa H1) (Aa D1) (Aa qh));have hD:=Aa q7;obtain⟨D,R,wp,rfl,_⟩:=hD;obtain⟨A,hA⟩:∃A,A=iC d e n v (k,s,t):=⟨_,rfl⟩
   rw[<- hA] at HE q4;clear hcfg k1 k9 kl;simp only
   go_wp2_with (fail);refine (Aa q4).mono ?_
   rintro x w2 hx;have qr:=hx.1;subst qr;have a2:AB w2 (w.heap.size+1):=(hx.2.1.block _ (by omega) (fun h=>by omega)).trans (Aa A1);have s2:SB w2 S d e n (.pointer (some ⟨D,0,none⟩)):=(hx.2.1.block S (by omega) (fun h=>(Aa qg S h.1).2 rfl)).trans (Aa H1);clear g0 g1 g2 z q0 q1 q2 hA;have g0:=a2.c0;have g1:=a2.c1;have g2:=a2.c2;have z:=a2.fz;have HX:=Ab hx;have qo:=Ab s2;clear a2 hx s2 q4;unfold Ax
   go_wp2_with (fail);refine A2 (v:=Ax A.1) (by simp[BY,results36,go_sem,Ax,g0,g1,g2]) rfl ?_
   have hi:=(AR.of3 (w.heap.size+1) w2 (.int .i64 A.1.1) (.int .i64 A.1.2.1) (.string ⟨A.1.2.2.toArray⟩)).isIn (a:=w.heap.size) (b:=w1.heap.size) (by omega) (by omega);obtain⟨_,r1,r2⟩:=Rd (F:=F) (Aa q6) (Aa HX) hi;unfold Ct;rw[Aa HE];exact⟨rfl,r1.mono fun j hj=>E0 hj,_,(hi.block S (by omega)).trans (Aa qo),r2⟩
section
variable{w:AS}{D k:Nat}{pa fa y wp:Option Addr}{pl pc fl fc:Nat}
theorem P0(hs:s.length<=8796093022208)(hW:∀w1,AT w.heap.size w w1->A3 AI 56 #[.pointer (some ⟨D,0,none⟩)] w1 fun x w'=>x=.returned (.pointer wp)/\AT w1.heap.size w1 w')(hC:∀w1,AT w.heap.size w w1->A3 AI 55 #[.pointer wp] w1 fun x w'=>x=.returned (.string ⟨s.toArray⟩)/\AT w1.heap.size w1 w'):
  A3 AI 121 #[.pointer (some ⟨D,0,none⟩)] w fun e w'=>e=.returned (.bool (decide (20000<s.length)))/\AT w.heap.size w w':=by
 have HW:=Ab hW;have HC:=Ab hC;obtain⟨n,hn⟩:∃n:Nat,n=s.length:=⟨_,rfl⟩
 have h1:decide ((20000:Int)<(n:Int))=decide (20000<n):=decide_eq_decide.2 (by omega);clear hW hC
 go_enter func121,ntmps121
 go_wp2_with (fail);refine (Aa HW w (Dp _ _)).mono ?_
 rintro e w1 ⟨rfl,hb1⟩;have q0:=Ab hb1;clear hb1
 go_wp2_with (fail);refine (Aa HC w1 (Aa q0)).mono ?_
 rintro e w2 ⟨rfl,hb2⟩;have q4:=Ab ((Aa q0).trans (hb2.mono (Aa q0).size));clear hb2
 go_wp2_with (fail)
 go_ret;refine⟨?_,Aa q4⟩
 simp;omega
theorem Pa{dp m:Int}{lo:Bool}(hW:∀w1,AT w.heap.size w w1->A3 AI 56 #[.pointer (some ⟨D,0,none⟩)] w1 fun x w'=>x=.returned (.pointer wp)/\AT w1.heap.size w1 w')(hD:∀w1,AT w.heap.size w w1->A3 AI 157 #[.pointer wp] w1 fun x w'=>x=.returned (.int .i64 m)/\AT w1.heap.size w1 w')(hL:∀w1,AT w.heap.size w w1->A3 AI 121 #[.pointer (some ⟨D,0,none⟩)] w1 fun e w'=>e=.returned (.bool lo)/\AT w1.heap.size w1 w'):
  A3 AI 117 #[.pointer (some ⟨D,0,none⟩),.int .i64 dp] w fun e w'=>e=.returned (.int .i64 (if dp<m then 7 else if lo=true then 4 else 0))/\AT w.heap.size w w':=by
 have HW:=Ab hW;have HD:=Ab hD;have HL:=Ab hL;clear hW hD hL;by_cases q6:dp<m
 ·go_enter func117,ntmps117
  go_wp2_with (fail);refine (Aa HW w (Dp _ _)).mono ?_
  rintro e w1 ⟨rfl,hb1⟩;have q0:=Ab hb1;clear hb1
  go_wp2_with (fail);refine (Aa HD w1 (Aa q0)).mono ?_
  rintro e w2 ⟨rfl,hb2⟩;have q4:=Ab ((Aa q0).trans (hb2.mono (Aa q0).size));clear hb2
  go_wp2_with (fail)
  go_ret;exact⟨by simp,Aa q4⟩
 ·go_enter func117,ntmps117
  go_wp2_with (fail);refine (Aa HW w (Dp _ _)).mono ?_
  rintro e w1 ⟨rfl,hb1⟩;have q0:=Ab hb1;clear hb1
  go_wp2_with (fail);refine (Aa HD w1 (Aa q0)).mono ?_
  rintro e w2 ⟨rfl,hb2⟩;have q4:=Ab ((Aa q0).trans (hb2.mono (Aa q0).size));clear hb2
  go_wp2_with (fail);refine (Aa HL w2 (Aa q4)).mono ?_
  rintro e w3 ⟨rfl,hb3⟩;have q5:=Ab ((Aa q4).trans (hb3.mono (Aa q4).size));clear hb3;cases lo;all_goals (
   go_wp2_with (fail)
   go_ret;exact⟨by simp,Aa q5⟩)
end
section
variable{w:AS}{D R:Nat}{wp:Option Addr}{jn iv:A6}{ch:Bool}{Tb T a:dS}{Mb M:Nat->Prop}{wb:AS}{v xv:To}{js:List dX}{y:Option Addr}{F:Nat->Prop}{d x:Int}{B:Nat}
 {k:Nat} {pa fa:Option Addr} {pl pc fl fc:Nat} {p q:List By}
theorem KT(h:JS w D R wp jn iv ch Tb Mb wb T a v M js)(hT:Ai w)(hv:eG d x B v)(hB:B<=900000000):
  A3 AI 121 #[.pointer (some ⟨D,0,none⟩)] w fun e w'=>e=.returned (.bool (decide (20000<(dZ top v).length)))/\AT w.heap.size w w':=by
 have hc:=(BT hv.gd).1;have hsz:=hv.sz;have q0:Rep top (fun _=>True) w (.pointer wp) v:=by
  rw[<- h.t.str];exact h.t.sub.rep fun _ _=>trivial
 exact P0 (by omega) (fun w1 hb1=>Dw (h.bel hb1).t) fun w1 hb1=>C9 (q0.bel hb1) (hT.bel hb1) (by omega)
theorem PN{dp:Int}(h:JS w D R wp jn iv ch Tb Mb wb T a v M js)(hT:Ai w)(hv:eG d x B v)(hB:B<=900000000):
  A3 AI 117 #[.pointer (some ⟨D,0,none⟩),.int .i64 dp] w fun e w'=>e=.returned (.int .i64 (Fj dp v))/\AT w.heap.size w w':=by
 have q0:Rep top (fun _=>True) w (.pointer wp) v:=by
  rw[<- h.t.str];exact h.t.sub.rep fun _ _=>trivial
 refine (Pa (wp:=wp) (m:=eQ top v) (lo:=decide (20000<(dZ top v).length)) (fun w1 hb1=>Dw (h.bel hb1).t) (fun w1 hb1=>Ni top (by have:=E1;omega) _ w1 _ v (q0.bel hb1)) (fun w1 hb1=>KT (h.bel hb1) (hT.bel hb1) hv hB)).mono ?_;rintro e w' ⟨rfl,hb⟩;refine⟨?_,hb⟩;unfold Fj;by_cases h1:dp<eQ top v
 ·rw[if_pos h1,if_pos h1];rfl
 ·rw[if_neg h1,if_neg h1];by_cases h2:20000<(dZ top v).length
  ·rw[if_pos h2,if_pos (decide_eq_true h2)];rfl
  ·rw[if_neg h2,if_neg (by rw[decide_eq_false h2];decide)];rfl
end
def Two(B:Nat)(W W':AS):Prop:=W'.heap[B]? = W.heap[B]? /\ W'.heap[B+1]? = W.heap[B+1]?
theorem Two.trans{B:Nat}{X Y Z:AS}(h:Two B X Y)(k:Two B Y Z):Two B X Z:=⟨k.1.trans h.1,k.2.trans h.2⟩
def DU(B:Nat)(I:AS->Prop):Prop:=∀W W':AS,I W->W'.os=W.os->W'.tape=W.tape->W'.output=W.output->W.heap.size<=W'.heap.size->(∀j,j<W.heap.size->j≠B->j≠B+1->W'.heap[j]? = W.heap[j]?)->I W'
theorem DU.put{B l:Nat}{I:AS->Prop}(h:DU B I){W:AS}(hi:I W)(hl:l=B\/l=B+1)(o:Obj):I (W.putObj l o):=
 h W _ hi rfl rfl rfl (by simp_all) fun j _ h1 h2=>A4 (by omega)
theorem Gx{P:Program}{g:Operand}{ps:Array Tmp}{assign body:Code}{Q:Exit->Act->AS->Prop}{a:Act}{w:AS}{gf:Nat}{lb:Array A6}(hg:a.eval g=.func (.func gf) #[] lb)(eg:∀args w,(D2 gf args).run P w=.ok (.enter gf args) w)(N:Nat)(arg:Nat->Array A6)(qd:∀k,(arg k).size=ps.size)(I:Nat->AS->Prop)(A:Nat->Act->AS->Prop)(hI:∀k,DU w.heap.size (I k))(hA:∀k a',DU w.heap.size (A k a'))(h0:I 0 w)(hiter:∀ (l:Nat) (J:Nat->AS->Prop) (W:AS),(∀k W,J k W->I k W)->(∀k W,k<N->J k W->YieldAt Dt 0 P l (arg k) W fun e W'=>e=.returned (.bool true)/\J (k+1) W')->J 0 W ->
   CallsIn Dt 0 P gf (#[.func (.yield l) #[] #[]]++lb) W fun e W'=>(∃v,e=.returned v)/\J N W')(hassign:∀l k W,k<N->I k W->w.heap.size+1<W.heap.size->assign.wpIn (Fence.wide.inRound l) 0 P (fun e a' W'=>e=.normal/\Two w.heap.size W W'/\A k a' W') { tmps:=(ps.zip (arg k)).foldl (fun t (p,v)=>t.setIfInBounds p v) a.tmps,defers:=[] } W)(hbody:∀l k a' W,k<N->A k a' W->w.heap.size+1<W.heap.size->(l=w.heap.size+1 /\ ∃r,W.heap[l]? = some (.loop r))->body.wpIn (Fence.wide.inRound l) 0 P (fun e _ W'=>e=.normal/\Two w.heap.size W W'/\I (k+1) W') a' W)(hdone:∀W,I N W->W.heap[w.heap.size]? = some (.deferred (some []))->Q .normal { a with defers:={ target:=.collected w.heap.size,args:=#[] }::a.defers } W):
  (Code.rangeFunc g ps assign body).wpIn Dt 0 P Q a w:=by
 refine wpIn_rangeFunc fun fn q9=>?_;obtain⟨B,hB⟩:∃B,B=w.heap.size:=⟨_,rfl⟩
 obtain⟨rc,q0⟩:∃rc:LoopState->Loop,rc=fun st=>{ state:=st,pending:=none,fn,tmps:=a.tmps,params:=ps,assign,body,defers:=B }:=⟨_,rfl⟩
 have two:∀o o':Obj,((w.alloc o).alloc o').heap[B]? = some o/\((w.alloc o).alloc o').heap[B+1]? = some o' /\ ∀j,j<B->((w.alloc o).alloc o').heap[j]? = w.heap[j]?:=fun o o'=>by
  have e1:=D0 w o;have e2:=D0 (w.alloc o) o';rw[World.size_alloc,<- hB] at e2;rw[<- hB] at e1;refine⟨(C2 (w.alloc o) o' B (by simp;omega)).trans e1,e2,fun j hj=>?_⟩;exact (C2 (w.alloc o) o' j (by simp;omega)).trans (C2 w o j (by omega))
 obtain⟨W1,q4⟩:∃W1,W1=(w.alloc (.deferred (some []))).alloc (.loop (rc .ready)):=⟨_,rfl⟩
 have t1:W1.heap[B]? = some (.deferred (some []))/\W1.heap[B+1]? = some (.loop (rc .ready)):=by grind
 have i1:I 0 W1:=by
  refine hI 0 w W1 h0 (by rw[q4];rfl) (by simp_all) (by rw[q4];rfl) (by grind) fun j hj _ _=>?_
  grind
 rw[<- hB] at hI hA hassign hbody hdone;refine⟨B+1,[{ target:=.collected B,args:=#[] }],W1,{ target:=.fn (.func gf) lb,args:=#[.func (.yield (B+1)) #[] #[]] },W1,gf,#[.func (.yield (B+1)) #[] #[]]++lb,W1,?_,?_,?_,?_,?_,?_⟩
 ·rw[q4,q0,hB];exact run_enterLoop_outer _ _ _ _ _
 ·simp only[resolve,hg];simp[go_sem]
 ·intro f' _;exact trivial
 ·simp[invoke,go_sem,eg]
 ·intro h;cases h
 ·refine (hiter (B+1) (fun k W=>I k W/\W.heap[B]? = some (.deferred (some []))/\W.heap[B+1]? = some (.loop (rc .ready))) W1 (fun k W h=>h.1) ?_ ⟨i1,t1⟩).mono ?_
  ·rintro k W hk ⟨hi,hd,hl⟩;have hy:=run_yield (P:=P) (args:=arg k) hl (by grind);rw[q0] at hy;refine⟨fn,_,assign,body,hy,roundIn_of_wpIn q9 (wpIn_mono (hassign (B+1) k W hk hi (CR.1 hl).1) ?_)⟩;rintro e a' Wa ⟨rfl,q8,ha⟩;have q6:=q8.2.trans hl;have hlt:=(CR.1 q6).1;refine⟨_,run_beginRound q6 (by rw[q0]),wpIn_mono (hbody (B+1) k a' _ hk ((hA k a').put ha (DD rfl) _) (by simp_all) ⟨by omega,_,CD hlt⟩) ?_⟩;rintro e a3 W3 ⟨rfl,q7,qb⟩;have l3:W3.heap[B+1]? = some (.loop { rc .ready with state:=.busy }):=q7.2.trans (CD hlt);have d3:W3.heap[B]? = some (.deferred (some [])):=q7.1.trans ((A4 (by omega)).trans (q8.1.trans hd));have hr:=run_endRound (P:=P) none l3;refine⟨_,_,hr,rfl,(hI (k+1)).put qb (DD rfl) _,(A4 (by omega)).trans d3,?_⟩;refine (CD (by grind)).trans ?_
   grind
  ·rintro e W2 ⟨⟨v,rfl⟩,hi,hd,hl⟩;have q5:=run_endLoop (P:=P) hl (by grind);refine⟨none,_,by rw[q5,q0],hdone _ ((hI N).put hi (DD rfl) _) ((A4 (by omega)).trans hd)⟩
section
attribute [local go_sem] Oper.semAt_some
def Hr(c:Nat->A6)(i:Nat):A6:=.agg #[c (i*5),c (i*5+1),c (i*5+2),c (i*5+3),c (i*5+4)]
theorem Pk{l Bs g N cap:Nat}{ao:Option Addr}{c:Nat->A6}{J:Nat->AS->Prop}{W:AS}(hN:N<=maxLen)(q4:0<N->ao=some ⟨g,0,none⟩)(hJ:∀k W,J k W->W.cell? ⟨Bs,0,none⟩=some (.slice ao N cap) /\ ∀j,j<N*5->W.cell? ⟨g,j,none⟩=some (c j))(hY:∀k W,k<N->J k W->YieldAt Dt 0 AI l #[.int .i64 ((N-1-k:Nat):Int),Hr c (N-1-k)] W fun e W'=>e=.returned (.bool true)/\J (k+1) W')(h0:J 0 W):
  CallsIn Dt 0 AI 204 (#[.func (.yield l) #[] #[]] ++ #[.pointer (some ⟨Bs,0,none⟩)]) W fun e W'=>(∃v,e=.returned v)/\J N W':=by
 have HJ:=Ab hJ;have HY:=Ab hY;have q5:=Ab q4;have q8:=(hJ 0 W h0).1;have H0:=Ab h0;unfold maxLen at hN;have w1:IntKind.i64.wrap ((N:Int)-1)=(N:Int)-1:=by rw[D3];omega
 clear hJ hY h0 q4;refine callsIn_of_wp func204 rfl trivial ?_ rfl;simp only[ntmps204,List.size_toArray,List.length_cons,List.length_nil,Nat.reduceAdd,Nat.reduceSub,Array.replicate_succ,Array.replicate_zero,List.push_toArray,List.append_toArray,List.nil_append,List.cons_append]
 gi_wp2
 gi_loopw [3] (fun i wr=>∃r:Nat,r<=N/\i=.int .i64 ((r:Int)-1)/\J (N-r) wr) (fun i _=>((intOf i)+1).toNat)
 case atStart=>exact⟨N,A5 _,rfl,by rw[Nat.sub_self];exact Aa H0⟩
 case round=>
  obtain⟨r,hr,rfl,hj⟩:=hrel;cases r with
  | zero=>
   have q6:=Ab hj;clear hj
   gi_wp2
   go_end0
   exact⟨⟨_,rfl⟩,Aa q6⟩
  | succ i=>
   obtain⟨hb,hc⟩:=Aa HJ _ _ hj;obtain rfl:=Aa q5 (by omega);have e1:(((i+1:Nat):Int)-1)=(i:Int):=by omega
   have hk:N-(i+1)<N:=by omega
   have e2:N-1-(N-(i+1))=i:=by omega
   have e3:N-(i+1)+1=N-i:=by omega
   have c0:=hc (i*5) (by omega);have c1:=hc (i*5+1) (by omega);have c2:=hc (i*5+2) (by omega);have c3:=hc (i*5+3) (by omega);have c4:=hc (i*5+4) (by omega);obtain⟨fn,tmps,assign,body,hy,hR⟩:=Aa HY _ _ hk hj;rw[e2,Hr] at hy;rw[e3] at hR;have HR:=Ab hR;have hlt:(i:Int)<(N:Int):=by omega
   have q9:(0:Int)<=(i:Int):=by omega
   have w2:IntKind.i64.wrap ((i:Int)-1)=(i:Int)-1:=by rw[D3];omega
   rw[e1];clear hj hc hR e1 e2 e3
   gi_wp2
   refine⟨rfl,(Aa HR).mono ?_⟩;rintro e W3 ⟨rfl,q0⟩;have q7:=Ab q0;clear q0
   gi_wp2
   go_roundw
   case rel=>exact⟨i,by omega,rfl,Aa q7⟩
   case measure=>simp[intOf]
theorem Nb{a:Option Addr}{n cap:Nat}{w:AS}:A3 AI 158 #[.slice a n cap] w fun e w'=>e=.returned (.func (.func 204) #[] #[.pointer (some ⟨w.heap.size,0,none⟩)])/\w'=w.alloc (.cells #[.slice a n cap] 112):=by
 go_enter func158,ntmps158
 go_wp2_with (fail)
 go_ret
 simp_all
end
end Go.Proofs.YtdpomdelmdofmaaGreatDoor
