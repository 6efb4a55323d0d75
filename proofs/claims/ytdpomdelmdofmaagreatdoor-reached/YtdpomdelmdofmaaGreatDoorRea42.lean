import Derived.Test.YtdpomdelmdofmaaGreatDoorRea41
open Nat renaming le_refl->AI,zero_le->C2
open Go renaming bodyPost_ret->AS,World->A5,results->CD,Ending->CR
open List renaming mem_reverse->AT,length_cons->A4,nil_append->CH,mem_map->C1
open Go.RowKit renaming Below->A6
open Go.Proofs.Tryz renaming prog->Bs
open Go.RowKit.Below renaming refl->BY
open Or renaming inl->CL
set_option maxRecDepth 100000
set_option maxHeartbeats 2000000
namespace Go.Proofs.YtdpomdelmdofmaaGreatDoor
open Go.Proofs.Tryz Go.RowKit Go.Maps
variable{p:Value}{e:Int}
noncomputable def jN(v q:To):Except (Nat×Nat) (To×List dX):=if 20000<(dZ top (eC top (some v) [] q).1).length then .error (4,0) else .ok (eC top (some v) [] q)
section
variable{w:A5}{D R:Nat}{wp:Option Addr}{iv:Value}{ch:Bool}{Tb T a:dS}{Mb M F:Nat->Prop}{wb:A5}{v q:To}{d x:Int}{p2:Option Addr}
theorem Sm(h:JS w D R wp (.slice none 0 0) iv ch Tb Mb wb T a v M [])(qb:dY d x top 1 v)(qe:dT top v<=200000)(hq:Rep top F w (.pointer p2) q)(hF:∀k,F k->M k)(q5:dY d x top 1 q)(qd:dT top q<=200000):
  Calls Bs 120 #[.pointer (some ⟨D,0,none⟩),plV (.slice none 0 0) R [] 0,.pointer p2] w fun e w'=>e=.returned (.tuple #[]) /\ ∃q9 q8 T' a' M',JS w' D R q9 q8 iv ch Tb Mb wb T' a' (eC top (some v) [] q).1 M' (eC top (some v) [] q).2/\JEx M M' w w':=by
 obtain⟨g,q4⟩:=h.t.one;have q7:=h.t.str;have q6:AV (dW R g (.slice [a] [])) 0 [] a:=CL ⟨R,g,[a],rfl,rfl⟩;have H:Jt d x top:=My top;refine (@H (top+1) [] w D 0 (.pointer (some ⟨R,0,none⟩)) (.slice none 0 0) iv ch Tb T (dW R g (.slice [a] [])) (some a) Mb M F wb [] [] none 0 0 [] (.pointer p2) q 1 rfl (AI _) h.j (by rw[q4];rfl) q6 ⟨by grind [eC,BW,dY],by decide⟩ (by grind) (CL (by grind)) (AI _) (fun _=>⟨0,rfl⟩) hq hF (by omega) q5 (by omega) (by grind)).mono ?_;rintro e w' ⟨rfl,c',q0,hc⟩;rw[show (some a).map (dV top)=some v by grind] at q0 hc;exact⟨rfl,JS.done (js:=(eC top (some v) [] q).2) q0 rfl hc⟩
theorem Sy(h:JS w D R wp (.slice none 0 0) iv ch Tb Mb wb T a v M [])(hT:Ai w)(qf:∀k,k<NG->M k)(qg:∀k,Mb k->k≠D/\k<w.heap.size)(hd:d<=100)(qi:dY d x top 1 v)(qm:dT top v<=200000)(hq:Rep top F w (.pointer p2) q)(hF:∀k,F k->M k)(q7:dY d x top 1 q)(qk:dT top q<=200000):
  Calls Bs 85 #[.pointer (some ⟨D,0,none⟩),.pointer p2] w fun e w'=>∃c:Nat,e=.returned (.int .i64 c)/\Ef D R iv ch Tb Mb wb M d x 100000 w (jN v q) (.returned (.tuple #[.int .i64 0,.int .i64 c])) w':=by
 have HM:=Ab (Sm h qi qm hq hF q7 qk);obtain⟨q1,q2,q3⟩:=KG (d:=d) (x:=x) top 1 (some v) [] q 200000 (by omega) (by grind) q7;have q4:dT top (eC top (some v) [] q).1<=400000:=by
  have h1:dT top (eC top (some v) [] q).1<=dT top v+dT top q:=TR (d:=d) (x:=x) top 1 (some v) [] q (by omega) (by grind) q7;omega
 have qu:=Ab h;have qh:=h.t.db;have c0:=qh.c0;have HT:=Ab hT;have qo:=Ab qf;have qp:=Ab qg;have HG:=Ab q1;have HO:=Ab (fun o (ho:o∈(eC top (some v) [] q).2)=>TU (q2 o ho) (by omega) (by grind));have HL:=Ab (show (eC top (some v) [] q).2.length<=200000 by omega);have qb:=Ab q4;obtain⟨v1,qn⟩:∃v1,v1=(eC top (some v) [] q).1:=⟨_,rfl⟩
 obtain⟨j1,qj⟩:∃j1,j1=(eC top (some v) [] q).2:=⟨_,rfl⟩
 have HX:=Ab (show jN v q=if 20000<(dZ top v1).length then .error (4,0) else .ok (v1,j1) by unfold jN;grind);rw[<- qn] at HM HG qb;rw[<- qj] at HM HO HL;obtain⟨r,hr⟩:∃r,r=jN v q:=⟨_,rfl⟩
 rw[<- hr] at HX |-;obtain⟨Q,hQ⟩:∃Q:CR->A5->Prop,Q=fun e w'=>∃c:Nat,e=.returned (.int .i64 c)/\Ef D R iv ch Tb Mb wb M d x 100000 w r (.returned (.tuple #[.int .i64 0,.int .i64 c])) w':=⟨_,rfl⟩
 rw[<- hQ];have HQ:=Ab hQ;clear h hT qf qg qi qm hq hF q7 qk q1 q2 q3 q4 qh qn qj hr hQ
 go_enter func85,ntmps85
 go_wp2_with (fail);refine (Aa HM).mono ?_
 rintro e w1 ⟨rfl,qt,qr,T1,a1,M1,s1,s2⟩;have HJ:=Ab s1;have qe:=Ab s2;have q8:=Ab (KT (d:=d) (x:=x) (B:=400000) s1 ((Aa HT).jex (Aa qo) s2) ⟨Aa HG,by omega,Aa qb⟩ (by omega));clear s1 s2
 go_wp2_with (fail);refine (Aa q8).mono ?_
 rintro e w2 ⟨rfl,hb2⟩;have q6:=Ab hb2;clear hb2 q8;by_cases q0:20000<(dZ top v1).length
 ·have qd:=Ab (FK (d:=d) (x:=x) (n:=100000) (c:=4) (i:=0) ((Aa HJ).bel (Aa q6)) ((Aa qe).trans ((Aa HJ).j.bel (Aa q6)).2) (Aa qp));have hr:=Aa HX;rw[if_pos q0] at hr;have q5:=decide_eq_true q0;rw[q5];clear q5 q0 HX
  go_wp2_with (fail);refine (Aa qd).mono ?_
  rintro e w3 ⟨rfl,hp⟩;have HP:=Ab hp;clear hp qd
  go_wp2_with (fail);show Q (.returned (.int .i64 4)) _
  rw[Aa HQ];refine⟨4,rfl,?_⟩;rw[hr];exact Aa (Aa HP)
 ·have HK:=Ab (OD (((Aa HJ).bel (Aa q6)).j) (by have:=Aa HL;omega));have hr:=Aa HX;rw[if_neg q0] at hr;have q9:=Ab (show (dZ top v1).length<=20000 by omega);have q5:=decide_eq_false q0;rw[q5];clear q5 q0 HX
  go_wp2_with (fail);refine (Aa HK).mono ?_
  rintro e w3 ⟨rfl,qq,k1,k2,k3⟩;have HP:=Ab (show Ef D R iv ch Tb Mb wb M d x 100000 w (.ok (v1,j1)) (.returned (.tuple #[.int .i64 0,.int .i64 0])) w3 from⟨rfl,qt,qr,T1,a1,M1,w2,qq,(Aa HJ).bel (Aa q6),(Aa qe).trans ((Aa HJ).j.bel (Aa q6)).2,k1,k2,k3,⟨Aa HG,by omega,by have:=(BT (Aa HG)).2;have:=Aa q9;omega⟩,by have:=Aa q9;omega,Aa HO,by have:=Aa HL;omega⟩);clear k1 k2 k3 HK
  go_wp2_with (fail);show Q (.returned (.int .i64 0)) _
  rw[Aa HQ];refine⟨0,rfl,?_⟩;rw[hr];exact Aa HP
end
theorem H9.below{w w':A5}(h:H9 w)(hb:A6 w.heap.size w w'):H9 w':=by
 obtain⟨t,fr,e⟩:=h;exact⟨t,fr,(hb.block _ (by grind)).trans e⟩
theorem Rj{x:Int}(h1:0<=x)(h2:x<=1000):IntKind.i64.wrap x=x:=by grind [IntKind.wrap_i64]
theorem Lf{F:Nat->Prop}{d:Int}{A:fE}{v':To×eL}{w w3:A5}(a b c:Value)(hk:Av (fun k=>F k/\k<w.heap.size) w w3)(hd:Bl w3 (FN (fun k=>F k/\k<w.heap.size) (w.heap.size+1)) p d e (some v')):
  Dg F p d e (A,v') w (.returned (Ax A)) (((w3.setCell ⟨w.heap.size,0,none⟩ a).setCell ⟨w.heap.size,1,none⟩ b).setCell ⟨w.heap.size,2,none⟩ c):=by
 have hs:=AR.of3 w.heap.size w3 a b c;refine⟨rfl,(hs.kept hk (AI _)).mono fun k h=>h.1,hd.move fun k hk q0=>⟨hs.block k ?_,?_⟩⟩
 ·omega
 grind
theorem Rp{S:Nat}{d n:Int}{v:To×eL}{F:Nat->Prop}{s:By}{w:A5}(hcfg:fH d e n=true)(hF:∀k,F k->NG<=k/\k≠S)(hS:SB w S d e n p)(hD:Bl w F p d e (some v))(hT:Ai w)(hO:H9 w):
  Calls Bs 59 #[.pointer (some ⟨S,0,none⟩),.string ⟨s.toArray⟩] w (Dg F p d e (iB d e v s) w):=by
 obtain⟨zq,zr⟩:1<=d/\d<=20:=by
  unfold fH gN at hcfg
  grind
 have zf:=hD;obtain⟨D,R,wp,rfl,zg⟩:=hD;have qi:=zg.move (F':=fun k=>F k/\k<w.heap.size) (fun k h1 h2=>⟨rfl,h1,h2⟩);obtain⟨W0,qf⟩:∃W0,W0=w.alloc (.cells #[.int .i64 0,.int .i64 0,.string ⟨#[]⟩] 46):=⟨_,rfl⟩
 have qh:A6 w.heap.size w W0:=by rw[qf];exact (BY _ _).alloc (AI _) _
 have zh:W0.heap.size=w.heap.size+1:=by simp_all
 have qg:AB W0 w.heap.size:=by rw[qf];exact AB.new w
 have qr:=Ab qi;have zt:=Ab zf;have HF:=Ab hF;have z6:=Ab qh;have za:=Ab zh;have qb:=Ab qg;have qu:=Ab (hT.below (qh.mono hT.ng));have zk:=Ab (hO.below qh);have qp:=hS.low qh;have c0:=qp.c0;have c1:=qp.c1;have zo:=Ab qp;have z1:IntKind.i64.wrap (d+2)=d+2:=Rj (by omega) (by omega);have HR:=Ab (fun (w9:A5) (hT:Ai w9)=>Rg s (d+2) e w9 hT);rw[<- z1] at HR;have ze:=Ab z1;clear z1;obtain⟨RR,qv⟩:∃RR,RR=iB d e v s:=⟨_,rfl⟩
 rw[<- qv];have qt:=Ab qv;have zc:=Ab qf;rw[qf] at c0 c1;clear hcfg hF hS zf zg qi hT hO qh zh qg qp qv qf;have zw:1<=d:=zq
 go_enter func59,ntmps59
 go_upto_region 1 with (fail)
 rw[<- Aa zc];rw[<- Aa zc] at c0 c1
 go_cut [5,6] (fun s5 s6 wx=>∃ (p2:Option Addr) (c:Nat),s5=.pointer p2/\s6=.int .i64 c/\Hid (A6 W0.heap.size W0 wx)/\Hid ((0<c/\eH s (IntKind.i64.wrap (d+2)) e=(c,none))\/(c=0 /\ ∃v,eH s (IntKind.i64.wrap (d+2)) e=(0,some v)/\Tr top W0.heap.size wx (.pointer p2) v)))
 case first=>
  go_region_with (go_at_call 77;refine (Aa HR _ ?_).mono ?_;exact (Aa qu).drew;rintro x w1 ⟨p2,c,rfl,hb1,hc⟩)
  all_goals (
   replace hb1:A6 W0.heap.size W0 w1:=⟨hb1.os,hb1.tape,hb1.output,hb1.size,hb1.block⟩
   replace hc:(0<c/\eH s (IntKind.i64.wrap (d+2)) e=(c,none))\/(c=0 /\ ∃v,eH s (IntKind.i64.wrap (d+2)) e=(0,some v)/\Tr top W0.heap.size w1 (.pointer p2) v):=hc
   have q8:=Ab hb1;have HC:=Ab hc;clear hb1 hc
   go_wp2_with (fail)
   go_meet
   grind)
 case rest=>
  obtain⟨p2,c,rfl,rfl,q8,HC⟩:=hcut;have qo:=Ab ((Aa z6).trans ((Aa q8).mono (by have:=Aa za;omega)));have A1:=Ab ((Aa qb).low (Aa q8));rcases Aa HC with⟨hpos,q7⟩|⟨rfl,pv,q7,zj⟩
  ·rw[Aa ze] at q7;have qe:=Ab (show RR=((c,0,[]),v) by rw[Aa qt];unfold iB;rw[q7]);have e0:((c:Int) != 0)=true:=by simp;omega
   clear q7 hpos
   go_wp2_with (fail);refine (Bp c _).mono ?_
   rintro x w3 ⟨rfl,hb3⟩;have a3:=(Aa A1).low hb3;have g0:=a3.c0;have g1:=a3.c1;have g2:=a3.c2;have z:=a3.fz;have z7:=Ab ((Aa qo).trans (hb3.mono (Aa qo).size));clear a3 hb3;unfold Ba
   go_wp2_with (fail);refine AS (v:=Ax (c,0,[])) (by simp[CD,results59,go_sem,Ax,g0,g1,g2]) rfl ?_
   rw[Aa qe];exact Lf _ _ _ (Av.of_below (Aa z7)) ⟨D,R,wp,rfl,(Aa qr).move fun k hk qj=>⟨(Aa z7).block k qj,CL ⟨hk,by omega⟩⟩⟩
  ·rw[Aa ze] at q7;have qy:=Ej q7;have qz:=GI q7 top;have qx:=(Aa qu).below ((Aa q8).mono (Aa qu).ng);have zn:=Ab (RC (f:=top-2) zj.rep (by omega) (Tz qy qz) qx ((Aa zk).below (Aa q8)));have z8:=Ab q7;have zl:=Ab (fun l (h:DA pv=.ok l)=>VY qy qz (by omega) h);have zb:=Ab qx;clear q7 zj qy qz qx
   go_wp2_with (fail);refine (Aa zn).mono ?_
   rintro x w2 ⟨q5,hb2⟩;have A2:=Ab ((Aa A1).low hb2);have qd:=Ab ((Aa qo).trans (hb2.mono (Aa qo).size));have zs:=Ab hb2;unfold Dm at q5;cases hpr:DA pv with
   | error i=>
    rw[hpr] at q5;subst q5;have qe:=Ab (show RR=((10,i,[]),v) by rw[Aa qt];unfold iB;rw[Aa z8];grind);have g0:=(Aa A2).c0;have g1:=(Aa A2).c1;have g2:=(Aa A2).c2;have z:=(Aa A2).fz;clear hpr hb2
    go_wp2_with (fail);refine AS (v:=Ax (10,i,[])) (by simp[CD,results59,go_sem,Ax,g0,g1,g2]) rfl ?_
    rw[Aa qe];exact Lf _ _ _ (Av.of_below (Aa qd)) ⟨D,R,wp,rfl,(Aa qr).move fun k hk qj=>⟨(Aa qd).block k qj,CL ⟨hk,by omega⟩⟩⟩
   | ok l=>
    rw[hpr] at q5;obtain⟨ao,g,cap,rfl,hg,qn⟩:=q5;obtain⟨qk,qm⟩:=Aa zl l hpr;have zi:=(Aa q8).size;have hs2:=hb2.size;have q6:A6 W0.heap.size W0 w2:=(Aa q8).trans (hb2.mono zi);have zm:=Ab (fun (w9:A5) (h9:A6 w2.heap.size w2 w9)=>RA (ao:=ao) (cap:=cap) (l:=l) (g:=g) (Aa qr) (fun k hk=>⟨(Aa HF k hk.1).1,hk.2⟩) (Aa z6) (Aa za) (q6.trans (h9.mono q6.size)) ((Aa zb).below ((hb2.trans (h9.mono hs2)).mono (Aa zb).ng))
     (fun i hi=>by
      obtain⟨pa,pl,pc,fa,fl,fc,y,q0,q1,q2,q3,q4⟩:=qn i hi;have qq:=World.block_lt_of_cell? w2 _ q1;exact⟨pa,pl,pc,fa,fl,fc,y,q0.move fun k hk qj=>⟨h9.block k qj,by omega⟩,(h9.cell (p:=⟨g,i*4,none⟩) qq).trans q1,(h9.cell (p:=⟨g,i*4+1,none⟩) qq).trans q2,(h9.cell (p:=⟨g,i*4+2,none⟩) qq).trans q3,(h9.cell (p:=⟨g,i*4+3,none⟩) qq).trans q4⟩)
     (by grind) qm qk zr)
    have qw:=(Aa zo).low q6;have zu:=qw.c0;have zv:=qw.c3;have qe:=Ab (fun (y:(To×eL)) (c i:Nat) (h:match Cc d 0 v.1 [] l with
     | .error (c',i')=>c=c'/\i=i'/\y=v
     | .ok (u,j)=>c=0/\i=0/\y=(u,some j.reverse))=>(show RR=((c,i,[]),y) by
      rw[Aa qt];unfold iB;rw[Aa z8];grind))
    clear hpr hb2 hg qn qk qm zi hs2 q6 qw c0 c1
    go_upto_region 7 with (fail)
    go_cut [8,6] (fun s8 s6 wx=>∃ (c i:Nat) (v':To×eL),s8=.int .i64 i/\s6=.int .i64 c/\Hid (wx.heap[w.heap.size]? = W0.heap[w.heap.size]? /\ Av (fun k=>F k/\k<w.heap.size) w wx/\Bl wx (FN (fun k=>F k/\k<w.heap.size) (w.heap.size+1)) (.pointer (some ⟨D,0,none⟩)) d e (some v')/\RR=((c,i,[]),v')))
    case first=>
     go_region_with (go_at_call 84;refine (Aa zm _ ?_).mono ?_;exact⟨rfl,rfl,rfl,AI _,fun _ _=>rfl⟩;rintro x w3 ⟨c,i,v',rfl,q1,q2,q3,q4⟩)
     all_goals (
      have q9:=Ab (show w3.heap[w.heap.size]? = W0.heap[w.heap.size]? /\ Av (fun k=>F k/\k<w.heap.size) w w3/\Bl w3 (FN (fun k=>F k/\k<w.heap.size) (w.heap.size+1)) (.pointer (some ⟨D,0,none⟩)) d e (some v')/\RR=((c,i,[]),v') from⟨q1,q2,q3,Aa qe v' c i q4⟩);clear q1 q2 q3 q4
      go_wp2_with (fail)
      go_meet
      grind)
    case rest=>
     obtain⟨c,i,v',rfl,rfl,q9⟩:=hcut;obtain⟨q1,q2,q3,q4⟩:=Aa q9;have a3:AB wc w.heap.size:=q1.trans (Aa qb);have g0:=a3.c0;have g1:=a3.c1;have g2:=a3.c2;have z:=a3.fz;clear q1 q2 q3 q4 a3
     go_wp2_with (fail);refine AS (v:=Ax (c,i,[])) (by simp[CD,results59,go_sem,Ax,g0,g1,g2]) rfl ?_
     obtain⟨q1,q2,q3,q4⟩:=Aa q9;rw[q4];exact Lf _ _ _ q2 q3
theorem Oh:LQ:=fun _ _ _ _ _ _ _ _ _ hc hF hS hD hT=>Rp hc hF hS hD hT hT.otab
def bC(F:Nat->Prop)(w W0:A5)(D:Nat)(d e:Int)(v:To×eL)(q:To)(x:CR)(w3:A5):Prop:=∃ (c:Nat) (v':To×eL),x=.returned (.int .i64 c)/\w3.heap[w.heap.size]? = W0.heap[w.heap.size]? /\ Av F w w3 /\
 Bl w3 (FN F (w.heap.size+1)) (.pointer (some ⟨D,0,none⟩)) d e (some v')/\iK v q=((c,0,[]),v')
theorem RJ{w W0 w9:A5}{F:Nat->Prop}{D R lo:Nat}{wp:Value}{d:Int}{v:To×eL}{q:To}{p2:Option Addr}(hd:Eg w F D R wp d e v)(hF:∀k,F k->NG<=k/\k<w.heap.size/\k<lo)(hW:A6 w.heap.size w W0)(qf:W0.heap.size=w.heap.size+1)(hb:A6 W0.heap.size W0 w9)(hT:Ai w9)(hq:Rep top (fun k=>lo<=k) w9 (.pointer p2) q)(q9:dY d e top 1 q)(qi:(dZ top q).length<=80000)(qh:d<=20):
  Calls Bs 85 #[.pointer (some ⟨D,0,none⟩),.pointer p2] w9 (bC F w W0 D d e v q):=by
 obtain⟨T,a,iv,h1,h2,h3⟩:=hd.ex;have fD:=hd.fD;have q7:=hd.len;have q5:=hd.gd;have q8:CX W0 D R wp (.slice none 0 0) iv v.2.isSome T a v.1:=h1.move (hW.block D h1.db.lt) fun k hk=>hW.block k (h1.tr.lt k hk);have qb:GF W0 (fun k=>F k/\k≠D/\k ∉ fp (top+1) T) iv v.2:=h3.move fun k hk q6=>⟨hW.block k q6,hk⟩
 obtain⟨qn,rfl,hJ⟩:=Jz q8 hb;have qd:=h1.tr.lt;have qe:=h1.db.lt;have qg:=hb.size;have qj:=hT.ng;refine (Sy (d:=d) (x:=e) hJ hT (fun k hk=>⟨?_,fun hm=>?_,fun e=>?_⟩) (fun k hk=>⟨hk.2.2,by omega⟩) (by omega) q5 (by have:=(BT q5).2;omega) (hq.move (F':=fun k=>lo<=k/\k<w9.heap.size) fun k hk q6=>⟨rfl,hk,q6⟩) (fun k hk=>⟨hk.2,fun hm=>?_,fun e=>?_⟩) q9 (by have:=(BT q9).2;omega)).mono ?_
 ·omega
 ·have:=(hF k (h2 k hm)).1;omega
 ·have:=(hF k (e▸fD)).1;omega
 ·have:=(hF k (h2 k hm)).2.2;omega
 ·have:=(hF k (e▸fD)).2.2;omega
 ·rintro x w3 ⟨c,rfl,hp⟩;have q4:∀k,k<w.heap.size -> ¬ F k->k<W0.heap.size/\k ∉ fp (top+1) T/\k≠D:=by grind
  have hq:w.heap.size<W0.heap.size/\w.heap.size ∉ fp (top+1) T/\w.heap.size≠D:=by grind
  unfold jN at hp;by_cases q0:20000<(dZ top (eC top (some v.1) [] q).1).length
  ·rw[if_pos q0] at hp;obtain⟨e1,p1,p2,p3,p4,p5,p6⟩:=hp;injection e1 with e1;injection e1 with e1;obtain rfl:c=4:=by
    grind
   refine⟨4,v,rfl,p2.held _ hq,⟨p3.trans (hb.os.trans hW.os),p4.trans (hb.tape.trans hW.tape),p5.trans (hb.output.trans hW.output),by have:=hW.size;omega,fun k hk hx=>(p2.held k (q4 k hk hx)).trans (hW.block k hk)⟩,?_,by unfold iK;rw[if_pos q0]⟩;exact Kx q8 rfl h2 qb fD q7 q5 (fun k hk _=>by have:=(hF k hk).2.1;omega) (by omega) p2 p1
  ·rw[if_neg q0] at hp;obtain⟨e1,qm,jn,T2,a2,M',wk,qk,s1,s2,s3,s4,s5,s6,s7,s8,s9⟩:=hp;injection e1 with e1;injection e1 with e1;obtain rfl:c=0:=by
    grind
   have hM:∀k,k<W0.heap.size/\k ∉ fp (top+1) T/\k≠D->w3.heap[k]? = W0.heap[k]?:=fun k hk=>by
    have h4:=s2.kept k ⟨by omega,hk.2⟩;exact (s5.block k (by have:=s2.size;omega) hk.2.2).trans (h4.2.trans (hb.block k hk.1))
   refine⟨0,((eC top (some v.1) [] q).1,some (eC top (some v.1) [] q).2.reverse),rfl,hM _ hq,⟨s5.os.trans (s2.os.trans (hb.os.trans hW.os)),s5.tape.trans (s2.tape.trans (hb.tape.trans hW.tape)),s5.output.trans (s2.output.trans (hb.output.trans hW.output)),by grind,fun k hk hx=>(hM k (q4 k hk hx)).trans (hW.block k hk)⟩,?_,by unfold iK;rw[if_neg q0]⟩;refine Kw (F:=F) (B:=w.heap.size+1) (fun k hk=>⟨h2 k hk,by have:=qd k hk;omega⟩) ⟨fD,by omega⟩ (by omega) s1 s3 s4 s5 s7 s6.gd (Mj (d:=d) (x:=e) (fun o ho=>s8 o (AT.1 ho)) ?_) fun o ho=>⟨by have:=(s8 o (AT.1 ho)).1;omega,fun h=>⟨_,_,((s8 o (AT.1 ho)).2 h).gd,((s8 o (AT.1 ho)).2 h).dd⟩⟩
   rw[List.length_reverse];exact Nat.le_trans s9 (by decide)
theorem Rr{S lo:Nat}{d n:Int}{v:To×eL}{F:Nat->Prop}{s:By}{q:To}{p2:Option Addr}{w:A5}(hcfg:fH d e n=true)(hF:∀k,F k->NG<=k/\k≠S/\k<lo)(hS:SB w S d e n p)(hD:Bl w F p d e (some v))(hT:Ai w)(hr:eH s d e=(0,some q))(hq:Tr top lo w (.pointer p2) q):
  Calls Bs 60 #[.pointer (some ⟨S,0,none⟩),.pointer p2] w (Dg F p d e (iK v q) w):=by
 obtain⟨qj,qi⟩:1<=d/\d<=20:=by
  unfold fH gN at hcfg
  grind
 obtain⟨D,R,wp,rfl,qe⟩:=hD;have q7:=qe.move (F':=fun k=>F k/\k<w.heap.size) (fun k h1 h2=>⟨rfl,h1,h2⟩);obtain⟨W0,q0⟩:∃W0,W0=w.alloc (.cells #[.int .i64 0,.int .i64 0,.string ⟨#[]⟩] 46):=⟨_,rfl⟩
 have q6:A6 w.heap.size w W0:=by rw[q0];exact (BY _ _).alloc (AI _) _
 have qf:W0.heap.size=w.heap.size+1:=by simp_all
 have q5:AB W0 w.heap.size:=by rw[q0];exact AB.new w
 have HM:=Ab (RJ q7 (by grind) q6 qf (BY _ _) (hT.below (q6.mono hT.ng)) (hq.rep.bel q6) (Ej hr) (GI hr top) qi);have q8:=Ab q5;have qd:=hS.low q6;have c3:=qd.c3;obtain⟨RR,qb⟩:∃RR,RR=iK v q:=⟨_,rfl⟩
 rw[<- qb];have qg:=Ab qb;have qh:=Ab q0;rw[q0] at c3;clear hcfg hF hS qe q7 hT q6 qf q5 qd qb q0 hr hq
 go_enter func60,ntmps60
 go_wp2_with (fail);rw[<- Aa qh]
 refine (Aa HM).mono ?_;rintro x w3 ⟨c,v',rfl,q1,q2,q3,q4⟩;have q9:=Ab (show Av (fun k=>F k/\k<w.heap.size) w w3/\Bl w3 (FN (fun k=>F k/\k<w.heap.size) (w.heap.size+1)) (.pointer (some ⟨D,0,none⟩)) d e (some v')/\RR=((c,0,[]),v') from⟨q2,q3,(Aa qg).trans q4⟩);have a3:AB w3 w.heap.size:=q1.trans (Aa q8);have g0:=a3.c0;have g1:=a3.c1;have g2:=a3.c2;have z:=a3.fz;clear q1 q2 q3 q4 a3 HM c3
 go_wp2_with (fail);refine AS (v:=Ax (c,0,[])) (by simp[CD,results60,go_sem,Ax,g0,g1,g2]) rfl ?_
 obtain⟨q2,q3,q4⟩:=Aa q9;rw[q4];exact Lf _ _ _ q2 q3
theorem Wh:LT:=fun _ _ _ _ _ _ _ _ _ _ _ _ hc hF hS hD hT hr hq=>Rr hc hF hS hD hT hr hq
def bD(F':Nat->Prop)(w:A5)(e:CR)(w':A5):Option To->Prop
 | none=>e=.returned (.tuple #[.pointer none,.bool false])
 | some z=>∃p,e=.returned (.tuple #[.pointer (some p),.bool true])/\Rep top (fun k=>F' k\/w.heap.size<=k) w' (.pointer (some p)) z
theorem Ez.as{F':Nat->Prop}{a b:To}{w w':A5}{e:CR}{f:Nat}(hf:f=top)(h:Ez f F' a b w e w'){r:Option To}(hr:r=fW f a b):A6 w.heap.size w w'/\bD F' w e w' r:=by
 obtain⟨h1,h2⟩:=h;refine⟨h1,?_⟩;cases hm:fW f a b with
 | none=>rw[hm] at h2 hr;subst hr;exact h2
 | some z=>rw[hm] at h2 hr;subst hr;subst hf;exact h2
theorem II:GE:=by
 intro S lo d e n p v F s q p2 w hcfg hS hD hT hr hq;obtain⟨z6,z7⟩:1<=d/\d<=20:=by
  unfold fH gN at hcfg
  grind
 obtain⟨D,R,wp,rfl,q9⟩:=hD;obtain⟨T,a,iv,h1,h2,h3⟩:=q9.ex;have q4:A6 w.heap.size w (w.alloc (.cells #[.int .i64 0,.int .i64 0,.string ⟨#[]⟩] 46)):=(BY _ _).alloc (AI _) _;have c3:=(hS.low q4).c3;have qu:=Ab (AB.new w);have qv:=Ab q4;have hsz:(w.alloc (.cells #[.int .i64 0,.int .i64 0,.string ⟨#[]⟩] 46)).heap.size=w.heap.size+1:=by simp
 have HT:=Ab (hT.below (q4.mono hT.ng));have q5:CX (w.alloc (.cells #[.int .i64 0,.int .i64 0,.string ⟨#[]⟩] 46)) D R wp (.slice none 0 0) iv v.2.isSome T a v.1:=h1.move (q4.block D h1.db.lt) fun k hk=>q4.block k (h1.tr.lt k hk);obtain⟨b,rfl,_⟩:=q5.sub.ptr;have HW:=Ab (Dw q5);have q7:Rep top (fun _=>True) (w.alloc (.cells #[.int .i64 0,.int .i64 0,.string ⟨#[]⟩] 46)) (.pointer (some ⟨b,0,none⟩)) v.1:=by
  rw[<- q5.str];exact q5.sub.rep fun _ _=>trivial
 have qi:=Ab q7;have qw:=Ab (hq.rep.bel q4);have qm:=q9.gd;have qb:=Ej hr;have qz:dT top v.1<=160000:=by have:=(BT qm).2;have:=q9.len;omega
 have hs2:dT top q<=160000:=by have:=(BT qb).2;have:=GI hr top;omega
 have q0:top=2000+1:=by decide
 have qo:=GN (g:=2000) (by rw[<- q0];exact qm);rw[<- q0] at qo;have qq:=Ab (fun (w2:A5) (hb:A6 (w.alloc (.cells #[.int .i64 0,.int .i64 0,.string ⟨#[]⟩] 46)).heap.size (w.alloc (.cells #[.int .i64 0,.int .i64 0,.string ⟨#[]⟩] 46)) w2)=>
  QD (d:=d) (x:=e) top 2000 1 (fun _=>True) (fun k=>lo<=k/\k<w2.heap.size) w2 (.pointer (some ⟨b,0,none⟩)) (.pointer p2) v.1 q q0 (Th (by rw[<- q0];exact (Aa qi).bel hb)) qo.1 (by omega) (((Aa qw).bel hb).move (by grind)) (fun k hk=>hk.2) qb (by omega))
 obtain⟨r,qp⟩:∃r,r=fW top v.1 q:=⟨_,rfl⟩
 have HR:=Ab qp;have qf:=Ab (fun z (hz:r=some z)=>(show (dZ top z).length<=8796093022208 by
  obtain⟨g1,g2⟩:=Ow (d:=d) (x:=e) top 1 v.1 q z 160000 qb (by grind) (qp.symm.trans hz)
  grind [iZ,dT,BT]))
 obtain⟨RR,qk⟩:∃RR,RR=iZ v.1 q:=⟨_,rfl⟩
 rw[<- qk];have qr:=Ab qk;clear hcfg hS q9 h1 h2 h3 hT hr hq q4 q5 q7 qm qb qz hs2 qo qk qp q0
 go_enter func63,ntmps63
 go_wp2_with (fail);refine (Aa HW).mono ?_
 rintro x w2 ⟨rfl,hb2⟩;have qd:=Ab hb2;have qn:=Aa qq w2 hb2;obtain⟨QQ,qj⟩:∃QQ:CR->A5->Prop,QQ=Ez top (fun k=>lo<=k/\k<w2.heap.size) v.1 q w2:=⟨_,rfl⟩
 rw[<- qj] at qn;have qg:=Ab qn;have qx:=Ab qj;have qt:=Ab ((Aa HT).below (hb2.mono (Aa HT).ng));have A2:=Ab ((Aa qu).low (by omega));clear hb2 HW qn qj qq
 go_wp2_with (fail);refine (Aa qg).mono ?_
 intro x w3 hx;rw[Aa qx] at hx;obtain⟨hb3,he⟩:=Ez.as rfl hx (Aa HR);clear hx;have z1:w.heap.size<w2.heap.size:=by have:=(Aa qd).size;omega
 have A3:=Ab ((Aa A2).low (hb3.mono (by omega)));have q8:=Ab ((Aa qv).trans (((Aa qd).trans (hb3.mono (Aa qd).size)).mono (by omega)));have qy:=Ab ((Aa qt).below (hb3.mono (Aa qt).ng));clear hb3;cases hm:r with
 | none=>
  rw[hm] at he;obtain rfl:x=.returned (.tuple #[.pointer none,.bool false]):=he;have qh:=Ab (show RR=(15,0,[]) by rw[Aa qr];unfold iZ;rw[<- Aa HR,hm]);clear hm
  go_wp2_with (fail);refine (Bp 15 w3).mono ?_
  rintro x w4 ⟨rfl,q6⟩;have a3:=(Aa A3).low (by omega);have g0:=a3.c0;have g1:=a3.c1;have g2:=a3.c2;have z:=a3.fz;have qe:=Ab ((Aa q8).trans (q6.mono (Aa q8).size));clear a3 q6;unfold Ba
  go_wp2_with (fail);refine AS (v:=Ax (15,0,[])) (by simp[CD,results63,go_sem,Ax,g0,g1,g2]) rfl ?_
  rw[Aa qh];exact⟨rfl,(AR.of3 w.heap.size w4 _ _ _).below (Aa qe) (AI _)⟩
 | some z=>
  rw[hm] at he;obtain⟨p,rfl,hz⟩:=he;have qh:=Ab (show RR=(0,0,dZ top z) by rw[Aa qr];unfold iZ;rw[<- Aa HR,hm]);have HC:=Ab (C9 hz (Aa qy) (Aa qf z hm));clear hm hz
  go_wp2_with (fail);refine (Aa HC).mono ?_
  rintro x w4 ⟨rfl,q6⟩;have a3:=(Aa A3).low (by omega);have g0:=a3.c0;have g1:=a3.c1;have g2:=a3.c2;have z':=a3.fz;have qe:=Ab ((Aa q8).trans (q6.mono (Aa q8).size));clear a3 q6
  go_wp2_with (fail);refine AS (v:=Ax (0,0,dZ top z)) (by simp[CD,results63,go_sem,Ax,g0,g1,g2]) rfl ?_
  rw[Aa qh];exact⟨rfl,(AR.of3 w.heap.size w4 _ _ _).below (Aa qe) (AI _)⟩
section
variable{d x n:Int}
theorem QY:∀ {f:Nat} {dU:Int} {s:List By} {a b:To},dY d x f dU a->dY d x f dU b->(∀t∈s,Ut t) -> ∀o∈A9 n f s a b,∀t∈o.2.1,Ut t
 | 0,_,_,_,_,h,_,_=>h.elim
 | f+1,dU,s,a,b,ha,hb,hs=>by
  have rep:∀o∈(if veq a b=true then [] else [((2,s,b):dX)]),∀t∈o.2.1,Ut t:=by
   grind
  by_cases hm:fI a=true/\fI b=true
  ·obtain⟨h1,h2⟩:=hm;obtain⟨xs,rfl⟩:∃xs,a=.map xs:=by
    cases a<;>first|exact⟨_,rfl⟩|cases h1
   obtain⟨bs,rfl⟩:∃bs,b=.map bs:=by
    cases b<;>first|exact⟨_,rfl⟩|cases h2
   obtain⟨_,q4⟩:=Bt ha;obtain⟨_,q0⟩:=Bt hb;intro o ho;obtain⟨k,hk,h⟩:=IQ (show o∈AN (A9 n f) s xs bs (BK xs bs) from ho);have q6:Ut k:=by
    have q7:∀ (l:List (Lit×To)) (c:To),fA d x f dU l->(Lit.string k,c)∈l->Ut k:=fun l c hm hc=>by
     obtain⟨s',e,hu⟩:=(hm.2 _ hc).1
     grind
    rcases (Cw q4.skey q0.skey).1 hk with⟨c,hc⟩|⟨c,hc⟩
    ·exact q7 xs c q4 hc
    ·exact q7 bs c q0 hc
   rcases h with⟨_,rfl⟩|⟨y,_,rfl⟩|⟨u,y,hu,hy,ho⟩
   ·exact GG hs q6
   ·exact GG hs q6
   ·exact QY (q4.2 _ (Ch q4.skey hu)).2 (q0.2 _ (Ch q0.skey hy)).2 (GG hs q6) o ho
  ·by_cases hsl:(∃xs z,a=.slice xs z) /\ ∃bs z,b=.slice bs z
   ·obtain⟨⟨xs,z,rfl⟩,bs,z',rfl⟩:=hsl;intro o ho;have q5:o∈(if ((xs.length:Int)+1)*((bs.length:Int)+1)<=n then B6 s xs bs else if veq (.slice xs z) (.slice bs z')=true then [] else [((2,s,.slice bs z'):dX)]):=ho;split at q5
    ·unfold B6 at q5;rcases List.mem_append.1 q5 with h|h
     ·obtain⟨i,_,rfl⟩:=C1.1 h;exact GG hs (QJ i)
     ·obtain⟨i,_,rfl⟩:=C1.1 h;exact GG hs (QJ i)
    ·exact rep o q5
   ·have e:A9 n (f+1) s a b=if veq a b=true then [] else [((2,s,b):dX)]:=by
     cases a<;>cases b<;>first|rfl|exact absurd ⟨rfl,rfl⟩ hm|exact absurd ⟨⟨_,_,rfl⟩,_,_,rfl⟩ hsl
    rw[e];exact rep
theorem OB:∀a:List To,eB a a=a.length
 | []=>by rw[eB];rfl
 | y::a=>by
  have ih:=OB a;rw[eB,if_pos (EV rfl),ih,A4];omega
theorem Jn:∀a b:List To,eB a b<=b.length
 | [],b=>by rw[eB];exact C2 _
 | x::a,[]=>by rw[eB];exact C2 _
 | x::a,y::b=>by
  have h1:=Jn a b;have h2:=Jn a (y::b);have h3:=Jn (x::a) b;rw[eB];simp only[A4] at *;split<;>omega
termination_by a b=>a.length+b.length
theorem Le:∀ (m:Nat) (a:List To) (k j:Nat),a.length+a.length<=m->eJ m a a k j=([],[])
 | 0,_,_,_,_=>rfl
 | _+1,[],_,_,_=>rfl
 | m+1,y::a,k,j,h=>by
  have h1:=OB (y::a);have h2:=IM a (y::a);have h3:=Jn (y::a) a;rw[A4] at h1;simp only[A4] at h;rw[eJ,if_neg (by omega),if_neg (by omega)];exact Le m a (k+1) (j+1) (by omega)
theorem MW:∀ {f:Nat} {dU:Int} {s:List By} {a:To},dY d x f dU a->A9 n f s a a=[]
 | 0,_,_,_,h=>h.elim
 | f+1,dU,s,a,ha=>by
  have rep:(if veq a a=true then [] else [((2,s,a):dX)])=[]:=if_pos (EV rfl);cases hob:fI a with
  | true=>
   obtain⟨xs,rfl⟩:∃xs,a=.map xs:=by
    cases a<;>first|exact⟨_,rfl⟩|cases hob
   obtain⟨_,q0⟩:=Bt ha;show AN (A9 n f) s xs xs (BK xs xs)=[]
   have key:∀ks:List By,(∀k∈ks,∃c,(Lit.string k,c)∈xs)->AN (A9 n f) s xs xs ks=[]:=by
    intro ks;induction ks with
    | nil=>intro _;rfl
    | cons k ks ih=>
     intro h;obtain⟨c,hc⟩:=h k List.mem_cons_self;rw[AN,ih (by grind),BA q0.skey hc];show A9 n f (s++[k]) c c++[]=[]
     rw[MW (q0.2 _ hc).2];rfl
   exact key _ fun k hk=>by
    rcases (Cw q0.skey q0.skey).1 hk with h|h<;>exact h
  | false=>
   by_cases hsl:∃xs z,a=.slice xs z
   ·obtain⟨xs,z,rfl⟩:=hsl;show (if ((xs.length:Int)+1)*((xs.length:Int)+1)<=n then B6 s xs xs else if veq (.slice xs z) (.slice xs z)=true then [] else [((2,s,.slice xs z):dX)])=[]
    split
    ·unfold B6;rw[Le _ _ _ _ (AI _)];rfl
    omega
   ·have e:A9 n (f+1) s a a=if veq a a=true then [] else [((2,s,a):dX)]:=by
     cases a<;>first|rfl|grind|cases hob
    grind
def iJ(doc tg:By):List St:=[(1,doc,[]),(8,tg,[])]
def jV(doc tg t:By):List St:=iJ doc tg++[(5,t,[]),(2,[],[]),(8,tg,[])]
theorem Xe{d:Int}(h1:1<=d)(h3:0<=e)(h4:e<=400):gY d e [91,93]=(0,[91,93]):=by
 have hg:dY d e top 1 (Af []):=⟨h1,by grind⟩
 have hc:dZ top (Af [])=[91,93]:=rfl;have r1:=Tq hg h3 (by omega) [] [] (fun l=>rfl) rfl (by intro c t e;cases e) (by grind);simp only[CH,List.append_nil] at r1;rw[hc] at r1;unfold gY;rw[r1];rfl
theorem Yp{d n:Int}(hc:fH d e n=true)(doc tg:By):
  (∃c,0<c/\fU d e n none (iJ doc tg)=[(c,0,[]),(3,0,[])]) \/
  (∃ (c:Nat),0<c/\fU d e n none (iJ doc tg)=[(0,0,[]),(c,0,[])]/\gY d e tg=(c,[])) \/
  (∃ (u T:By),fU d e n none (iJ doc tg)=[(0,0,[]),(0,0,T)]/\gY d e tg=(0,u)/\(T.length<=2000->fU d e n none (jV doc tg T)=[(0,0,[]),(0,0,T),(0,0,[]),(0,0,u),(0,0,[91,93])])):=by
 obtain⟨h1,h2,h3,h4⟩:=XK hc;rcases N7 (t:=doc) (d:=d) (x:=e) with⟨c,hr,hpos⟩|⟨v,hr⟩
 ·refine CL ⟨c,hpos,?_⟩;simp only[iJ,fU,Eh hc,hr,gX,Te hc 8 (by omega) (by omega)]
 ·right
  have q5:=Ej hr;have qd:=Mf hr h4;rcases N7 (t:=tg) (d:=d) (x:=e) with⟨c,hp,hpos⟩|⟨p,hp⟩
  ·refine CL ⟨c,hpos,?_,by unfold gY;rw[hp]⟩;have hm:∀i,iU d e n (v,i) tg=(c,0,[]):=fun i=>by unfold iU;rw[hp]
   simp only[iJ,fU,Eh hc,hr,gX,Gf hc,hm]
  ·have q4:=Ej hp;have qb:=Mf hp h4;have hm:∀w i,iU d e n (w,i) tg=(0,0,Br (A9 n top [] w p)):=fun w i=>by unfold iU;rw[hp];rfl
   refine Or.inr ⟨dZ top p,Br (A9 n top [] v p),?_,by unfold gY;rw[hp],fun hl=>?_⟩
   ·simp only[iJ,fU,Eh hc,hr,gX,Gf hc,hm]
   ·have q6:=J4 (n:=n) (B:=200000) (P:=400000) (s:=[]) (by omega) q5 q4 (by omega) (by omega) (by omega) (by show 0+dT top v+dT top p+1001<=400000;omega);have q9:=QY (n:=n) (s:=[]) q5 q4 (fun t ht=>by cases ht);obtain⟨P,q7,hpr⟩:=Vi (d:=d) (x:=e) (B:=200000) h1 (by omega) h3 (by omega) (fun i hi=>⟨(q6 i hi).1,q9 i hi,fun hne=>LD (q6 i hi) (by omega) hne⟩) hl;obtain⟨j,hj⟩:=O8 (x:=e) (n:=n) top [] v [] v p ⟨q5,by omega,by omega⟩ rfl rfl rfl q4 (by omega) 0 [];have q8:∀i,iB d e (v,i) (Br (A9 n top [] v p))=((0,0,[]),(p,some j.reverse)):=fun i=>by
     unfold iB;rw[q7];simp only[hpr,hj];rfl
    have q0:Br (A9 n top [] p p)=[91,93]:=by rw[MW q4];rfl
    simp only[jV,iJ,List.cons_append,CH,fU,Eh hc,hr,gX,Gf hc,hm,Ko hc,q8,Is hc,q0]
end
end Go.Proofs.YtdpomdelmdofmaaGreatDoor
