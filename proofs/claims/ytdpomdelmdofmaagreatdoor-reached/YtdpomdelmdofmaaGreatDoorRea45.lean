import Derived.Test.YtdpomdelmdofmaaGreatDoorRea44
open Go renaming bodyPost_ret->AI,results->AT
open Nat renaming lt_of_lt_of_le->AS,le_refl->CD,le_max_left->CH,le_trans->C1
open Or renaming inl->A6,inr->Bs
open Go.RowKit renaming Below->BY
open Go.RowKit.Below renaming refl->CL
open Go.Proofs.Tryz renaming prog->CR
open Go.World renaming cell?->C2
set_option maxHeartbeats 4000000
set_option maxRecDepth 100000
namespace Go.Proofs.YtdpomdelmdofmaaGreatDoor
open Go.Proofs.Tryz Go.RowKit Go.Maps
variable{w:World}{d e:Int}{v:To}{s t:By}{ks:List By}
theorem Uv{F:Nat->Prop}{v:Value}{dd xx lv:Int}{d e:To}{l:List By}(hg:dY dd xx top lv d)(hl:(dZ top d).length<=80000)(hf:Ah d l=.ok e)(h:H7 F w v e):
  ∃M,Rep M F w v e/\dZ M e=dZ top e/\(dZ M e).length<=80000:=by
 obtain⟨f',q0,h1,h2,h3⟩:=QR l top lv d e hg hf;obtain⟨f,h⟩:=h;refine⟨max f top,h.up (CH _ _),?_,?_⟩
 ·rw[F9 f' _ q0 e h2 (by omega),F9 f' _ q0 e h2 h1]
 ·rw[F9 f' _ q0 e h2 (by omega)];omega
theorem J1:∀ {l:List By} {d:To} {c:Nat},Ah d l=.error c->c=11\/c=12
 | [],d,c,h=>by cases h
 | t::r,d,c,h=>by
  unfold Ah at h;split at h
  ·exact J1 h
  ·rename_i c2 hc;injection h with h;subst h;exact Fe hc
theorem Z8:SM:=by
 intro S d e n p v F s w hn hS hD hT;obtain⟨D,R,wp,rfl,qn⟩:=hD;have qb:BY w.heap.size w (w.alloc (.cells #[.int .i64 0,.int .i64 0,.string ⟨#[]⟩] 46)):=(CL _ _).alloc (CD _) _;have q8:=hT.below (qb.mono hT.ng);have q0:=Ab (Mq hn q8 q8.pesc q8.mx);have qj:=Ab (qn.bel qb);have HS:=Ab (hS.low qb);have HT:=Ab q8;have HA:=Ab (AB.new w);have qf:=Ab qb;have qx:=hT.ng;have qt:=Ab (fun ks (h:fL s=some ks)=>NN h);obtain⟨RR,qi⟩:∃RR,RR=iS v.1 s:=⟨_,rfl⟩
 rw[<- qi];have qg:=Ab qi;clear hT hS qn q8 qb qi
 go_enter func57,ntmps57
 go_wp2_with (fail);refine (Aa q0).mono ?_
 rintro x w1 ⟨he,hb1⟩;have A1:=Ab ((Aa HA).low hb1);have S1:=Ab ((Aa HS).low hb1);have D1:=Ab ((Aa qj).bel hb1);have T1:=Ab ((Aa HT).below (hb1.mono (Aa HT).ng));have q9:=(Aa qf).trans (hb1.mono (Aa qf).size);have q6:=Ab q9;clear hb1 q9 HA HS qj qf HT q0;cases htk:fL s with
 | none=>
  rw[htk] at he;have qv:x=.returned (.tuple #[.slice none 0 0,.bool false]):=he;subst qv;have HE:=Ab (show RR=(9,0,[]) by rw[Aa qg];unfold iS;rw[htk]);clear he htk
  go_wp2_with (fail);refine (Bp 9 _).mono ?_
  rintro x w2 ⟨rfl,hb2⟩;have a2:=(Aa A1).low hb2;have g0:=a2.c0;have g1:=a2.c1;have g2:=a2.c2;have z:=a2.fz;have q7:=Ab ((Aa q6).trans (hb2.mono (Aa q6).size));clear a2 hb2;unfold Ba
  go_wp2_with (fail);refine AI (v:=Ba 9 []) (by simp[AT,results57,go_sem,Ba,g0,g1,g2]) rfl ⟨?_,?_⟩
  ·rw[Aa HE];rfl
  ·exact Au (Au (Au (Aa q7) _ 0 (by omega) _) _ 1 (by omega) _) _ 2 (by omega) _
 | some ks=>
  rw[htk] at he;obtain⟨pv,rfl,qq⟩:=he;have qk:=Ab qq;have qh:=Ab htk;clear qq htk;have d0:=(Aa S1).c3
  go_wp2_with (fail);refine (I1 (Aa D1)).mono ?_
  rintro x w2 ⟨rfl,hb2⟩;have A2:=Ab ((Aa A1).low hb2);have D2:=Ab ((Aa D1).bel hb2);have T2:=Ab ((Aa T1).below (hb2.mono (Aa T1).ng));have P2:=Ab ((Aa qk).bel hb2);have q7:=Ab ((Aa q6).trans (hb2.mono (Aa q6).size));clear hb2 A1 D1 T1 qk q6 d0
  go_wp2_with (fail);have qp:=Aa qt ks (Aa qh)
  refine (Px (F:=F) (d:=v.1) (by grind) (C1 qp.1 hn) (Aa T2).rng ⟨top,(Aa D2).rep⟩ (Aa P2)).mono ?_;rintro x w3 ⟨ho,hb3⟩;have A3:=Ab ((Aa A2).low hb3);have D3:=Ab ((Aa D2).bel hb3);have T3:=Ab ((Aa T2).below (hb3.mono (Aa T2).ng));have qd:=Ab ((Aa q7).trans (hb3.mono (Aa q7).size));clear hb3 A2 D2 T2 P2 q7 qp;cases hfd:Ah v.1 ks with
  | error c=>
   rw[hfd] at ho;have qw:x=.returned (.tuple #[.pointer none,.int .i64 c]):=ho;subst qw;have HE:=Ab (show RR=(c,0,[]) by rw[Aa qg];unfold iS;rw[Aa qh];grind);have qu:c=11\/c=12:=J1 hfd;have e1:((c:Int)==0)=false:=by grind
   have e2:((c:Int) != 0)=true:=by grind
   clear ho hfd qu
   go_wp2_with (fail);refine (Bp c _).mono ?_
   rintro x w4 ⟨rfl,q5⟩;have a2:=(Aa A3).low q5;have g0:=a2.c0;have g1:=a2.c1;have g2:=a2.c2;have z:=a2.fz;have qe:=Ab ((Aa qd).trans (q5.mono (Aa qd).size));clear a2 q5;unfold Ba
   go_wp2_with (fail);refine AI (v:=Ba c []) (by simp[AT,results57,go_sem,Ba,g0,g1,g2]) rfl ⟨?_,?_⟩
   ·rw[Aa HE];rfl
   ·exact Au (Au (Au (Aa qe) _ 0 (by omega) _) _ 1 (by omega) _) _ 2 (by omega) _
  | ok y=>
   rw[hfd] at ho;obtain⟨yv,rfl,hy⟩:=ho;have HE:=Ab (show RR=(0,0,dZ top y) by rw[Aa qg];unfold iS;rw[Aa qh];grind);have qo:=(Aa D3).gd;obtain⟨M,hM,qm,qr⟩:=Uv qo (Aa D3).len hfd hy;have q4:=Ab (C9 hM (Aa T3) (by omega));rw[qm] at q4;clear hfd hy qo hM qm qr
   go_wp2_with (fail);refine (Aa q4).mono ?_
   rintro x w4 ⟨rfl,q5⟩;have a2:=(Aa A3).low q5;have g0:=a2.c0;have g1:=a2.c1;have g2:=a2.c2;have z:=a2.fz;have qe:=Ab ((Aa qd).trans (q5.mono (Aa qd).size));clear a2 q5 q4
   go_wp2_with (fail);refine AI (v:=Ba 0 (dZ top y)) (by simp[AT,results57,go_sem,Ba,g0,g1,g2]) rfl ⟨?_,?_⟩
   ·rw[Aa HE];rfl
   ·exact Au (Au (Au (Aa qe) _ 0 (by omega) _) _ 1 (by omega) _) _ 2 (by omega) _
theorem VF(h:fL s=none):iH d e v s t=9:=by unfold iH;rw[h]
theorem X2{c:Nat}(h:fL s=some ks)(h2:eH t d e=(c,none)):iH d e v s t=c:=by unfold iH;grind
theorem X1{x:To}{c:Nat}(h:fL s=some ks)(h2:eH t d e=(0,some x))(h3:Ah v ks=.error c):iH d e v s t=c:=by unfold iH;grind
theorem ZC{x y:To}(h:fL s=some ks)(h2:eH t d e=(0,some x))(h3:Ah v ks=.ok y):iH d e v s t=if veq y x=true then 0 else 14:=by unfold iH;grind
theorem VN{f:Nat}{F F':Nat->Prop}{v v':Value}{a b:To}(h:Rep f F w v a)(h':Rep top F' w v' b):Calls CR 82 #[v,v'] w fun e w'=>e=.returned (.bool (veq a b))/\BY w.heap.size w w':=
 ES (max f top) F F' w v v' a b (h.up (CH _ _)) (h'.up (Nat.le_max_right _ _))
theorem X9:Pr:=by
 intro S d e n p v F s t w hn hS hD hT;obtain⟨D,R,wp,rfl,qu⟩:=hD;have qg:BY w.heap.size w (w.alloc (.cells #[.int .i64 0,.int .i64 0,.string ⟨#[]⟩] 46)):=(CL _ _).alloc (CD _) _;have qd:=hT.below (qg.mono hT.ng);have q5:=Ab (Mq hn qd qd.pesc qd.mx);have qq:=Ab (qu.bel qg);have HS:=Ab (hS.low qg);have HT:=Ab qd;have HA:=Ab (AB.new w);have qm:=Ab qg;have z8:=hT.ng;have qy:=Ab (fun ks (h:fL s=some ks)=>NN h);obtain⟨RR,qo⟩:∃RR,RR=iH d e v.1 s t:=⟨_,rfl⟩
 rw[<- qo];have qj:=Ab qo;clear hT hS qu qd qg qo
 go_enter func58,ntmps58
 go_wp2_with (fail);refine (Aa q5).mono ?_
 rintro x w1 ⟨he,hb1⟩;have A1:=Ab ((Aa HA).low hb1);have S1:=Ab ((Aa HS).low hb1);have D1:=Ab ((Aa qq).bel hb1);have T1:=Ab ((Aa HT).below (hb1.mono (Aa HT).ng));have qe:=(Aa qm).trans (hb1.mono (Aa qm).size);have q7:=Ab qe;clear hb1 qe HA HS qq qm HT q5;cases htk:fL s with
 | none=>
  rw[htk] at he;have z6:x=.returned (.tuple #[.slice none 0 0,.bool false]):=he;subst z6;have HE:=Ab (show RR=9 by rw[Aa qj,VF htk]);clear he htk
  go_wp2_with (fail);refine (Bp 9 _).mono ?_
  rintro x w2 ⟨rfl,hb2⟩;have a2:=(Aa A1).low hb2;have g0:=a2.c0;have g1:=a2.c1;have g2:=a2.c2;have z:=a2.fz;have q6:=Ab ((Aa q7).trans (hb2.mono (Aa q7).size));clear a2 hb2;unfold Ba
  go_wp2_with (fail);refine AI (v:=Ba 9 []) (by simp[AT,results58,go_sem,Ba,g0,g1,g2]) rfl ⟨?_,?_⟩
  ·rw[Aa HE];rfl
  ·exact Au (Au (Au (Aa q6) _ 0 (by omega) _) _ 1 (by omega) _) _ 2 (by omega) _
 | some ks=>
  rw[htk] at he;obtain⟨pv,rfl,qw⟩:=he;have qr:=Ab qw;have qk:=Ab htk;clear qw htk
  go_wp2_with (fail);refine (Tg t (Aa S1) (Aa T1)).mono ?_
  rintro x w2 ⟨p2,c,rfl,hb2,z1⟩;have A2:=Ab ((Aa A1).low hb2);have S2:=Ab ((Aa S1).low hb2);have D2:=Ab ((Aa D1).bel hb2);have T2:=Ab ((Aa T1).below (hb2.mono (Aa T1).ng));have P2:=Ab ((Aa qr).bel hb2);have q6:=Ab ((Aa q7).trans (hb2.mono (Aa q7).size));clear hb2 A1 D1 T1 S1 qr q7;rcases z1 with⟨hpos,qh⟩|⟨rfl,xv,qh,qi⟩
  ·have HE:=Ab (show RR=c by rw[Aa qj,X2 (Aa qk) qh]);have e0:((c:Int) != 0)=true:=by simp;omega
   clear qh hpos
   go_wp2_with (fail);refine (Bp c _).mono ?_
   rintro x w3 ⟨rfl,hb3⟩;have a2:=(Aa A2).low hb3;have g0:=a2.c0;have g1:=a2.c1;have g2:=a2.c2;have z:=a2.fz;have q8:=Ab ((Aa q6).trans (hb3.mono (Aa q6).size));clear a2 hb3;unfold Ba
   go_wp2_with (fail);refine AI (v:=Ba c []) (by simp[AT,results58,go_sem,Ba,g0,g1,g2]) rfl ⟨?_,?_⟩
   ·rw[Aa HE];rfl
   ·exact Au (Au (Au (Aa q8) _ 0 (by omega) _) _ 1 (by omega) _) _ 2 (by omega) _
  have qt:=Ab qh;have HX:=Ab qi;clear qh qi;have d0:=(Aa S2).c3
  go_wp2_with (fail);refine (I1 (Aa D2)).mono ?_
  rintro x w3 ⟨rfl,hb3⟩;have A3:=Ab ((Aa A2).low hb3);have D3:=Ab ((Aa D2).bel hb3);have T3:=Ab ((Aa T2).below (hb3.mono (Aa T2).ng));have P3:=Ab ((Aa P2).bel hb3);have X3:=Ab ((Aa HX).bel hb3);have q8:=Ab ((Aa q6).trans (hb3.mono (Aa q6).size));clear hb3 A2 D2 T2 P2 HX q6 d0 S2
  go_wp2_with (fail);have qv:=Aa qy ks (Aa qk)
  refine (Px (F:=F) (d:=v.1) (by grind) (C1 qv.1 hn) (Aa T3).rng ⟨top,(Aa D3).rep⟩ (Aa P3)).mono ?_;rintro x w4 ⟨ho,qf⟩;have A4:=Ab ((Aa A3).low qf);have T4:=Ab ((Aa T3).below (qf.mono (Aa T3).ng));have X4:=Ab ((Aa X3).bel qf);have q9:=Ab ((Aa q8).trans (qf.mono (Aa q8).size));clear qf A3 D3 T3 P3 q8 X3 qv;cases hfd:Ah v.1 ks with
  | error c=>
   rw[hfd] at ho;have z7:x=.returned (.tuple #[.pointer none,.int .i64 c]):=ho;subst z7;have HE:=Ab (show RR=c by rw[Aa qj,X1 (Aa qk) (Aa qt) hfd]);have qz:c=11\/c=12:=J1 hfd;have e1:((c:Int)==0)=false:=by grind
   have e2:((c:Int) != 0)=true:=by grind
   clear ho hfd qz
   go_wp2_with (fail);refine (Bp c _).mono ?_
   rintro x w5 ⟨rfl,q4⟩;have a2:=(Aa A4).low q4;have g0:=a2.c0;have g1:=a2.c1;have g2:=a2.c2;have z:=a2.fz;have qb:=Ab ((Aa q9).trans (q4.mono (Aa q9).size));clear a2 q4;unfold Ba
   go_wp2_with (fail);refine AI (v:=Ba c []) (by simp[AT,results58,go_sem,Ba,g0,g1,g2]) rfl ⟨?_,?_⟩
   ·rw[Aa HE];rfl
   ·exact Au (Au (Au (Aa qb) _ 0 (by omega) _) _ 1 (by omega) _) _ 2 (by omega) _
  | ok y=>
   rw[hfd] at ho;obtain⟨yv,rfl,f,hy⟩:=ho;have HE:=Ab (show RR=if veq y xv=true then 0 else 14 by rw[Aa qj,ZC (Aa qk) (Aa qt) hfd]);have q0:=Ab (VN hy (Aa X4));clear hfd hy
   go_wp2_with (fail);refine (Aa q0).mono ?_
   rintro x w5 ⟨rfl,q4⟩;have A5:=Ab ((Aa A4).low q4);have qb:=Ab ((Aa q9).trans (q4.mono (Aa q9).size));have T5:=Ab ((Aa T4).below (q4.mono (Aa T4).ng));clear q4 A4 q9 T4 q0 X4;cases hq:veq y xv with
   | false=>
    have qn:=Ab (show RR=14 by rw[Aa HE,hq,if_neg (by decide)]);clear hq HE
    go_wp2_with (fail);refine (Bp 14 _).mono ?_
    rintro x w6 ⟨rfl,qp⟩;have a2:=(Aa A5).low qp;have g0:=a2.c0;have g1:=a2.c1;have g2:=a2.c2;have z:=a2.fz;have qx:=Ab ((Aa qb).trans (qp.mono (Aa qb).size));clear a2 qp;unfold Ba
    go_wp2_with (fail);refine AI (v:=Ba 14 []) (by simp[AT,results58,go_sem,Ba,g0,g1,g2]) rfl ⟨?_,?_⟩
    ·rw[Aa qn];rfl
    ·exact Au (Au (Au (Aa qx) _ 0 (by omega) _) _ 1 (by omega) _) _ 2 (by omega) _
   | true=>
    have qn:=Ab (show RR=0 by rw[Aa HE,hq,if_pos rfl]);clear hq HE;have a2:=Aa A5;have g0:=a2.c0;have g1:=a2.c1;have g2:=a2.c2;have z:=a2.fz;clear a2
    go_wp2_with (fail);refine AI (v:=Ba 0 []) (by simp[AT,results58,go_sem,Ba,g0,g1,g2]) rfl ⟨?_,?_⟩
    ·rw[Aa qn];rfl
    ·exact Au (Au (Au (Aa qb) _ 0 (by omega) _) _ 1 (by omega) _) _ 2 (by omega) _
def Fi:Array Value:=#[.int .i64 1,.string ⟨#[91,49,44,50,93]⟩,.string ⟨#[]⟩,.int .i64 5,.string ⟨#[91,123,34,111,112,34,58,34,97,100,100,34,44,34,112,97,116,104,34,58,34,47,49,34,44,34,118,97,108,117,101,34,58,57,125,93]⟩,.string ⟨#[]⟩,.int .i64 2,.string ⟨#[]⟩,.string ⟨#[]⟩,.int .i64 7,.string ⟨#[]⟩,.string ⟨#[]⟩,.int .i64 3,.string ⟨#[47,49]⟩,.string ⟨#[]⟩]
theorem N2{g:Nat}(h:w.heap[g]? = some (.cells Fi 49 (0,0))):Scr w g 0 eV:=by
 intro i hi;have hc:∀j,w.cell? ⟨g,j,none⟩=Fi[j]?:=fun j=>by simp[C2,h]
 rw[hc,hc,hc]
 match i,hi with
 | 0,_=>exact⟨rfl,rfl,rfl⟩
 | 1,_=>exact⟨rfl,rfl,rfl⟩
 | 2,_=>exact⟨rfl,rfl,rfl⟩
 | 3,_=>exact⟨rfl,rfl,rfl⟩
 | 4,_=>exact⟨rfl,rfl,rfl⟩
theorem Ly:Plain eV:=by
 intro o ho;simp only[eV,List.mem_cons,List.not_mem_nil,or_false] at ho;rcases ho with rfl|rfl|rfl|rfl|rfl
 ·exact A6 (A6 (by decide))
 ·exact Bs (Bs (A6 ⟨rfl,Oh⟩))
 ·exact A6 (A6 (by decide))
 ·exact Bs (Bs (Bs (Bs (A6 ⟨rfl,Ui⟩))))
 ·exact Bs (A6 ⟨A6 rfl,Z8,X9,by decide⟩)
theorem Og(w:World)(hT:Ai w):Calls CR 25 #[] w fun x w'=>x=.returned (.bool true)/\BY w.heap.size w w':=by
 have HT:=Ab hT;have zb:=hT.ng;clear hT
 go_enter func25,ntmps25
 go_wp2_with (fail);refine (Bf 1 _ _ _).mono ?_
 rintro x w1 ⟨rfl,hb1⟩
 go_wp2_with (fail);refine (Bf 5 _ _ _).mono ?_
 rintro x w2 ⟨rfl,hb2⟩
 go_wp2_with (fail);refine (Bf 2 _ _ _).mono ?_
 rintro x w3 ⟨rfl,hb3⟩
 go_wp2_with (fail);refine (Bf 7 _ _ _).mono ?_
 rintro x w4 ⟨rfl,z7⟩
 go_wp2_with (fail);refine (Bf 3 _ _ _).mono ?_
 rintro x w5 ⟨rfl,qx⟩;have g1:BY w.heap.size w w1:=hb1;have g2:BY w.heap.size w w2:=g1.trans (hb2.mono g1.size);have g3:BY w.heap.size w w3:=g2.trans (hb3.mono g2.size);have g4:BY w.heap.size w w4:=g3.trans (z7.mono g3.size);have g5:BY w.heap.size w w5:=g4.trans (qx.mono g4.size);have za:=Ab g5;have zc:=g5.size;clear hb1 g1 hb2 g2 hb3 g3 z7 g4 qx g5
 go_wp2_with (fail);have qx:BY w.heap.size w (w5.alloc (.cells Fi 49)):=(Aa za).alloc zc _
 refine (Hz (d:=3) (e:=9) (n:=100) (sb:=w5.heap.size) (so:=0) (m:=5) (cap:=5) (l:=eV) (N2 (C3 w5 _ _ rfl)) Ly rfl (by omega) (by omega) (by omega) (by simp) ((Aa HT).below (qx.mono zb))).mono ?_;rintro x v0 ⟨A,cs,rfl,hA,z1,qz,z8⟩;rw[ZI] at qz;obtain⟨hsz,hc⟩:=qz;have q5:∀j,v0.cell? ⟨A,j,none⟩=cs[j]?:=fun j=>by simp[C2,z1]
 have q0:=hc 0 (by simp);have q1:=hc 1 (by simp);have q2:=hc 2 (by simp);have q3:=hc 3 (by simp);have q4:=hc 4 (by simp);simp only[List.getElem_cons_zero,List.getElem_cons_succ] at q0 q1 q2 q3 q4;have qn:=(q5 3).trans q1.1;have qo:=(q5 4).trans q1.2.1;have qp:=(q5 5).trans q1.2.2;have q7:=(q5 6).trans q2.1;have q8:=(q5 7).trans q2.2.1;have q9:=(q5 8).trans q2.2.2;have qb:=(q5 9).trans q3.1;have qd:=(q5 12).trans q4.1;have qe:=(q5 13).trans q4.2.1;have qf:=(q5 14).trans q4.2.2;have HB:=Ab (qx.trans (z8.mono qx.size));have qm:A<v0.heap.size:=by grind
 clear q0 q1 q2 q3 q4 hc q5 z1 hsz qx z8
 go_wp2_with (fail);refine (FJ [] v0).mono ?_
 rintro x v1 ⟨rfl,q6⟩;have qq:=(q6.cell (p:=⟨A,6,none⟩) qm).trans q7;have qr:=(q6.cell (p:=⟨A,7,none⟩) qm).trans q8;have qt:=(q6.cell (p:=⟨A,8,none⟩) qm).trans q9;have qg:=(q6.cell (p:=⟨A,9,none⟩) qm).trans qb;have qh:=(q6.cell (p:=⟨A,12,none⟩) qm).trans qd;have qi:=(q6.cell (p:=⟨A,13,none⟩) qm).trans qe;have qj:=(q6.cell (p:=⟨A,14,none⟩) qm).trans qf;have HB:=Ab ((Aa HB).trans (q6.mono (Aa HB).size));have qy:A<v1.heap.size:=AS qm q6.size;clear qn qo qp q7 q8 q9 qb qd qe qf q6
 go_wp2_with (fail);refine (FJ kE v1).mono ?_
 rintro x v2 ⟨rfl,q6⟩;have qk:=(q6.cell (p:=⟨A,9,none⟩) qy).trans qg;have qu:=(q6.cell (p:=⟨A,12,none⟩) qy).trans qh;have qv:=(q6.cell (p:=⟨A,13,none⟩) qy).trans qi;have qw:=(q6.cell (p:=⟨A,14,none⟩) qy).trans qj;have HB:=Ab ((Aa HB).trans (q6.mono (Aa HB).size));have hA2:A<v2.heap.size:=AS qy q6.size;clear qq qr qt qg qh qi qj q6
 go_wp2_with (fail);refine (FJ [57] v2).mono ?_
 rintro x v3 ⟨rfl,q6⟩;have z6:=(q6.cell (p:=⟨A,9,none⟩) hA2).trans qk;have HB:=Ab ((Aa HB).trans (q6.mono (Aa HB).size));have ze:A<v3.heap.size:=AS hA2 q6.size;clear qk qu qv qw q6
 go_wp2_with (fail)
 go_ret;exact⟨rfl,Aa HB⟩
theorem R6(s t:By):SN (5,s,t):=Bs (Bs (A6 ⟨rfl,Oh⟩))
theorem Xo(a b c:Int)(q0:-9223372036854775808<=a)(q4:a<=9223372036854775807)(q5:-9223372036854775808<=b)(hb1:b<=9223372036854775807)(q6:-9223372036854775808<=c)(q7:c<=9223372036854775807)(w:World):
  Calls CR 18 #[.int .i64 a,.int .i64 b,.int .i64 c] w fun x w'=>(∃ (d e n:Int),fH d e n=true/\x=.returned (.agg #[.int .i64 d,.int .i64 e,.int .i64 n]))/\BY w.heap.size w w':=by
 go_enter func18,ntmps18
 go_wp2_with (fail);refine (JO a 20 q0 q4 (by omega) (by omega) _).mono ?_
 rintro x w1 ⟨⟨d,hd,rfl⟩,rfl⟩
 go_wp2_with (fail);refine (JO b 401 q5 hb1 (by omega) (by omega) _).mono ?_
 rintro x w1 ⟨⟨e,he,rfl⟩,rfl⟩
 go_wp2_with (fail);refine (JO c 2001 q6 q7 (by omega) (by omega) _).mono ?_
 rintro x w1 ⟨⟨n,hn,rfl⟩,rfl⟩
 go_wp2_with (fail);refine AI (v:=.agg #[.int .i64 ((d+1:Nat):Int),.int .i64 e,.int .i64 n]) (by simp[AT,results18,go_sem];omega) rfl ⟨⟨_,_,_,?_,rfl⟩,?_⟩
 ·simp[fH,gN];omega
 ·exact (CL _ w).alloc (CD _) _
def iG:By:=[123,34,97,34,58,49,125]
def gU:By:=[123,34,98,34,58,50,125]
def kG:By:=[123,34,97,34,58,49,44,34,98,34,58,50,125]
def jO:By:=[123,125]
def m6:By:=[123,34,99,34,58,110,117,108,108,125]
def kH:To:=Ap [(.string [97],Bd (false,[49],0))]
def kQ:To:=Ap [(.string [98],Bd (false,[50],0))]
def iO:To:=Ap [(.string [97],Bd (false,[49],0)),(.string [98],Bd (false,[50],0))]
def jP:List dX:=[(1,[[98]],.nil)]
def jW:To:=Ap []
def kR:To:=Ap [(.string [99],AF 0)]
def kI:To:=Ap [(.string [97],AF 0),(.string [98],AF 0)]
def gJ:List St:=[(1,iG,[]),(6,gU,[]),(2,[],[]),(8,jO,[]),(9,m6,[]),(9,jO,[])]
theorem Yu:eH iG 3 9=(0,some kH):=by kernel_rfl
theorem Yt:eH gU 3 9=(0,some kQ):=by kernel_rfl
theorem dO:eH jO 3 9=(0,some jW):=by kernel_rfl
theorem dN:eH m6 3 9=(0,some kR):=by kernel_rfl
theorem ZY:eC top (some kH) [] kQ=(iO,jP):=by kernel_rfl
theorem Vg:dZ top iO=kG:=by
 show dZ (2000+1) (Ap [(.string [97],Bd (false,[49],0)),(.string [98],Bd (false,[50],0))])=_;rw[GX,JM (by decide) (by simp)];rfl
theorem dR:fW top iO jW=some kI:=by kernel_rfl
theorem dQ:fW top iO kR=none:=by kernel_rfl
theorem ZJ:fU 3 9 100 none gJ=[(0,0,[]),(0,0,[]),(0,0,kG),(0,0,Br (A9 100 top [] iO jW)),(15,0,[]),(0,0,dZ top kI)]:=by
 have hc:fH 3 9 100=true:=by decide
 have h6:iM 3 9 (kH,none) gU=((0,0,[]),(iO,some jP.reverse)):=by
  unfold iM;rw[Yt];simp only;unfold iK;rw[ZY];simp only;rw[Vg,if_neg (by decide)]
 have h8:iU 3 9 100 (iO,some jP.reverse) jO=(0,0,Br (A9 100 top [] iO jW)):=by
  rfl
 have h9:jI 3 9 (iO,some jP.reverse) m6=(15,0,[]):=by
  rfl
 have q0:jI 3 9 (iO,some jP.reverse) jO=(0,0,dZ top kI):=by
  rfl
 simp only[gJ,fU,Eh hc,Yu,gX,Rn hc,h6,Is hc,Vg,Gf hc,h8,Ro hc,h9,q0]
end Go.Proofs.YtdpomdelmdofmaaGreatDoor
