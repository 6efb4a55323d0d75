import Derived.Test.YtdpomdelmdofmaaGreatDoorRea45
import Derived.Test.YtdpomdelmdofmaaGreatDoorRea48
open Or renaming inr->AI,inl->BY
open Go renaming undef->AS,wpOp_step->A3
open Array renaming getElem?_eq_some_iff->AT
open Go.RowKit.Below renaming refl->A1
open Nat renaming lt_of_lt_of_le->A4,le_refl->CR
open Go.RowKit renaming Below->A5
open List renaming getElem_cons_zero->A6,getElem_cons_succ->Bs,not_mem_nil->CH,mem_cons->CL
open Go.World renaming cell?->CD
open Option.some renaming inj->C1
open Go.Proofs.Tryz renaming prog->C2
set_option maxRecDepth 100000
set_option maxHeartbeats 8000000
namespace Go.Proofs.YtdpomdelmdofmaaGreatDoor
open Go.Proofs.Tryz Go.RowKit Go.Maps
def FO:Array Value:=#[.int .i64 1,.string ⟨#[123,34,97,34,58,49,125]⟩,.string ⟨#[]⟩,.int .i64 6,.string ⟨#[123,34,98,34,58,50,125]⟩,.string ⟨#[]⟩,.int .i64 2,.string ⟨#[]⟩,.string ⟨#[]⟩,.int .i64 8,.string ⟨#[123,125]⟩,.string ⟨#[]⟩,.int .i64 9,.string ⟨#[123,34,99,34,58,110,117,108,108,125]⟩,.string ⟨#[]⟩,.int .i64 9,.string ⟨#[123,125]⟩,.string ⟨#[]⟩]
theorem PF{w:World}{g:Nat}(h:w.heap[g]? = some (.cells FO 49 (0,0))):Scr w g 0 gJ:=by
 intro i hi;have hc:∀j,w.cell? ⟨g,j,none⟩=FO[j]?:=fun j=>by simp[CD,h]
 rw[hc,hc,hc]
 match i,hi with
 | 0,_=>exact⟨rfl,rfl,rfl⟩
 | 1,_=>exact⟨rfl,rfl,rfl⟩
 | 2,_=>exact⟨rfl,rfl,rfl⟩
 | 3,_=>exact⟨rfl,rfl,rfl⟩
 | 4,_=>exact⟨rfl,rfl,rfl⟩
 | 5,_=>exact⟨rfl,rfl,rfl⟩
theorem Nl:Plain gJ:=by
 intro o ho;simp only[gJ,CL,CH,or_false] at ho;rcases ho with rfl|rfl|rfl|rfl|rfl|rfl
 ·exact BY (BY (by decide))
 ·exact AI (AI (AI (BY ⟨rfl,Wh⟩)))
 ·exact BY (BY (by decide))
 ·exact AI (AI (AI (AI (AI (BY ⟨rfl,LJ⟩)))))
 ·exact AI (AI (AI (AI (AI (AI ⟨rfl,II⟩)))))
 ·exact AI (AI (AI (AI (AI (AI ⟨rfl,II⟩)))))
theorem PK(w:World)(hT:Ai w):Calls C2 27 #[] w fun x w'=>x=.returned (.bool true)/\A5 w.heap.size w w':=by
 have HT:=Ab hT;have z7:=hT.ng;clear hT
 go_enter func27,ntmps27
 go_wp2_with (fail);refine (Bf 1 _ _ _).mono ?_
 rintro x w1 ⟨rfl,hb1⟩
 go_wp2_with (fail);refine (Bf 6 _ _ _).mono ?_
 rintro x w2 ⟨rfl,hb2⟩
 go_wp2_with (fail);refine (Bf 2 _ _ _).mono ?_
 rintro x w3 ⟨rfl,hb3⟩
 go_wp2_with (fail);refine (Bf 8 _ _ _).mono ?_
 rintro x w4 ⟨rfl,z1⟩
 go_wp2_with (fail);refine (Bf 9 _ _ _).mono ?_
 rintro x w5 ⟨rfl,qr⟩
 go_wp2_with (fail);refine (Bf 9 _ _ _).mono ?_
 rintro x w6 ⟨rfl,qv⟩;have g1:A5 w.heap.size w w1:=hb1;have g2:A5 w.heap.size w w2:=g1.trans (hb2.mono g1.size);have g3:A5 w.heap.size w w3:=g2.trans (hb3.mono g2.size);have g4:A5 w.heap.size w w4:=g3.trans (z1.mono g3.size);have g5:A5 w.heap.size w w5:=g4.trans (qr.mono g4.size);have g6:A5 w.heap.size w w6:=g5.trans (qv.mono g5.size);have z6:=Ab g6;have z8:=g6.size;clear hb1 g1 hb2 g2 hb3 g3 z1 g4 qr g5 qv g6
 go_wp2_with (fail);have qr:A5 w.heap.size w (w6.alloc (.cells FO 49)):=(Aa z6).alloc z8 _
 refine (Hz (d:=3) (e:=9) (n:=100) (sb:=w6.heap.size) (so:=0) (m:=6) (cap:=6) (l:=gJ) (PF (C3 w6 _ _ rfl)) Nl rfl (by omega) (by omega) (by omega) (by simp) ((Aa HT).below (qr.mono z7))).mono ?_;rintro x v0 ⟨A,cs,rfl,hA,qt,qu,qv⟩;rw[ZJ] at qu;obtain⟨hsz,hc⟩:=qu;have q6:∀j,v0.cell? ⟨A,j,none⟩=cs[j]?:=fun j=>by simp[CD,qt]
 have q0:=hc 0 (by simp);have q1:=hc 1 (by simp);have q2:=hc 2 (by simp);have q3:=hc 3 (by simp);have q4:=hc 4 (by simp);have q5:=hc 5 (by simp);simp only[A6,Bs] at q0 q1 q2 q3 q4 q5;have qj:=(q6 3).trans q1.1;have qk:=(q6 4).trans q1.2.1;have qm:=(q6 5).trans q1.2.2;have q8:=(q6 6).trans q2.1;have q9:=(q6 7).trans q2.2.1;have qb:=(q6 8).trans q2.2.2;have qd:=(q6 9).trans q3.1;have qe:=(q6 12).trans q4.1;have qf:=(q6 15).trans q5.1;have HB:=Ab (qr.trans (qv.mono qr.size));have qq:A<v0.heap.size:=(AT.1 qt).1;clear q0 q1 q2 q3 q4 q5 hc q6 qt hsz qr qv
 go_wp2_with (fail);refine (FJ [] v0).mono ?_
 rintro x v1 ⟨rfl,q7⟩;have qn:=(q7.cell (p:=⟨A,6,none⟩) qq).trans q8;have qo:=(q7.cell (p:=⟨A,7,none⟩) qq).trans q9;have qp:=(q7.cell (p:=⟨A,8,none⟩) qq).trans qb;have qg:=(q7.cell (p:=⟨A,9,none⟩) qq).trans qd;have qh:=(q7.cell (p:=⟨A,12,none⟩) qq).trans qe;have qi:=(q7.cell (p:=⟨A,15,none⟩) qq).trans qf;have HB:=Ab ((Aa HB).trans (q7.mono (Aa HB).size));have qw:A<v1.heap.size:=A4 qq q7.size;clear qj qk qm q8 q9 qb qd qe qf q7
 go_wp2_with (fail);refine (FJ kG v1).mono ?_
 rintro x v2 ⟨rfl,q7⟩;have qx:=(q7.cell (p:=⟨A,9,none⟩) qw).trans qg;have qy:=(q7.cell (p:=⟨A,12,none⟩) qw).trans qh;have qz:=(q7.cell (p:=⟨A,15,none⟩) qw).trans qi;have HB:=Ab ((Aa HB).trans (q7.mono (Aa HB).size));have hA2:A<v2.heap.size:=A4 qw q7.size;clear qn qo qp qg qh qi q7
 go_wp2_with (fail)
 go_ret;exact⟨rfl,Aa HB⟩
theorem Ml(t p:By):Plain (iJ t p):=by
 intro o ho;simp only[iJ,CL,CH,or_false] at ho;rcases ho with rfl|rfl
 ·exact BY (BY (show (1:Int)<3 by decide))
 ·exact AI (AI (AI (AI (AI (BY ⟨rfl,LJ⟩)))))
theorem TA(t p u:By):Plain (jV t p u):=by
 intro o ho;rcases List.mem_append.1 ho with ho|ho
 ·exact Ml t p o ho
 ·simp only[CL,CH,or_false] at ho;rcases ho with rfl|rfl|rfl
  ·exact R6 _ _
  ·exact BY (BY (show (2:Int)<3 by decide))
  ·exact AI (AI (AI (AI (AI (BY ⟨rfl,LJ⟩)))))
theorem P9{a b:Int}(yj:-9223372036854775808<=a)(yk:a<=9223372036854775807)(yl:-9223372036854775808<=b)(hb1:b<=9223372036854775807)(tb pb:ByteArray)(w:World)(hT:Ai w):
  Calls C2 12 #[.int .i64 a,.int .i64 b,.string tb,.string pb] w fun x w'=>x=.returned (.bool true)/\A5 w.heap.size w w':=by
 obtain⟨t,rfl⟩:∃t:By,tb=⟨t.toArray⟩:=⟨tb.data.toList,by simp⟩
 obtain⟨p,rfl⟩:∃p:By,pb=⟨p.toArray⟩:=⟨pb.data.toList,by simp⟩
 have HT:=Ab hT;have zb:=hT.ng;clear hT
 go_enter func12,ntmps12
 go_wp2_with (fail);refine (PK w (Aa HT)).mono ?_
 rintro x w0 ⟨rfl,qy⟩;have zc:=Ab qy;clear qy
 go_wp2_with (fail);refine (Og w0 ((Aa HT).below ((Aa zc).mono zb))).mono ?_
 rintro x w1 ⟨rfl,qz⟩;have zn:=Ab ((Aa zc).trans (qz.mono (Aa zc).size));clear qz zc
 go_wp2_with (fail);refine (Xo a 400 b yj yk (by omega) (by omega) yl hb1 w1).mono ?_
 rintro x w2 ⟨⟨d,e,n,hc,rfl⟩,hb2⟩;have HC:=Ab hc;have zo:=Ab ((Aa zn).trans (hb2.mono (Aa zn).size));clear hb2 hc zn
 go_upto_region 4 with (fail)
 obtain⟨wb,zk⟩:∃wb,wb=w2.alloc (.cells #[.int .i64 d,.int .i64 e,.int .i64 n] 23):=⟨_,rfl⟩
 rw[<- zk];have hz:wb.heap[w2.heap.size]? = some (.cells #[.int .i64 d,.int .i64 e,.int .i64 n] 23 (0,0)):=by rw[zk];exact heap_alloc_new w2 _
 have qu:w2.heap.size<wb.heap.size:=(AT.1 hz).1;obtain⟨Z,hZ⟩:∃Z,Z=w2.heap.size:=⟨_,rfl⟩
 rw[<- hZ] at hz qu |-;have yb:A5 w.heap.size w wb:=by rw[zk];exact (Aa zo).alloc (Aa zo).size _
 have HZ:=Ab (show Z<wb.heap.size /\ ∀w0,A5 wb.heap.size wb w0->w0.cell? ⟨Z,0,none⟩=some (.int .i64 d)/\w0.cell? ⟨Z,1,none⟩=some (.int .i64 e)/\w0.cell? ⟨Z,2,none⟩=some (.int .i64 n) from⟨qu,fun w0 hb=>by
  have h1:=(hb.block Z qu).trans hz;refine⟨?_,?_,?_⟩<;>simp[CD,h1]⟩)
 have qd:=Ab yb;clear hz qu zk yb zo hZ
 go_wp2_with (fail);refine (Bf 1 _ _ _).mono ?_
 rintro x w3 ⟨rfl,hb3⟩
 go_wp2_with (fail);refine (Bf 8 _ _ _).mono ?_
 rintro x w4 ⟨rfl,ya⟩;have ze:=Ab (show A5 wb.heap.size wb w4 from hb3.trans (ya.mono hb3.size));clear hb3 ya
 go_upto_region 5 with (fail)
 obtain⟨w5,zj⟩:∃w5,w5=w4.alloc (.cells #[.int .i64 1,.string ⟨t.toArray⟩,.string ⟨#[]⟩,.int .i64 8,.string ⟨p.toArray⟩,.string ⟨#[]⟩] 49):=⟨_,rfl⟩
 have qq:Own w5 wb.heap.size (.slice (some ⟨w4.heap.size,0,none⟩) 2 2) 2 (iJ t p):=by rw[zj];exact Own.new (Aa ze).size rfl (by decide) rfl
 have zt:A5 wb.heap.size wb w5:=by rw[zj];exact (Aa ze).alloc (Aa ze).size _
 rw[<- zj];obtain⟨g1,yc⟩:∃g1,g1=w4.heap.size:=⟨_,rfl⟩
 rw[<- yc] at qq |-;have qo:=Ab qq;have zf:=Ab zt;obtain⟨z0,z1,z2⟩:=(Aa HZ).2 w5 zt;clear qq zt ze zj yc
 go_wp2_with (fail);refine (Own.run (d:=d) (e:=e) (n:=n) (Aa qo) (Ml t p) (by decide) (by decide) ((Aa HT).below (((Aa qd).trans ((Aa zf).mono (Aa qd).size)).mono zb))).mono ?_
 rintro x w6 ⟨A,cs,rfl,hA,qr,zs,zu⟩;have qk:A<w6.heap.size:=(AT.1 qr).1;obtain⟨hsz,zi⟩:=zs;have qb:∀j,w6.cell? ⟨A,j,none⟩=cs[j]?:=fun j=>by simp[CD,qr]
 have qn:=Ab ((Aa zf).trans (zu.mono (Aa zf).size));have y3:=Ab ((Aa qo).bel zu);obtain⟨z0,z1,z2⟩:=(Aa HZ).2 w6 (Aa qn);have HD:=Ab (KY (Aa HC) ⟨p.toArray⟩ w6 ((Aa HT).below (((Aa qd).trans ((Aa qn).mono (Aa qd).size)).mono zb)));have yq:=Yp (Aa HC) t p;have hpp:(⟨p.toArray⟩:ByteArray).data.toList=p:=rfl;rw[hpp] at HD;clear zu zf qo hpp;have y8:∀w9,A5 w6.heap.size w6 w9->A5 w.heap.size w w9:=fun w9 h=>(Aa qd).trans (((Aa qn).trans (h.mono (Aa qn).size)).mono (Aa qd).size);have zm:=Ab y8;clear y8;rcases yq with⟨c,hpos,qh⟩|⟨c,hpos,qh,qi⟩|⟨u,z,qh,qi,qm⟩;all_goals (
  rw[qh] at zi;have q0:=zi 0 (by simp);have q1:=zi 1 (by simp);simp only[A6,Bs] at q0 q1;have qt:=(qb 0).trans q0.1;have qv:=(qb 3).trans q1.1;have a12:=(qb 5).trans q1.2.2;clear q0 q1 zi qb qr hsz qh)
 ·have e1:((c:Int) != 0)=true:=by simp;omega
  clear hpos qv a12;obtain⟨dm,qi⟩:∃dm,dm=gY d e p:=⟨_,rfl⟩
  rw[<- qi] at HD;clear qi
  go_wp2_with (fail);refine (Aa HD).mono ?_
  rintro x w7 ⟨rfl,q8⟩;have zq:=(q8.cell (p:=⟨A,0,none⟩) qk).trans qt;have F7:=Ab (Aa zm w7 q8);clear q8 qt HD
  go_wp2_with (fail)
  go_ret;have q5:=Aa F7
  exact⟨rfl,⟨q5.os,q5.tape,q5.output,q5.size,q5.block⟩⟩
 ·have e1:((c:Int) != 0)=true:=by simp;omega
  have e2:((c:Int)==(c:Int))=true:=by simp
  rw[qi] at HD;clear hpos qi a12
  go_wp2_with (fail);refine (Aa HD).mono ?_
  rintro x w7 ⟨rfl,q8⟩;have zq:=(q8.cell (p:=⟨A,0,none⟩) qk).trans qt;have y7:=(q8.cell (p:=⟨A,3,none⟩) qk).trans qv;have F7:=Ab (Aa zm w7 q8);clear q8 qt qv HD
  go_wp2_with (fail)
  go_ret;have q5:=Aa F7
  exact⟨rfl,⟨q5.os,q5.tape,q5.output,q5.size,q5.block⟩⟩
 ·rw[qi] at HD;have HR:=Ab qm;clear qi qm
  go_wp2_with (fail);refine (Aa HD).mono ?_
  rintro x w7 ⟨rfl,q8⟩;have zq:=(q8.cell (p:=⟨A,0,none⟩) qk).trans qt;have y7:=(q8.cell (p:=⟨A,3,none⟩) qk).trans qv;have yh:=(q8.cell (p:=⟨A,5,none⟩) qk).trans a12;have zg:=Ab q8;have zw:A<w7.heap.size:=A4 qk q8.size;have y4:=Ab ((Aa y3).bel q8);clear q8 qt qv a12 HD qk y3;have F7:=Ab (Aa zm w7 (Aa zg));have hz2:(⟨z.toArray⟩:ByteArray).size=z.length:=Bc z;have zy:(⟨u.toArray⟩:ByteArray).size=u.length:=Bc u;by_cases qu:z.length<=2000
  ·by_cases yy:u.length<=2000
   ·have e1:decide ((2000:Int)<((⟨z.toArray⟩:ByteArray).size:Int))=false:=by rw[hz2];simp;omega
    have e2:decide ((2000:Int)<((⟨u.toArray⟩:ByteArray).size:Int))=false:=by rw[zy];simp;omega
    have y6:=Ab (Aa HR qu);obtain⟨i0,yp,hz0,yr,yt⟩:=info_parts WE;clear HR hz2 zy F7
    go_wp2_with (fail);refine (Bf 5 _ _ _).mono ?_
    rintro x w8 ⟨rfl,zl⟩
    go_wp2_with (fail);refine (Bf 2 _ _ _).mono ?_
    rintro x j3 ⟨rfl,zz⟩
    go_wp2_with (fail);refine (Bf 8 _ _ _).mono ?_
    rintro x w9 ⟨rfl,yd⟩;have qp:A5 w7.heap.size w7 w9:=(zl.trans (zz.mono zl.size)).trans (yd.mono (Nat.le_trans zl.size zz.size));have y5:=Ab ((Aa y4).bel qp);have zh:=Ab ((Aa qn).trans (((Aa zg).trans (qp.mono (Aa zg).size)).mono (Aa qn).size));clear zl zz yd qp y4 zg qn z0 z1 z2 zq y7 yh zw
    go_wp2_with (at_builtin;refine wpList_append_lies _ rfl _ _ _ rfl wb.heap.size 49 i0 _ 3 40 underlying24 yp hz0 yr yt rfl (by decide) (.slice (some ⟨g1,0,none⟩) 2 2) 2 (Es (iJ t p)) rfl ((Aa y5).bel ((A1 _ _).alloc (CR _) _)).2 ⟨w9.heap.size,0,none⟩ 3 3 [.int .i64 5,.string ⟨z.toArray⟩,.string ⟨#[]⟩,.int .i64 2,.string ⟨#[]⟩,.string ⟨#[]⟩,.int .i64 8,.string ⟨p.toArray⟩,.string ⟨#[]⟩] rfl rfl (World.news_of_block (cs:=#[.int .i64 5,.string ⟨z.toArray⟩,.string ⟨#[]⟩,.int .i64 2,.string ⟨#[]⟩,.string ⟨#[]⟩,.int .i64 8,.string ⟨p.toArray⟩,.string ⟨#[]⟩]) (t:=49) (fr:=(0,0)) (heap_alloc_new w9 _)) (by simp[Value.oneCell']) (by decide) (by unfold maxLen;omega) (by omega) (by have:=(Aa zh).size;simp;omega) (w9.heap.size+1) (by simp) ?_;intro g cap yu qe qj qx za;have HM:=Ab (V2 (l':=[(5,z,[]),(2,[],[]),(8,p,[])]) ((Aa y5).bel ((A1 _ _).alloc (CR _) _)) ((Aa zh).alloc (Aa zh).size _) (by have:=(Aa zh).size;simp;omega) rfl rfl rfl qe qj);obtain⟨z0,z1,z2⟩:=(Aa HZ).2 yu (Aa HM).2;clear qe qj qx za)
    refine (Own.run (d:=d) (e:=e) (n:=n) (m:=5) (l:=jV t p z) (Aa HM).1 (TA t p z) (by decide) (by decide) ((Aa HT).below (((Aa qd).trans ((Aa HM).2.mono (Aa qd).size)).mono zb))).mono ?_;rintro x qg ⟨A2,yi,rfl,hA2,qf,qw,z6⟩;have q9:=Ab ((Aa HM).2.trans (z6.mono (Aa HM).2.size));obtain⟨z0,z1,z2⟩:=(Aa HZ).2 qg (Aa q9);obtain⟨zx,z7⟩:=qw;have q6:∀j,qg.cell? ⟨A2,j,none⟩=yi[j]?:=fun j=>by simp[CD,qf]
    rw[Aa y6] at z7;have q2:=z7 2 (by simp);have q3:=z7 3 (by simp);have q4:=z7 4 (by simp);simp only[A6,Bs] at q2 q3 q4;have a20:=(q6 6).trans q2.1;have a32:=(q6 11).trans q3.2.2;have yv:=(q6 12).trans q4.1;have yg:=(q6 14).trans q4.2.2;have zv:A2<qg.heap.size:=(AT.1 qf).1;clear q2 q3 q4 z7 q6 qf zx z6 y6 HM;have yf:Hid (∀w0,A5 qg.heap.size qg w0->Calls C2 19 #[.agg #[.int .i64 d,.int .i64 e,.int .i64 n],.string ⟨[91,93].toArray⟩] w0 fun x w'=>x=.returned (.tuple #[.string ⟨[91,93].toArray⟩,.int .i64 (0:Nat)])/\A5 w0.heap.size w0 w'):=Ab fun w0 h0=>by
     have h:=KY (Aa HC) ⟨[91,93].toArray⟩ w0 ((Aa HT).below (((Aa qd).trans (((Aa q9).trans (h0.mono (Aa q9).size)).mono (Aa qd).size)).mono zb));obtain⟨c1,_,c3,c4⟩:=XK (Aa HC);rw[show gY d e (⟨[91,93].toArray⟩:ByteArray).data.toList=(0,[91,93]) from Xe c1 c3 c4] at h;exact h
    have ye:=Ab (show ∀w0,A5 qg.heap.size qg w0->A5 w.heap.size w w0 from fun w0 h0=>(Aa qd).trans (((Aa q9).trans (h0.mono (Aa q9).size)).mono (Aa qd).size));have yo:=(Aa q9).size;clear q9
    go_upto_region 19 with (fail)
    have zr:Z<qg.heap.size:=A4 (Aa HZ).1 yo;refine wp_region_any (by kernel_rfl) ?_;refine SQ 11 5 11 (fun L x y=>{ tmps:=#[.int .i64 a,.int .i64 b,.string ⟨t.toArray⟩,.string ⟨p.toArray⟩,AS,AS,AS,AS,.bool false,.bool true,.bool true,.pointer (some ⟨Z,0,none⟩),.slice (some ⟨g,0,none⟩) 5 cap,.slice (some ⟨A,0,none⟩) 2 2,.string ⟨u.toArray⟩,.int .i64 0,.slice (some ⟨A2,0,none⟩) 5 5,cond (L 9) (.string ⟨[91,93].toArray⟩) AS,cond (L 10) (.int .i64 (0:Nat)) AS,.bool true,.bool true,.int .i64 a,.int .i64 b,.agg #[.int .i64 d,.int .i64 e,.int .i64 n],.string ⟨t.toArray⟩,.agg #[.int .i64 1,.string ⟨t.toArray⟩,.string ⟨#[]⟩],.string ⟨p.toArray⟩,.agg #[.int .i64 8,.string ⟨p.toArray⟩,.string ⟨#[]⟩],.slice (some ⟨g1,0,none⟩) 2 2,.agg #[.int .i64 d,.int .i64 e,.int .i64 n],.slice (some ⟨g1,0,none⟩) 2 2,.slice (some ⟨A,0,none⟩) 2 2,.tuple #[.string ⟨u.toArray⟩,.int .i64 0],.agg #[.int .i64 d,.int .i64 e,.int .i64 n],.string ⟨p.toArray⟩,.tuple #[.string ⟨u.toArray⟩,.int .i64 0],.string ⟨u.toArray⟩,.int .i64 0,.bool true,.bool false,.bool false,.bool true,.bool false,.bool false,.bool false,.slice (some ⟨A,0,none⟩) 2 2,.int .i64 2,.bool false,.bool false,.slice (some ⟨A,0,none⟩) 2 2,.pointer (some ⟨A,0,none⟩),.pointer (some ⟨A,0,none⟩),.int .i64 0,.bool false,.bool false,.int .i64 0,.bool false,.bool false,AS,AS,AS,AS,AS,AS,AS,AS,AS,AS,AS,AS,AS,.slice (some ⟨A,0,none⟩) 2 2,.pointer (some ⟨A,3,none⟩),.pointer (some ⟨A,3,none⟩),.int .i64 0,.bool false,.slice (some ⟨A,0,none⟩) 2 2,.pointer (some ⟨A,3,none⟩),.pointer (some ⟨A,5,none⟩),.string ⟨z.toArray⟩,.int .i64 (z.length:Int),.bool (decide (2000<(z.length:Int))),.bool (decide (2000<(z.length:Int))),.string ⟨u.toArray⟩,.int .i64 (u.length:Int),.bool (decide (2000<(u.length:Int))),.bool (decide (2000<(z.length:Int)) || decide (2000<(u.length:Int))),.slice (some ⟨g1,0,none⟩) 2 2,.slice (some ⟨A,0,none⟩) 2 2,.pointer (some ⟨A,3,none⟩),.pointer (some ⟨A,5,none⟩),.string ⟨z.toArray⟩,.agg #[.int .i64 5,.string ⟨z.toArray⟩,.string ⟨#[]⟩],.agg #[.int .i64 2,.string ⟨#[]⟩,.string ⟨#[]⟩],.string ⟨p.toArray⟩,.agg #[.int .i64 8,.string ⟨p.toArray⟩,.string ⟨#[]⟩],.slice (some ⟨w9.heap.size,0,none⟩) 3 3,.slice (some ⟨g,0,none⟩) 5 cap,.agg #[.int .i64 d,.int .i64 e,.int .i64 n],.slice (some ⟨g,0,none⟩) 5 cap,.slice (some ⟨A2,0,none⟩) 5 5,.slice (some ⟨A2,0,none⟩) 5 5,.int .i64 5,.bool false,.bool false,.slice (some ⟨A2,0,none⟩) 5 5,.pointer (some ⟨A2,6,none⟩),.pointer (some ⟨A2,6,none⟩),.int .i64 0,.bool false,.bool false,.bool false,.slice (some ⟨A2,0,none⟩) 5 5,.pointer (some ⟨A2,9,none⟩),.pointer (some ⟨A2,11,none⟩),.string ⟨u.toArray⟩,.string ⟨u.toArray⟩,.bool false,.bool false,.bool false,.slice (some ⟨A2,0,none⟩) 5 5,.pointer (some ⟨A2,12,none⟩),.pointer (some ⟨A2,12,none⟩),.int .i64 0,.bool false,.bool false,cond (L 6) (.tuple #[.string ⟨[91,93].toArray⟩,.int .i64 (0:Nat)]) AS,cond (L 0) (.agg #[.int .i64 d,.int .i64 e,.int .i64 n]) AS,cond (L 1) (.slice (some ⟨A2,0,none⟩) 5 5) AS,cond (L 2) (.pointer (some ⟨A2,12,none⟩)) AS,cond (L 3) (.pointer (some ⟨A2,14,none⟩)) AS,cond (L 4) (.string ⟨[91,93].toArray⟩) AS,cond (L 5) (y) AS,cond (L 7) (.string ⟨[91,93].toArray⟩) AS,cond (L 8) (.int .i64 (0:Nat)) AS,AS,AS,AS,AS,AS,AS],defers:=[] }) (fun _ _=>True) (fun y w=>y=.tuple #[.string ⟨[91,93].toArray⟩,.int .i64 (0:Nat)]/\A5 qg.heap.size qg w) qg (by rfl) (by decide) (by kernel_rfl) ?hR ?hp ?hb ?hz ?he AS AS _ ⟨rfl,rfl,rfl,CR _,fun _ _=>rfl⟩
    case hR=>
     exact fun _ _ _ h _=>h
    case hp=>
     intro L x y w1 i o hi yw yx ⟨ho,hno,haft,hcl⟩ hI K hK;have z8:i=0\/i=1\/i=2\/i=3\/i=4\/i=6\/i=7\/i=8\/i=9\/i=10:=by omega
     rcases z8 with rfl|rfl|rfl|rfl|rfl|rfl|rfl|rfl|rfl|rfl
     all_goals obtain rfl:=C1 ho
     ·have nl:L 5=false:=by
       cases h:L 5
       ·rfl
       ·have h0:=hcl 5 _ rfl h ⟨0,.data⟩ (by simp) rfl;exact absurd (h0.symm.trans hno) (by decide)
      have hb:=(hI.1 nl).1;have y0:=(hb.cell (p:=⟨Z,0,none⟩) zr).trans z0;have y1:=(hb.cell (p:=⟨Z,1,none⟩) zr).trans z1;have y2:=(hb.cell (p:=⟨Z,2,none⟩) zr).trans z2;refine A3 rfl fun K' q7=>?_;simp (decide:=true) only[upd,hno,nl,cond_true,cond_false,if_true,if_false] at hK |-
      go_simp;exact q7 _ _ (hK _ (fun _=>A1 _ _) fun _=>rfl)
     ·refine A3 rfl fun K' q7=>?_;simp (decide:=true) only[upd,hno,cond_true,cond_false,if_true,if_false] at hK |-
      go_simp;exact q7 _ _ (hK _ (fun _=>A1 _ _) fun _=>rfl)
     ·have a1:=haft ⟨1,.data⟩ (by simp) rfl;refine A3 rfl fun K' q7=>?_;simp (decide:=true) only[upd,a1,hno,cond_true,cond_false,if_true,if_false] at hK |-
      go_simp;exact q7 _ _ (hK _ (fun _=>A1 _ _) fun _=>rfl)
     ·have a2:=haft ⟨2,.data⟩ (by simp) rfl;refine A3 rfl fun K' q7=>?_;simp (decide:=true) only[upd,a2,hno,cond_true,cond_false,if_true,if_false] at hK |-
      go_simp;exact q7 _ _ (hK _ (fun _=>A1 _ _) fun _=>rfl)
     ·have a3:=haft ⟨3,.data⟩ (by simp) rfl;have nl:L 5=false:=by
       cases h:L 5
       ·rfl
       ·have h0:=hcl 5 _ rfl h ⟨4,.data⟩ (by simp) rfl;exact absurd (h0.symm.trans hno) (by decide)
      have hb:=(hI.1 nl).1;have yz:=(hb.cell (p:=⟨A2,14,none⟩) zv).trans yg;refine A3 rfl fun K' q7=>?_;simp (decide:=true) only[upd,a3,hno,nl,cond_true,cond_false,if_true,if_false] at hK |-
      go_simp;exact q7 _ _ (hK _ (fun _=>A1 _ _) fun _=>rfl)
     ·have a5:=haft ⟨5,.data⟩ (by simp) rfl;obtain⟨rfl,_⟩:=hI.2 a5;refine A3 rfl fun K' q7=>?_;simp (decide:=true) only[upd,a5,hno,cond_true,cond_false,if_true,if_false] at hK |-
      go_simp;exact q7 _ _ (hK _ (fun _=>A1 _ _) fun _=>rfl)
     ·have a6:=haft ⟨6,.data⟩ (by simp) rfl;refine A3 rfl fun K' q7=>?_;simp (decide:=true) only[upd,a6,hno,cond_true,cond_false,if_true,if_false] at hK |-
      go_simp;exact q7 _ _ (hK _ (fun _=>A1 _ _) fun _=>rfl)
     ·have a6:=haft ⟨6,.data⟩ (by simp) rfl;refine A3 rfl fun K' q7=>?_;simp (decide:=true) only[upd,a6,hno,cond_true,cond_false,if_true,if_false] at hK |-
      go_simp;exact q7 _ _ (hK _ (fun _=>A1 _ _) fun _=>rfl)
     ·have a0:=haft ⟨0,.phase⟩ (by simp) rfl;have a1:=haft ⟨1,.phase⟩ (by simp) rfl;have a2:=haft ⟨2,.phase⟩ (by simp) rfl;have a3:=haft ⟨3,.phase⟩ (by simp) rfl;have a4:=haft ⟨4,.phase⟩ (by simp) rfl;have a5:=haft ⟨5,.chain⟩ (by simp) rfl;have a6:=haft ⟨6,.phase⟩ (by simp) rfl;have a7:=haft ⟨7,.data⟩ (by simp) rfl;refine A3 rfl fun K' q7=>?_;simp (decide:=true) only[upd,a0,a1,a2,a3,a4,a5,a6,a7,hno,cond_true,cond_false,if_true,if_false] at hK |-
      go_simp;exact q7 _ _ (hK _ (fun _=>A1 _ _) fun _=>rfl)
     ·have a0:=haft ⟨0,.phase⟩ (by simp) rfl;have a1:=haft ⟨1,.phase⟩ (by simp) rfl;have a2:=haft ⟨2,.phase⟩ (by simp) rfl;have a3:=haft ⟨3,.phase⟩ (by simp) rfl;have a4:=haft ⟨4,.phase⟩ (by simp) rfl;have a5:=haft ⟨5,.phase⟩ (by simp) rfl;have a6:=haft ⟨6,.phase⟩ (by simp) rfl;have a7:=haft ⟨7,.phase⟩ (by simp) rfl;have a8:=haft ⟨8,.data⟩ (by simp) rfl;have a9:=haft ⟨9,.chain⟩ (by simp) rfl;refine A3 rfl fun K' q7=>?_;simp (decide:=true) only[upd,a0,a1,a2,a3,a4,a5,a6,a7,a8,a9,hno,cond_true,cond_false,if_true,if_false] at hK |-
      go_simp;exact q7 _ _ (hK _ (fun _=>A1 _ _) fun _=>rfl)
    case hb=>
     intro L x y w1 o ⟨ho,_,_,_⟩;cases ho
    case hz=>
     intro L x y w1 o ⟨ho,hno,haft,hcl⟩ hI K hK;obtain rfl:=C1 ho;have a0:=haft ⟨0,.data⟩ (by simp) rfl;have a4:=haft ⟨4,.data⟩ (by simp) rfl;have hb:=(hI.1 hno).1;refine A3 rfl fun K' q7=>?_;simp (decide:=true) only[upd,a0,a4,hno,cond_true,cond_false,if_true,if_false] at hK |-
     go_simp;refine (Aa yf w1 hb).mono ?_
     rintro e wn ⟨rfl,hb2⟩;show K' _ _;exact q7 _ _ (hK _ _ ⟨rfl,hb.trans (hb2.mono hb.size)⟩)
    case he=>
     intro L x y w1 hL hI;have h0:=hL 0 (by decide);have h1:=hL 1 (by decide);have h2:=hL 2 (by decide);have h3:=hL 3 (by decide);have h4:=hL 4 (by decide);have h5:=hL 5 (by decide);have h6:=hL 6 (by decide);have h7:=hL 7 (by decide);have h8:=hL 8 (by decide);have h9:=hL 9 (by decide);have y9:=hL 10 (by decide);have hy:=hI.2 h5;simp only[h0,h1,h2,h3,h4,h5,h6,h7,h8,h9,y9,cond_true];clear hL hI h0 h1 h2 h3 h4 h5 h6 h7 h8 h9 y9;obtain⟨rfl,ym⟩:=hy;have FD:=Ab (Aa ye _ ym)
     go_wp2_with (fail)
     go_ret;have q5:=Aa FD
     exact⟨rfl,⟨q5.os,q5.tape,q5.output,q5.size,q5.block⟩⟩
   ·have e2:decide ((2000:Int)<((⟨u.toArray⟩:ByteArray).size:Int))=true:=by rw[zy];simp;omega
    have e1:decide ((2000:Int)<((⟨z.toArray⟩:ByteArray).size:Int))=false:=by rw[hz2];simp;omega
    go_wp2_with (fail)
    go_ret;have q5:=Aa F7
    exact⟨rfl,⟨q5.os,q5.tape,q5.output,q5.size,q5.block⟩⟩
  ·have e1:decide ((2000:Int)<((⟨z.toArray⟩:ByteArray).size:Int))=true:=by rw[hz2];simp;omega
   go_wp2_with (fail)
   go_ret;have q5:=Aa F7
   exact⟨rfl,⟨q5.os,q5.tape,q5.output,q5.size,q5.block⟩⟩
end Go.Proofs.YtdpomdelmdofmaaGreatDoor
