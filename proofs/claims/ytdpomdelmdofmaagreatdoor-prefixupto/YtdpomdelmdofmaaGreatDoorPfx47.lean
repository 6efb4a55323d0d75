import Derived.Test.YtdpomdelmdofmaaGreatDoorPfx46
open Go renaming getD_set_ne->AI,wpOp_step->A2,wpList_append_lies->Bs
open Or renaming inr->AS,inl->A4
open List renaming length_append->AT,append_assoc->BY,length_cons->CD,length_map->CR
open Array renaming getD->A1,getElem?_eq_some_iff->A3
open Go.IntKind renaming wrap_i64->A5
open Go.World renaming news_of_block->A6
open Go.Value renaming slice->CH,oneCell'->Dt
open Nat renaming zero_le->CL,le_trans->D0,le_refl->E0
open Int renaming natCast_add->C1
open Go.RowKit renaming intOf->C2,Below->D3
open Go.Lib renaming itoa->Dp
open Go.Proofs.Tryz renaming prog->DD
set_option maxRecDepth 100000
set_option maxHeartbeats 8000000
namespace Go.Proofs.YtdpomdelmdofmaaGreatDoor
open Go.Proofs.Tryz Go.RowKit Go.Maps
theorem Oi{f:Nat}{F F':Nat->Prop}{w:World}{Mk:Nat}{n:Int}{M:Nat->Prop}{ops:List Zk}{j5 yd:Value}{yb yc:List Value}{xs ys:List To}{pa:Option Addr}{pl pc:Nat}{s:List By}(h:MkD w Mk n M ops)(hT:Af w)(ym:∀k,k<NG->M k)(hf:f<=top)(zr:∀k,F' k->M k)(yv:(xs.length+1)*(ys.length+1)<=1000000)(zh:ops.length<=500000000)
  (o1:w.ownsRow 0 80 1 j5 yb.length yb) (a1:Al (Rep f F w) yb xs) (o2:w.ownsRow 0 80 1 yd yc.length yc) (yp:∀g,yd.ownBlock=some g->F' g) (a2:Al (Rep f F' w) yc ys) (hp:Au w M (.slice pa pl pc) s) (yw:s.length<=100000000) (zg:s=[] -> ∃c,(CH pa pl pc)=.slice none 0 c):
  Calls DD 168 #[.pointer (some ⟨Mk,0,none⟩),.slice pa pl pc,j5,yd] w (Ct Mk n M ops (CX s xs ys) w):=by
 have qn:=Ab (LO o1 a1 o2 a2 yv);obtain⟨_,hN,ao1,cap1,g1,c1,rfl,_,_,_⟩:=Ig o1 a1;obtain⟨_,hM,ao2,cap2,g2,c2,rfl,z8,yo,yy⟩:=Ig o2 a2;obtain⟨N,zu⟩:∃N,N=xs.length:=⟨_,rfl⟩
 obtain⟨K,zs⟩:∃K,K=ys.length:=⟨_,rfl⟩
 have x0:N+1<=1000000:=by
  have:(xs.length+1)*1<=(xs.length+1)*(ys.length+1):=Nat.mul_le_mul_left _ (by omega);omega
 have jz:K+1<=1000000:=by
  have:1*(ys.length+1)<=(xs.length+1)*(ys.length+1):=Nat.mul_le_mul_right _ (by omega);omega
 rw[<- zu,<- zs] at qn |-;obtain⟨Q,hQ⟩:∃Q,Q=Ct Mk n M ops (CX s xs ys) w:=⟨_,rfl⟩
 rw[<- hQ];have HQ:=Ab hQ;have HH:=Ab h;have HT:=Ab hT;have yf:=Ab ym;have HF:=Ab zr;have yh:=Ab hp;have yi:=Ab yw;have yg:=Ab zg;have qo:=Ab zu;have qm:=Ab zs;have qz:=Ab zh;have ja:=Ab (show 0<K->ao2=some ⟨g2,0,none⟩/\g2<w.heap.size/\M g2 from fun hp=>by
  obtain⟨e,h2⟩:=z8 (by omega);exact⟨e,h2,zr _ (yp g2 (by rw[e];rfl))⟩)
 have j7:=Ab yo;have je:=Ab yy;clear hQ h hT ym zr hp yw zg zu zs zh yp z8 yo yy o1 a1 o2 a2 yv hN hM
 go_enter func168,ntmps168
 go_wp2_with (fail);refine (Aa qn).mono ?_
 rintro e w1 ⟨m,cnt,D,rfl,hm,qu,yz,hb1⟩;have zn:m<w1.heap.size:=by obtain⟨es,yj,hb,_⟩:=qu;exact (A3.1 hb).1
 obtain⟨zw,zv⟩:=(Aa HH).grow hb1 (fun b=>w.heap.size<=b/\b<w1.heap.size) (fun _ h=>h);obtain⟨M1,zq⟩:∃M1,M1=fun b=>M b\/(w.heap.size<=b/\b<w1.heap.size):=⟨_,rfl⟩
 rw[<- zq] at zw zv;have jd:=Ab (show M1 m from by rw[zq];exact AS ⟨hm,zn⟩);have jb:=Ab (show Es w1 Mk n M1 ops s xs ys 0 0 0 (.slice none 0 0) w1 from⟨⟨[],[],M1,aI.start,by
  simpa using zw.less (K':=fun b=>M1 b\/(CH none 0 0).ownBlock=some b) (fun b hb=>hb.elim id fun e=>by cases e),JEx.refl _ _,⟨rfl,A4 ⟨rfl,rfl⟩⟩,fun g hg=>by cases hg⟩⟩)
 have qp:=Ab zv;have qv:=Ab (And.intro qu yz);clear hm qu yz hb1 zn zw zv zq qn
 go_wp2_with (fail)
 go_loopw [9,10,11,12] (fun mv vi vj vk wr=>∃ (i j k ul uc:Nat) (ua:Option Addr),mv=.slice ua ul uc/\vi=.int .i64 i/\vj=.int .i64 j/\vk=.int .i64 k/\Hid (Es w1 Mk n M1 ops s xs ys i j k (.slice ua ul uc) wr)/\i<=N/\j<=K/\k<=i) (fun _ vi vj _ _=>(N-(C2 vi).toNat)+(K-(C2 vj).toNat))
 case atStart=>exact⟨0,0,0,0,0,none,rfl,rfl,rfl,rfl,jb,by omega,by omega,by omega⟩
 case round=>
  obtain⟨i,j,k,ul,uc,ua,rfl,rfl,rfl,rfl,HI,yr,jo,yu⟩:=hrel;obtain⟨u0,y6⟩:∃u0,u0=Zq (xs.drop i) (ys.drop j):=⟨_,rfl⟩
  obtain⟨u1,y7⟩:∃u1,u1=Zq (xs.drop (i+1)) (ys.drop j):=⟨_,rfl⟩
  obtain⟨u2,y8⟩:∃u2,u2=Zq (xs.drop i) (ys.drop (j+1)):=⟨_,rfl⟩
  obtain⟨i1,qw⟩:∃i1,i1=i+1:=⟨_,rfl⟩
  obtain⟨j1,qr⟩:∃j1,j1=j+1:=⟨_,rfl⟩
  obtain⟨k1,yt⟩:∃k1,k1=k+1:=⟨_,rfl⟩
  have x5:IntKind.i64.wrap ((i:Int)+1)=(i1:Int):=by rw[A5];omega
  have x6:IntKind.i64.wrap ((j:Int)+1)=(j1:Int):=by rw[A5];omega
  have x7:IntKind.i64.wrap ((k:Int)+1)=(k1:Int):=by rw[A5];omega
  have zm:wr.heap[m]? = w1.heap[m]?:=by
   obtain⟨rs,ms,M',_,_,hx,_⟩:=(Aa HI).ex;exact (hx.kept m (Aa jd)).2
  have L0:=Ic (Aa qv).1 (Aa qv).2 (i:=i) (j:=j) (by omega) (by omega) zm;have L1:=Ic (Aa qv).1 (Aa qv).2 (i:=i1) (j:=j) (by omega) (by omega) zm;have L2:=Ic (Aa qv).1 (Aa qv).2 (i:=i) (j:=j1) (by omega) (by omega) zm;rw[<- y6] at L0;simp only[qw,<- y7] at L1;simp only[qr,<- y8] at L2;rw[<- qw] at L1;rw[<- qr] at L2;have HU:=Ab (show u0=Zq (xs.drop i) (ys.drop j)/\u1=Zq (xs.drop (i+1)) (ys.drop j)/\u2=Zq (xs.drop i) (ys.drop (j+1))/\i1=i+1/\j1=j+1/\k1=k+1 from⟨y6,y7,y8,qw,qr,yt⟩);clear y6 y7 y8 qw qr yt zm;have ye:=Ab (show Af wr/\Au wr M1 (.slice pa pl pc) s /\ ∀b,M1 b->b<wr.heap.size from by
   obtain⟨rs,ms,M',_,h2,hx,_⟩:=(Aa HI).ex;have qd:=(Aa qp).trans hx;exact⟨(Aa HT).below ⟨qd.os,qd.tape,qd.output,qd.size,fun b hb=>(qd.kept b (Aa yf b hb)).2⟩,(Aa yh).move fun b hb _=>⟨(qd.kept b hb).2,((Aa qp).kept b hb).1⟩,fun b hb=>h2.low b (A4 (hx.kept b hb).1)⟩)
  by_cases hA:i<N/\u1=u0
  ·obtain⟨qg,e1⟩:=hA;have qh:(i:Int)<(N:Int):=by omega
   have yk:((u1:Int)==(u0:Int))=true:=by simp[e1]
   have z1:=Ab (fun (w3:World) (hb:D3 wr.heap.size wr w3) (p:Addr) (pl pc:Nat) (htk:Au w3 (fun b=>wr.heap.size<=b) (.slice (some p) pl pc) (Fj s k))=>(Aa HI).rem (by have:=Aa qo;omega) (by obtain⟨a1,a2,_⟩:=Aa HU;rw[<- a1,<- a2];exact e1) (Aa qz) (by have:=Aa qo;omega) hb htk);clear L2 e1
   go_wp2_with (fail);refine (Tryz.strconv_Itoa k (by omega) (by omega) wr (Aa ye).1.tab).mono ?_
   rintro e w2 ⟨rfl,kk,os,rfl⟩;have hb2:=D7 wr kk os;generalize Sort.grow (wr.drewN kk) os=w2 at *;have j6:=Ab hb2;have hs2:=hb2.size;have zk:=Ab (Ik (t:=Dp (k:Int)) ((Aa ye).2.1.move fun b hb zl=>⟨hb2.block b zl,hb⟩) (Aa yi) (Aa yg));clear hb2
   go_wp2_with (fail);refine (Aa zk).mono ?_
   rintro e w3 ⟨g',qq,rfl,jk,htk,hb3⟩;have qy:=Ab (Aa z1 w3 ((Aa j6).trans (hb3.mono hs2)) ⟨g',0,none⟩ (s.length+1) qq (htk.move fun b hb _=>⟨rfl,D0 hs2 hb⟩));clear htk hb3 z1 zk
   go_wp2_with (fail);refine (Aa qy).mono ?_
   rintro e w4 ⟨rfl,yl⟩;have qk:=Ab (show Es w1 Mk n M1 ops s xs ys i1 j k (.slice ua ul uc) w4 from by rw[(Aa HU).2.2.2.1];exact yl);have qw:=(Aa HU).2.2.2.1;have zy:i1<=N:=by omega
   have zz:k<=i1:=by omega
   have jr:(N-i1)<N-i:=by omega
   clear yl qw qy
   go_wp2_with (fail);exact⟨⟨i1,j,k,ul,uc,ua,rfl,rfl,rfl,rfl,qk,zy,jo,zz⟩,by simp[C2];omega⟩
  by_cases hB:j<K/\u2=u0
  ·obtain⟨qt,e2⟩:=hB;have zf:(j:Int)<(K:Int):=by omega
   have jh:((u2:Int)==(u0:Int))=true:=by simp[e2]
   obtain⟨ms,zn,zj,qj⟩:=(Aa HI).mis (by have:=Aa qm;omega) (fun ⟨q1,q2⟩=>hA ⟨by have:=Aa qo;omega,by obtain⟨a1,a2,_⟩:=Aa HU;rw[a1,a2];exact q2⟩) (by obtain⟨a1,_,a3,_⟩:=Aa HU;rw[<- a1,<- a3];exact e2);obtain⟨i0,yq,h0⟩:=Option.map_eq_some_iff.1 Yv;injection h0 with hz h0;injection h0 with hz2 hz3;obtain⟨z0,ya⟩:∃z0,z0=Value.int .i64 0:=⟨_,rfl⟩
   rw[<- ya] at hz;have j4:z0.cells.size=1:=by rw[ya];rfl
   have jt:ms.length+1<=1000000:=by have:=Aa qm;omega
   have qf:=Ab zj;have qi:=Ab qj;have ji:(i<N/\u1≠u0) \/ ¬ i<N:=by
    by_cases hi:i<N
    ·exact A4 ⟨hi,fun e=>hA ⟨hi,e⟩⟩
    ·exact AS hi
   clear zj qj e2 zn hA ya;have qr:=(Aa HU).2.2.2.2.1;have zc:j1<=K:=by omega
   have jr:(K-j1)<K-j:=by omega
   rcases ji with⟨qg,e1⟩|qg
   ·have qh:(i:Int)<(N:Int):=by omega
    have yk:((u1:Int)==(u0:Int))=false:=by simp;omega
    clear e1 qr
    go_wp2_with (at_builtin;refine Bs _ rfl _ _ _ rfl 0 3 i0 z0 1 8 underlying27 yq hz hz2 hz3 j4 (by decide) (.slice ua ul uc) ms.length (ms.map iv_) rfl ((Aa qf).alloc _) ⟨wr.heap.size,0,none⟩ 1 1 [.int .i64 j] rfl rfl (A6 (cs:=#[.int .i64 j]) (t:=3) (fr:=(0,0)) (heap_alloc_new wr _)) (by simp[Dt]) (by decide) (by unfold maxLen;omega) (by omega) (CL _) (wr.heap.size+1) (by simp) ?_;intro g cap w3 qb q9 z6 hlt;have qk:=Ab (Aa qi g cap _ w3 qb q9 z6);clear qb q9 z6 hlt)
    refine⟨⟨i,j1,k,ms.length+1,cap,some ⟨g,0,none⟩,rfl,rfl,rfl,rfl,?_,yr,zc,yu⟩,by simp[C2];omega⟩;rw[(Aa HU).2.2.2.2.1];exact qk
   ·have qh:¬ (i:Int)<(N:Int):=by omega
    clear L1 qr
    go_wp2_with (at_builtin;refine Bs _ rfl _ _ _ rfl 0 3 i0 z0 1 8 underlying27 yq hz hz2 hz3 j4 (by decide) (.slice ua ul uc) ms.length (ms.map iv_) rfl ((Aa qf).alloc _) ⟨wr.heap.size,0,none⟩ 1 1 [.int .i64 j] rfl rfl (A6 (cs:=#[.int .i64 j]) (t:=3) (fr:=(0,0)) (heap_alloc_new wr _)) (by simp[Dt]) (by decide) (by unfold maxLen;omega) (by omega) (CL _) (wr.heap.size+1) (by simp) ?_;intro g cap w3 qb q9 z6 hlt;have qk:=Ab (Aa qi g cap _ w3 qb q9 z6);clear qb q9 z6 hlt)
    refine⟨⟨i,j1,k,ms.length+1,cap,some ⟨g,0,none⟩,rfl,rfl,rfl,rfl,?_,yr,zc,yu⟩,by simp[C2];omega⟩;rw[(Aa HU).2.2.2.2.1];exact qk
  by_cases qg:i<N
  ·have e1:u1≠u0:=fun e=>hA ⟨qg,e⟩;have qt:j<K:=by
    by_cases hj:j<K
    ·exact hj
    ·exfalso
     obtain⟨a1,a2,_⟩:=Aa HU;exact e1 (by rw[a1,a2];exact RT (by have:=Aa qm;omega) _ _)
   have e2:u2≠u0:=fun e=>hB ⟨qt,e⟩;have qh:(i:Int)<(N:Int):=by omega
   have zf:(j:Int)<(K:Int):=by omega
   have yk:((u1:Int)==(u0:Int))=false:=by simp;omega
   have jh:((u2:Int)==(u0:Int))=false:=by simp;omega
   have qk:=Ab (show Es w1 Mk n M1 ops s xs ys i1 j1 k1 (.slice ua ul uc) wr from by
    obtain⟨a1,a2,a3,a4,a5,a6⟩:=Aa HU;rw[a4,a5,a6];exact (Aa HI).keep (by have:=Aa qo;omega) (by have:=Aa qm;omega) (by rw[<- a1,<- a2];exact e1) (by rw[<- a1,<- a3];exact e2))
   have y3:i1<=N/\j1<=K/\k1<=i1/\N-i1<N-i/\K-j1<K-j:=by
    obtain⟨_,_,_,a4,a5,a6⟩:=Aa HU;omega
   clear e1 e2 hA hB
   go_wp2_with (fail);exact⟨⟨i1,j1,k1,ul,uc,ua,rfl,rfl,rfl,rfl,qk,y3.1,y3.2.1,y3.2.2.1⟩,by simp[C2];omega⟩
  ·have qt:¬ j<K:=fun hj=>by
    obtain⟨a1,_,a3,_⟩:=Aa HU;exact hB ⟨hj,by rw[a1,a3];exact RU (by have:=Aa qo;omega) _ _⟩
   have qh:¬ (i:Int)<(N:Int):=by omega
   have zf:¬ (j:Int)<(K:Int):=by omega
   obtain⟨rs,ms,M',h1,h2,h3,h4,h5⟩:=(Aa HI).ex;have zi:=h1.end_ (by have:=Aa qo;omega) (by have:=Aa qm;omega);have ze:=h1.len;obtain⟨ops',qe⟩:∃ops',ops'=ops++rs.map (cO s):=⟨_,rfl⟩
   rw[<- qe] at h2;have j8:=Ab (show DLo w1 Mk n M1 ops' s ys ms (.slice ua ul uc) 0 wr from⟨M',by simpa using h2,h3,h4,h5⟩);have qf:=Ab h4;have HP:=Ab (show ops++CX s xs ys=ops'++ms.map (NN s ys) by rw[UM,zi,qe,BY]);have HL:=Ab (show ops'.length+ms.length<=1000000000 /\ ∀q∈ms,q<ys.length from by
    have:=Aa qz;have:=Aa qo;have:=Aa qm;rw[qe,AT,CR];exact⟨by omega,ze.2.2⟩)
   clear hA hB L0 L1 L2 h1 h2 h3 h4 h5 zi ze qe;obtain⟨g,jx,j3⟩:∃g,ul=ms.length/\(0<ms.length->ua=some ⟨g,0,none⟩):=by
    rcases (Aa qf).2 with⟨e,h0⟩|⟨g,cap,cur,e,_⟩
    ·injection e with q1 q2 q3;exact⟨0,by omega,fun hp=>by omega⟩
    ·injection e with q1 q2 q3;exact⟨g,q2,fun _=>q1⟩
   subst jx;have jf:=Ab j3;have ju:ms.length<=1000000000:=by have:=(Aa HL).1;omega
   clear j3
   go_wp2_with (fail)
   go_loopw [86] (fun vt jy=>∃t:Nat,t<=ms.length/\vt=.int .i64 t/\Hid (DLo w1 Mk n M1 ops' s ys ms (.slice ua ms.length uc) t jy)) (fun vt _=>ms.length-(C2 vt).toNat)
   case atStart=>exact⟨0,by omega,rfl,j8⟩
   case round=>
    obtain⟨t,ht,rfl,HD⟩:=hrel;by_cases y5:t<ms.length
    ·have jw:(t:Int)<(ms.length:Int):=by omega
     obtain rfl:=Aa jf (by omega);obtain⟨q,hq⟩:∃q,q=ms[t]:=⟨_,rfl⟩
     have y4:q<ys.length:=(Aa HL).2 q (by rw[hq];exact List.getElem_mem y5);have x2:q<K:=by have:=Aa qm;omega
     have jv:(q:Int)<(K:Int):=by omega
     obtain⟨M',m2,m3,m4,m5⟩:=(Aa HD).ex;have qd:=(Aa qp).trans m3;have ct:wr.cell? ⟨g,t,none⟩=some (.int .i64 q):=by
      obtain⟨g',qq,e,_,_,_,hc⟩:=Bh m4 (by omega);injection e with e;injection e with e;injection e with e;subst e;rw[hc t (by simpa using y5),hq];simp[iv_]
     obtain⟨jj,zb,za⟩:=Aa ja (by omega);subst jj;have cq:wr.cell? ⟨g2,q,none⟩=some (.pointer (c2 q)):=(World.cell?_of_block (a:=⟨g2,q,none⟩) (qd.kept g2 za).2).trans (Aa j7 q y4);have hrq:Rep top M1 w1 (.pointer (c2 q)) ys[q]:=((Aa je q y4).move fun b hb zl=>⟨((Aa qp).kept b (Aa HF b hb)).2,((Aa qp).kept b (Aa HF b hb)).1⟩).up hf;have zt:Af wr:=(Aa HT).below ⟨qd.os,qd.tape,qd.output,qd.size,fun b hb=>(qd.kept b (Aa yf b hb)).2⟩;have yx:Au wr M1 (.slice pa pl pc) s:=(Aa yh).move fun b hb _=>⟨(qd.kept b hb).2,((Aa qp).kept b hb).1⟩
     have jc:=Ab (fun w1 (hb:D3 wr.heap.size wr w1)=>show Calls DD 94 #[.int .i64 q] w1 fun e w'=>e=.returned (.string ⟨(Dp (q:Int)).toArray⟩)/\D3 w1.heap.size w1 w' from (Tryz.strconv_Itoa q (by omega) (by omega) w1 (zt.below (hb.mono zt.ng)).tab).mono (by
      rintro e w' ⟨rfl,kk,os,rfl⟩;exact⟨rfl,D7 _ _ _⟩))
     have zk:=Ab (fun w1 (hb:D3 wr.heap.size wr w1)=>Ik (w:=w1) (t:=Dp (q:Int)) (yx.move fun b hb1 zl=>⟨hb.block b zl,hb1⟩) (Aa yi) (Aa yg));have qx:=Ab (fun w3 (hb:D3 wr.heap.size wr w3) (p:Addr) (pl pc:Nat) (htk:Au w3 (fun b=>wr.heap.size<=b) (.slice (some p) pl pc) (Fj s q))=>(Aa HD).add (x:=c2 q) y5 hq.symm y4 (Aa HL).1 hb htk hrq);have x1:g<wr.heap.size:=(AC m4 g rfl).1;obtain⟨wl,y9⟩:∃wl,wl=w1:=⟨_,rfl⟩
     rw[<- y9] at qx;have jg:=Ab y9;clear y9;have zx:g2<wr.heap.size:=Nat.lt_of_lt_of_le zb qd.size;have x3:=Ab hq;clear m2 m3 m4 m5 qd za hrq zt yx zb hq
     go_upto_region 15 with (fail)
     refine wp_region_any (by kernel_rfl) ?_;refine Jo (fun lJ aJ wJ=>lJ.size=10/\(lJ.getD 9 false=false->D3 (wr).heap.size wr wJ) /\ ∃x90 x91 x92 x93 x94 x95 x96 x97 x98 x99,aJ={ tmps:=#[.pointer (some ⟨Mk,0,none⟩),.slice pa pl pc,.slice ao1 N cap1,.slice (some ⟨g2,0,none⟩) K cap2,undef,undef,undef,undef,.map (some m),.slice (some ⟨g,0,none⟩) ms.length uc,.int .i64 ↑i,.int .i64 ↑j,.int .i64 ↑k,u13,undef,.int .i64 ↑q,.slice ao1 N cap1,.slice (some ⟨g2,0,none⟩) K cap2,.map (some m),.int .i64 ↑i,.slice ao1 N cap1,.int .i64 ↑N,.bool false,.bool false,.int .i64 ↑j,.slice (some ⟨g2,0,none⟩) K cap2,.int .i64 ↑K,.bool false,.bool false,u29,u30,u31,u32,u33,u34,u35,u36,u37,u38,u39,u40,u41,u42,u43,u44,u45,u46,u47,u48,u49,u50,u51,u52,u53,u54,u55,u56,u57,u58,u59,u60,u61,u62,u63,u64,u65,u66,u67,u68,u69,u70,u71,u72,u73,u74,u75,u76,u77,u78,u79,u80,u81,u82,u83,.slice (some ⟨g,0,none⟩) ms.length uc,.int .i64 ↑ms.length,.int .i64 ↑t,.bool true,.pointer (some ⟨g,t,none⟩),.int .i64 ↑q,x90,x91,x92,x93,x94,x95,x96,x97,x98,x99,u100],defers:=[] }/\(lJ.getD 0 false=true->x90=.pointer (some ⟨Mk,0,none⟩))/\(lJ.getD 1 false=true->x91=.slice pa pl pc)/\(lJ.getD 2 false=true->x92=.int .i64 q)/\(lJ.getD 3 false=true->x93=.string ⟨(Dp (q:Int)).toArray⟩)/\(lJ.getD 4 false=true->lJ.getD 9 false=false->(fun w x=>(∃xa xl xc,x=.slice (some xa) xl xc)/\Au w (fun b=>wr.heap.size<=b) x (Fj s q)) wJ x94)/\(lJ.getD 5 false=true->x95=.slice (some ⟨g2,0,none⟩) K cap2)/\(lJ.getD 6 false=true->x96=.int .i64 q)/\(lJ.getD 7 false=true->x97=.pointer (some ⟨g2,q,none⟩))/\(lJ.getD 8 false=true->x98=.pointer (c2 q))/\(lJ.getD 9 false=true->(fun w _=>DLo wl Mk n M1 ops' s ys ms (.slice (some ⟨g,0,none⟩) ms.length uc) (t+1) w) wJ x99)) ?hs ?he _ _ _ ?h0
     case h0=>
      refine⟨rfl,fun _=>⟨rfl,rfl,rfl,E0 _,fun _ _=>rfl⟩,_,_,_,_,_,_,_,_,_,_,rfl,?_⟩;refine⟨?_,?_,?_,?_,?_,?_,?_,?_,?_,?_⟩<;>(intro h;exact absurd h (by decide))
     case he=>
      intro l a w1 hJ hr;have q5:=D5 hJ.1 (by kernel_rfl) hr;obtain⟨hsz,q0,x90,x91,x92,x93,x94,x95,x96,x97,x98,x99,rfl,e0,e1,e2,e3,e4,e5,e6,e7,e8,e9⟩:=hJ;have f0:=e0 (q5 0 (by decide));have f1:=e1 (q5 1 (by decide));have f2:=e2 (q5 2 (by decide));have f3:=e3 (q5 3 (by decide));have f4:=e4 (q5 4 (by decide));have f5:=e5 (q5 5 (by decide));have f6:=e6 (q5 6 (by decide));have f7:=e7 (q5 7 (by decide));have f8:=e8 (q5 8 (by decide));have f9:=e9 (q5 9 (by decide));clear e0 e1 e2 e3 e4 e5 e6 e7 e8 e9 q5 hr;clear f0 f1 f2 f3 f4 f5 f6 f7 f8;have j9:=Ab f9;clear f9
      go_wp2_with (fail);exact⟨⟨t+1,by omega,by go_num,by rw[<- Aa jg];exact j9⟩,by simp[C2];omega⟩
     case hs=>
      intro l a w1 q8 hJ i hi;obtain⟨hno,q6⟩:=BC hi;have jm:i<10:=by
       obtain⟨_,o,ho,_⟩:=mem_ready.1 hi;exact (A3.1 ho).1
      obtain⟨hsz,q0,x90,x91,x92,x93,x94,x95,x96,x97,x98,x99,rfl,e0,e1,e2,e3,e4,e5,e6,e7,e8,e9⟩:=hJ;clear hi;have z7:i=0\/i=1\/i=2\/i=3\/i=4\/i=5\/i=6\/i=7\/i=8\/i=9:=by omega
      rcases z7 with rfl|rfl|rfl|rfl|rfl|rfl|rfl|rfl|rfl|rfl
      ·have q7:l.getD 0 false=false:=by simpa[A1,hsz] using hno
       have hnl:l.getD 9 false=false:=by
        cases h:l.getD 9 false
        ·rfl
        ·have h0:=q8 9 _ rfl h ⟨0,.data⟩ (by simp) rfl;exact absurd h0 (by rw[q7];decide)
       have hb:=q0 hnl;refine A2 rfl fun K hK=>?_
       go_simp;exact hK _ _ ⟨by simp[hsz],fun h=>q0 ((AI _ (by decide)).symm.trans h),_,_,_,_,_,_,_,_,_,_,rfl,fun _=>rfl,Ac (by decide) e1,Ac (by decide) e2,Ac (by decide) e3,fun h h'=>e4 ((AI _ (by decide)).symm.trans h) ((AI _ (by decide)).symm.trans h'),Ac (by decide) e5,Ac (by decide) e6,Ac (by decide) e7,Ac (by decide) e8,Ac (by decide) e9⟩
      ·have q7:l.getD 1 false=false:=by simpa[A1,hsz] using hno
       have hnl:l.getD 9 false=false:=by
        cases h:l.getD 9 false
        ·rfl
        ·have h0:=q8 9 _ rfl h ⟨4,.data⟩ (by simp) rfl;have h1:=q8 4 _ rfl h0 ⟨1,.data⟩ (by simp) rfl;exact absurd h1 (by rw[q7];decide)
       have hb:=q0 hnl;refine A2 rfl fun K hK=>?_
       go_simp;exact hK _ _ ⟨by simp[hsz],fun h=>q0 ((AI _ (by decide)).symm.trans h),_,_,_,_,_,_,_,_,_,_,rfl,Ac (by decide) e0,fun _=>rfl,Ac (by decide) e2,Ac (by decide) e3,fun h h'=>e4 ((AI _ (by decide)).symm.trans h) ((AI _ (by decide)).symm.trans h'),Ac (by decide) e5,Ac (by decide) e6,Ac (by decide) e7,Ac (by decide) e8,Ac (by decide) e9⟩
      ·have q7:l.getD 2 false=false:=by simpa[A1,hsz] using hno
       have hnl:l.getD 9 false=false:=by
        cases h:l.getD 9 false
        ·rfl
        ·have h0:=q8 9 _ rfl h ⟨4,.data⟩ (by simp) rfl;have h1:=q8 4 _ rfl h0 ⟨3,.data⟩ (by simp) rfl;have h2:=q8 3 _ rfl h1 ⟨2,.data⟩ (by simp) rfl;exact absurd h2 (by rw[q7];decide)
       have hb:=q0 hnl;refine A2 rfl fun K hK=>?_
       go_simp;exact hK _ _ ⟨by simp[hsz],fun h=>q0 ((AI _ (by decide)).symm.trans h),_,_,_,_,_,_,_,_,_,_,rfl,Ac (by decide) e0,Ac (by decide) e1,fun _=>rfl,Ac (by decide) e3,fun h h'=>e4 ((AI _ (by decide)).symm.trans h) ((AI _ (by decide)).symm.trans h'),Ac (by decide) e5,Ac (by decide) e6,Ac (by decide) e7,Ac (by decide) e8,Ac (by decide) e9⟩
      ·have q7:l.getD 3 false=false:=by simpa[A1,hsz] using hno
       have hnl:l.getD 9 false=false:=by
        cases h:l.getD 9 false
        ·rfl
        ·have h0:=q8 9 _ rfl h ⟨4,.data⟩ (by simp) rfl;have h1:=q8 4 _ rfl h0 ⟨3,.data⟩ (by simp) rfl;exact absurd h1 (by rw[q7];decide)
       obtain rfl:=e2 (q6 _ rfl ⟨2,.data⟩ (by simp) rfl);have hb:=q0 hnl;refine A2 rfl fun K hK=>?_
       go_simp;refine (Aa jc w1 hb).mono ?_
       rintro e wn ⟨rfl,hb2⟩;show K _ _;exact hK _ _ ⟨by simp[hsz],fun _=>hb.trans (hb2.mono hb.size),_,_,_,_,_,_,_,_,_,_,rfl,Ac (by decide) e0,Ac (by decide) e1,Ac (by decide) e2,fun _=>rfl,fun h h'=>(fun hb2 ⟨a,h⟩=>⟨a,h.move fun k hk jp=>⟨hb2.block k jp,hk⟩⟩) hb2 (e4 ((AI _ (by decide)).symm.trans h) ((AI _ (by decide)).symm.trans h')),Ac (by decide) e5,Ac (by decide) e6,Ac (by decide) e7,Ac (by decide) e8,fun h=>absurd ((AI _ (by decide)).symm.trans h) (by rw[hnl];decide)⟩
      ·have q7:l.getD 4 false=false:=by simpa[A1,hsz] using hno
       have hnl:l.getD 9 false=false:=by
        cases h:l.getD 9 false
        ·rfl
        ·have h0:=q8 9 _ rfl h ⟨4,.data⟩ (by simp) rfl;exact absurd h0 (by rw[q7];decide)
       obtain rfl:=e1 (q6 _ rfl ⟨1,.data⟩ (by simp) rfl);obtain rfl:=e3 (q6 _ rfl ⟨3,.data⟩ (by simp) rfl);have hb:=q0 hnl;refine A2 rfl fun K hK=>?_
       go_simp;refine (Aa zk w1 hb).mono ?_
       rintro e wn ⟨g',qq,rfl,jk,htk,hb2⟩;show K _ _;exact hK _ _ ⟨by simp[hsz],fun _=>hb.trans (hb2.mono hb.size),_,_,_,_,_,_,_,_,_,_,rfl,Ac (by decide) e0,Ac (by decide) e1,Ac (by decide) e2,Ac (by decide) e3,fun _=>fun _=>⟨⟨_,_,_,rfl⟩,htk.move fun k hk _=>⟨rfl,D0 hb.size hk⟩⟩,Ac (by decide) e5,Ac (by decide) e6,Ac (by decide) e7,Ac (by decide) e8,fun h=>absurd ((AI _ (by decide)).symm.trans h) (by rw[hnl];decide)⟩
      ·have q7:l.getD 5 false=false:=by simpa[A1,hsz] using hno
       have hnl:l.getD 9 false=false:=by
        cases h:l.getD 9 false
        ·rfl
        ·have h0:=q8 9 _ rfl h ⟨8,.data⟩ (by simp) rfl;have h1:=q8 8 _ rfl h0 ⟨7,.data⟩ (by simp) rfl;have h2:=q8 7 _ rfl h1 ⟨5,.data⟩ (by simp) rfl;exact absurd h2 (by rw[q7];decide)
       have hb:=q0 hnl;refine A2 rfl fun K hK=>?_
       go_simp;exact hK _ _ ⟨by simp[hsz],fun h=>q0 ((AI _ (by decide)).symm.trans h),_,_,_,_,_,_,_,_,_,_,rfl,Ac (by decide) e0,Ac (by decide) e1,Ac (by decide) e2,Ac (by decide) e3,fun h h'=>e4 ((AI _ (by decide)).symm.trans h) ((AI _ (by decide)).symm.trans h'),fun _=>rfl,Ac (by decide) e6,Ac (by decide) e7,Ac (by decide) e8,Ac (by decide) e9⟩
      ·have q7:l.getD 6 false=false:=by simpa[A1,hsz] using hno
       have hnl:l.getD 9 false=false:=by
        cases h:l.getD 9 false
        ·rfl
        ·have h0:=q8 9 _ rfl h ⟨8,.data⟩ (by simp) rfl;have h1:=q8 8 _ rfl h0 ⟨7,.data⟩ (by simp) rfl;have h2:=q8 7 _ rfl h1 ⟨6,.data⟩ (by simp) rfl;exact absurd h2 (by rw[q7];decide)
       have hb:=q0 hnl;refine A2 rfl fun K hK=>?_
       go_simp;exact hK _ _ ⟨by simp[hsz],fun h=>q0 ((AI _ (by decide)).symm.trans h),_,_,_,_,_,_,_,_,_,_,rfl,Ac (by decide) e0,Ac (by decide) e1,Ac (by decide) e2,Ac (by decide) e3,fun h h'=>e4 ((AI _ (by decide)).symm.trans h) ((AI _ (by decide)).symm.trans h'),Ac (by decide) e5,fun _=>rfl,Ac (by decide) e7,Ac (by decide) e8,Ac (by decide) e9⟩
      ·have q7:l.getD 7 false=false:=by simpa[A1,hsz] using hno
       have hnl:l.getD 9 false=false:=by
        cases h:l.getD 9 false
        ·rfl
        ·have h0:=q8 9 _ rfl h ⟨8,.data⟩ (by simp) rfl;have h1:=q8 8 _ rfl h0 ⟨7,.data⟩ (by simp) rfl;exact absurd h1 (by rw[q7];decide)
       obtain rfl:=e5 (q6 _ rfl ⟨5,.data⟩ (by simp) rfl);obtain rfl:=e6 (q6 _ rfl ⟨6,.data⟩ (by simp) rfl);have hb:=q0 hnl;refine A2 rfl fun K hK=>?_
       go_simp;exact hK _ _ ⟨by simp[hsz],fun h=>q0 ((AI _ (by decide)).symm.trans h),_,_,_,_,_,_,_,_,_,_,rfl,Ac (by decide) e0,Ac (by decide) e1,Ac (by decide) e2,Ac (by decide) e3,fun h h'=>e4 ((AI _ (by decide)).symm.trans h) ((AI _ (by decide)).symm.trans h'),Ac (by decide) e5,Ac (by decide) e6,fun _=>rfl,Ac (by decide) e8,Ac (by decide) e9⟩
      ·have q7:l.getD 8 false=false:=by simpa[A1,hsz] using hno
       have hnl:l.getD 9 false=false:=by
        cases h:l.getD 9 false
        ·rfl
        ·have h0:=q8 9 _ rfl h ⟨8,.data⟩ (by simp) rfl;exact absurd h0 (by rw[q7];decide)
       obtain rfl:=e7 (q6 _ rfl ⟨7,.data⟩ (by simp) rfl);have hb:=q0 hnl;have z:=(hb.cell (p:=⟨g2,q,none⟩) zx).trans cq;refine A2 rfl fun K hK=>?_
       go_simp;exact hK _ _ ⟨by simp[hsz],fun h=>q0 ((AI _ (by decide)).symm.trans h),_,_,_,_,_,_,_,_,_,_,rfl,Ac (by decide) e0,Ac (by decide) e1,Ac (by decide) e2,Ac (by decide) e3,fun h h'=>e4 ((AI _ (by decide)).symm.trans h) ((AI _ (by decide)).symm.trans h'),Ac (by decide) e5,Ac (by decide) e6,Ac (by decide) e7,fun _=>rfl,Ac (by decide) e9⟩
      ·have q7:l.getD 9 false=false:=by simpa[A1,hsz] using hno
       have hnl:=q7;obtain rfl:=e0 (q6 _ rfl ⟨0,.data⟩ (by simp) rfl);have q4:=e4 (q6 _ rfl ⟨4,.data⟩ (by simp) rfl) hnl;obtain rfl:=e8 (q6 _ rfl ⟨8,.data⟩ (by simp) rfl);have hb:=q0 hnl;obtain⟨⟨xa,xl,xc,rfl⟩,htk⟩:=q4;refine A2 rfl fun K hK=>?_
       go_simp;refine (Aa qx w1 hb xa xl xc htk).mono ?_
       rintro e wn ⟨rfl,hM⟩;show K _ _;exact hK _ _ ⟨by simp[hsz],(fun h=>by rw[Qb hsz 9 (by decide)] at h;cases h),_,_,_,_,_,_,_,_,_,_,rfl,(Ac (by decide) e0),(Ac (by decide) e1),(Ac (by decide) e2),(Ac (by decide) e3),(fun _ h'=>by rw[Qb hsz 9 (by decide)] at h';cases h'),(Ac (by decide) e5),(Ac (by decide) e6),(Ac (by decide) e7),(Ac (by decide) e8),(fun _=>hM)⟩
    ·obtain rfl:t=ms.length:=by omega
     have jq:¬ ((ms.length:Nat):Int)<((ms.length:Nat):Int):=by omega
     have zo:=Ab (show Q (.returned (.tuple #[])) wr from by
      obtain⟨M',m2,m3,_⟩:=(Aa HD).ex;rw[Aa HQ];exact⟨rfl,M',by rw[Aa HP];rw[List.take_length] at m2;exact m2.less fun b hb=>A4 hb,(Aa qp).trans m3⟩)
     go_wp2_with (fail);exact bodyPost_end (results_none rfl _ _ _) rfl (Aa zo)
theorem Lx(m:List By->To->To->List Zk)(s:List By)(xs bs:List (Lit×To)):∀l k:List By,AY m s xs bs (l++k)=AY m s xs bs l++AY m s xs bs k
 | [],k=>rfl
 | a::l,k=>by rw[List.cons_append,AY,AY,Lx m s xs bs l k,BY]
theorem QV(xs bs:List (Lit×To)):(BS xs bs).length<=xs.length+bs.length:=by
 unfold BS;rw[CR];have h:∀ (bs xs:List (Lit×To)),(bs.foldl (fun (l:List (Lit×To)) q=>Zr q.1 .nil l) xs).length<=xs.length+bs.length:=fun bs=>by
  induction bs with
  | nil=>intro xs;simp
  | cons q r ih=>
   intro xs;rw[List.foldl_cons,CD];have h1:=ih (Zr q.1 .nil xs);have h2:=MP q.1 (.nil:To) xs;omega
 exact h bs xs
theorem JD(f:Nat)(es:List (Lit×To)):es.length<=Zh (f+1) (.map es):=by
 show es.length<=2+(es.map fun p=>(Ag (strOf p.1)).length+2+Zh f p.2).sum;induction es with
 | nil=>exact CL _
 | cons p r ih=>
  simp only[List.map_cons,List.sum_cons,CD] at *;omega
def X9(d x n:Int)(f:Nat):Prop:=∀ (lv:Int) (F F':Nat->Prop) (w:World) (Mk:Nat) (M:Nat->Prop) (av bv:Value) (a b:To) (s:List By) (pa:Option Addr) (pl pc:Nat) (ops:List Zk),MkD w Mk n M ops->Af w->(∀k,k<NG->M k)->(∀k,F k->M k)->(∀k,F' k->M k)->Rep f F w av a->Rep f F' w bv b->Zl d x f lv a->Zl d x f lv b->s.length+Zh f a<=400000->Zh f b<=400000->(ops.length:Int)+1000000*(d+1-lv)<=400000000->Au w M (.slice pa pl pc) s->(s=[] -> ∃c,(CH pa pl pc)=.slice none 0 c) ->
  Calls DD 123 #[.pointer (some ⟨Mk,0,none⟩),.slice pa pl pc,av,bv] w (Ct Mk n M ops (BQ n f s a b) w)
theorem Jp{d x n:Int}(qk:n<=2000):∀ (f:Nat),f<=top->X9 d x n f
 | 0,_=>fun _ _ _ _ _ _ _ _ _ _ _ _ _ _ _ _ _ _ _ _ h=>h.elim
 | f+1,hf=>by
  intro lv F F' w Mk M av bv a b s pa pl pc ops h hT q7 hF q5 ha hb ga gb hsa hsb qm hp q6;have hlv:lv<=d:=ga.1;have qe:ops.length<=400000000:=by omega
  refine Oh h ha hb hf q5 hp (by omega) (fun xs z e=>?_) (fun ys z e=>?_) ?_ ?_
  ·subst e;have:=Dk f xs z;omega
  ·subst e;have:=Dk f ys z;omega
  ·intro xs ys m1 n1 D1 m2 n2 D2 e1 e2 k1 k2 o1 p1 o2 p2 w1 hb1;subst e1 e2;obtain⟨h1,qn⟩:=h.bel hb1;have qf:=Aj o1 (hb1.block m1 (A7 o1));have qg:=Aj o2 (hb1.block m2 (A7 o2));have qh:=p1.mono fun _ _ hr=>hr.bel hb1;have qi:=p2.mono fun _ _ hr=>hr.bel hb1;have g1:=(B8 ga).2;have g2:=(B8 gb).2;have q0:∀k,(∀c,(Lit.string k,c)∈xs->k.length+1+Zh f c<=Zh (f+1) (.map xs)) /\ ∀c,(Lit.string k,c)∈ys->k.length+1+Zh f c<=Zh (f+1) (.map ys):=fun k=>by
    have hq:=E5 k;refine⟨fun c hm=>?_,fun c hm=>?_⟩
    ·have h3:(Ag k).length+2+Zh f c<=Zh (f+1) (.map xs):=EC (f:=f) hm;omega
    ·have h3:(Ag k).length+2+Zh f c<=Zh (f+1) (.map ys):=EC (f:=f) hm;omega
   have qo:=JD f xs;have qp:=JD f ys;have q9:∀t,(ops++AY (BQ n f) s xs ys ((BS xs ys).take t)).length<=ops.length+Zh (f+1) (.map xs)+Zh (f+1) (.map ys):=fun t=>by
    have h2:(AY (BQ n f) s xs ys (BS xs ys)).length<=Zh (f+1) (.map xs)+Zh (f+1) (.map ys):=Jd (n:=n) (s:=s) ga gb;have h3:=Lx (BQ n f) s xs ys ((BS xs ys).take t) ((BS xs ys).drop t);rw[List.take_append_drop] at h3;rw[h3,AT] at h2;rw[AT];omega
   refine MW h1 (by omega) hF q5 (hF _ k1) (q5 _ k2) qf qh qg qi (hp.move fun k hk q8=>⟨hb1.block k q8,hk⟩) (by omega) q6 (BS xs ys) (fun k hk=>?_) ?_ (fun t=>by have:=q9 t;omega) (P4 qf qh qg qi g1.skey g2.skey (by omega) (by omega)) ?_
   ·rcases (FD g1.skey g2.skey).1 hk with⟨c,hm⟩|⟨c,hm⟩
    ·have:=(q0 k).1 c hm;omega
    ·have:=(q0 k).2 c hm;omega
   ·have:=QV xs ys;omega
   ·rintro k hk u y hu hy M1 wr xv yv qa ql qc ops' ⟨t,rfl⟩ hm hx hrx hry htk;have qb:=Ek g1.skey hu;have qd:=Ek g2.skey hy;have q1:=(q0 k).1 u qb;have q2:=(q0 k).2 y qd;have q3:=q9 t;have q4:(AY (BQ n f) s xs ys ((BS xs ys).take t)).length<=1000000:=by rw[AT] at q3;omega
    refine Jp qk f (by omega) (lv+1) _ _ _ _ _ _ _ _ _ _ _ _ _ _ hm ?_ (fun j hj=>(hx.kept j (q7 j hj)).1) (fun j hj=>(hx.kept j (hF j hj)).1) (fun j hj=>(hx.kept j (q5 j hj)).1) hrx hry (g1.2 _ qb).2 (g2.2 _ qd).2 ?_ (by omega) ?_ htk (fun e=>by simp at e)
    ·exact (hT.below (hb1.mono hT.ng)).below ⟨hx.os,hx.tape,hx.output,hx.size,fun j hj=>(hx.kept j (q7 j hj)).2⟩
    ·rw[AT,List.length_singleton];omega
    ·omega
  ·intro xs ys qt qu qq qr e1 e2 qj o1 a1 o2 k2 a2 w1 hb1;subst e1 e2;obtain⟨h1,qn⟩:=h.bel hb1;refine Oi (F:=F) (F':=F') h1 (hT.below (hb1.mono hT.ng)) q7 (by omega) q5 ?_ (by omega) (AD o1 fun g hg=>hb1.block g (AC o1 g hg).1) (a1.mono fun _ _ hr=>hr.bel hb1) (AD o2 fun g hg=>hb1.block g (AC o2 g hg).1) k2 (a2.mono fun _ _ hr=>hr.bel hb1) (hp.move fun k hk q8=>⟨hb1.block k q8,hk⟩) (by omega) q6;have h5:(((xs.length+1)*(ys.length+1):Nat):Int)<=n:=by
    rw[Int.natCast_mul,C1,C1];exact qj
   omega
theorem QR:NP:=by
 intro d x n F F' w Mk M av bv a b q5 hT q4 hM hF q0 ha hb ga gb hd q6 hb2;exact Jp q5 top (E0 _) _ _ _ _ _ _ _ _ _ _ [] _ _ _ _ hM hT q4 hF q0 ha hb ga gb (by simp;omega) (by omega) (by simp;omega) (A4 ⟨rfl,none,0,rfl,by unfold maxLen;omega⟩) (fun _=>⟨0,rfl⟩)
theorem WM:Kd:=Qr QR
theorem Rn{l:List St}(h:∀o∈l,o.2.1.length<=1048576):Plain l:=by
 intro o ho;have hs:=h o ho;by_cases h1:o.1<3\/9<o.1
 ·exact A4 h1
 ·have hc:(o.1=3\/o.1=4)\/o.1=5\/o.1=6\/o.1=7\/o.1=8\/o.1=9:=by omega
  rcases hc with hc|hc|hc|hc|hc|hc
  ·exact AS (A4 ⟨hc,XI,VG,hs⟩)
  ·exact AS (AS (A4 ⟨hc,TQ⟩))
  ·exact AS (AS (AS (A4 ⟨hc,TY⟩)))
  ·exact AS (AS (AS (AS (A4 ⟨hc,R0⟩))))
  ·exact AS (AS (AS (AS (AS (A4 ⟨hc,WM⟩)))))
  ·exact AS (AS (AS (AS (AS (AS ⟨hc,MQ⟩)))))
end Go.Proofs.YtdpomdelmdofmaaGreatDoor
