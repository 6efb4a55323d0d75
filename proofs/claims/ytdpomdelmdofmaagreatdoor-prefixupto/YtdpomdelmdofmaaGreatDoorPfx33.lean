import Derived.Test.YtdpomdelmdofmaaGreatDoorPfx32
open Go.Proofs.Tryz renaming prog->AI
open Go renaming World->AS,Value->A1,heap_alloc_new->A5,callsIn_wide->C1,Calls->Dp,undef->Dt
open Go.World renaming cell?->AT,putObj_heap_other->A6,setCell->DD,putObj->D3
open List renaming getElem?_eq_getElem->A2
open Array renaming getElem?_eq_some_iff->A3
open Or renaming inr->A4,inl->BY
open Go.RowKit.Below renaming refl->CD,heap_setCell->CR
open Go.Instr renaming lookup->CH
open Nat renaming le_refl->CL,le_trans->D2
open Go.Maps renaming atKey_of_not_has->C2,look_nil->D0
open Go.RowKit renaming Below->D1
set_option maxRecDepth 100000
set_option maxHeartbeats 8000000
namespace Go.Proofs.YtdpomdelmdofmaaGreatDoor
open Go.Proofs.Tryz Go.RowKit Go.Maps
section
theorem CB(w:AS)(a:Addr)(m:Mode)(f:Fn)(b c:Array A1):(store a (.func f b c) m).run AI w=stored AI w a (.func f b c) m:=run_store AI w a _ m rfl
attribute [local go_sem] Oper.semAt_some CB
theorem JA{w:AS}{B e n:Nat}{v:A1}{xs:List A1}(h:w.ownsRow B e 5 v n xs):xs.length=n*5/\n<=maxLen /\ ∃ao cap g,v=.slice ao n cap/\(0<n->ao=some ⟨g,0,none⟩/\v.ownBlock=some g/\g<w.heap.size /\ ∀k (hk:k<xs.length),w.cell? ⟨g,k,none⟩=some xs[k]):=by
 obtain⟨q0,h⟩:=h;rcases h with⟨h1,h0⟩|⟨g,cap,cur,h1,_,h3,h4,h5,h6,h7⟩
 ·subst h0;exact⟨q0,Nat.zero_le _,none,0,0,h1,fun h=>by omega⟩
 ·refine⟨q0,by omega,some ⟨g,0,none⟩,cap,g,h1,fun _=>⟨rfl,by rw[h1];rfl,(A3.1 h3).1,fun k hk=>?_⟩⟩;have q4:k<cur.size:=by rw[h6];omega
  have e:w.cell? ⟨g,k,none⟩=cur[k]?:=by simp[AT,h3]
  rw[e,Array.getElem?_eq_getElem q4];congr 1;have h8:xs[k]? = some cur[k]:=by
   rw[<- h7,List.getElem?_take,if_pos (by omega)];simp
  rw[A2 hk] at h8;exact (Option.some.inj h8).symm
theorem Jrn.at{w:AS}{G:Nat->Prop}:∀ {xs:List A1} {cs:List Clo} {js:List Zk},Jrn w G xs cs js->cs.length=js.length /\ ∀i (h:i<js.length) (h2:i<cs.length),∃kv pv fv vv,xs[i*5]? = some (Fx cs[i])/\xs[i*5+1]? = some kv/\xs[i*5+2]? = some pv/\xs[i*5+3]? = some fv/\xs[i*5+4]? = some vv/\EW w G kv pv fv vv js[i]
 | [],[],[],_=>⟨rfl,fun i h=>by cases h⟩
 | cv::kv::pv::fv::vv::r,c::s,o::t,⟨e,a,b⟩=>by
  obtain⟨h1,h2⟩:=Jrn.at b;refine⟨by simp[h1],fun i h h'=>?_⟩;cases i with
  | zero=>exact⟨kv,pv,fv,vv,by rw[e];rfl,rfl,rfl,rfl,rfl,a⟩
  | succ i=>
   obtain⟨q7,q8,q6,q9,q0,q1,q2,q3,q4,q5⟩:=h2 i (by simpa using h) (by simpa using h');refine⟨q7,q8,q6,q9,?_,?_,?_,?_,?_,q5⟩
   ·rw[show (i+1)*5=i*5+5 by omega];exact q0
   ·rw[show (i+1)*5+1=i*5+1+5 by omega];exact q1
   ·rw[show (i+1)*5+2=i*5+2+5 by omega];exact q2
   ·rw[show (i+1)*5+3=i*5+3+5 by omega];exact q3
   ·rw[show (i+1)*5+4=i*5+4+5 by omega];exact q4
structure Dn(L:Nat)(w wB:AS)(D Bs g N B:Nat)(rv:A1)(Tb:Zf)(Mb M:Nat->Prop)(wb:AS)(cs:List Clo)(k:Nat)(W:AS):Prop where
 box:W.heap[Bs]? = wB.heap[Bs]?
 row:0<N->W.heap[g]? = w.heap[g]?
 doc:W.heap[D]? = w.heap[D]?
 os:W.os=w.os
 tape:W.tape=w.tape
 output:W.output=w.output
 size:B<=W.heap.size
 back:∃Tk Mk wk,Und L w.heap.size rv Tb Mb wb (cs.reverse.drop k) Tk Mk wk/\(∀j,Mk j->M j)/\BG L rv Tk Mk (fun j=>j=D\/j=Bs\/(0<N/\j=g)\/j=B\/j=B+1) wk W
structure L6(L:Nat)(w wB:AS)(D Bs g N B:Nat)(rv:A1)(Tb:Zf)(Mb M:Nat->Prop)(wb:AS)(cs:List Clo)(E:Array A1)(k X:Nat)(W:AS):Prop where
 inv:Dn L w wB D Bs g N B rv Tb Mb M wb cs k W
 ne:X≠B/\X≠B+1
 blk:W.heap[X]? = some (.cells E 230 (0,0))
section
variable{L:Nat}{w wB:AS}{D Bs g N B:Nat}{rv:A1}{Tb:Zf}{Mb M:Nat->Prop}{wb:AS}{cs:List Clo}
theorem Dn.apart(hM:∀j,M j->j<w.heap.size)(hB:B=w.heap.size+1)(q0:Bs=w.heap.size)(hD:D<w.heap.size)(hg:0<N->g<w.heap.size)(k:Nat):Dy B (Dn L w wB D Bs g N B rv Tb Mb M wb cs k):=by
 intro W W' h e1 e2 e3 e4 e5;have hs:=h.size;obtain⟨Tk,Mk,wk,h1,h2,h3⟩:=h.back;refine⟨(e5 Bs (by omega) (by omega) (by omega)).trans h.box,fun hN=>(e5 g (by have:=hg hN;omega) (by have:=hg hN;omega) (by have:=hg hN;omega)).trans (h.row hN),(e5 D (by omega) (by omega) (by omega)).trans h.doc,e1.trans h.os,e2.trans h.tape,e3.trans h.output,D2 hs e4,Tk,Mk,wk,h1,h2,?_⟩;obtain⟨T',r1,r2,r3,r4⟩:=h3.tree;refine⟨⟨T',r1,r2.move fun j hj=>e5 j (r2.lt j hj) (fun e=>(r4 j hj).2 (by rw[e];simp)) (fun e=>(r4 j hj).2 (by rw[e];simp)),r3,r4⟩,fun j hj=>(e5 j (h3.low j hj) (by have:=hM j (h2 j hj);omega) (by have:=hM j (h2 j hj);omega)).trans (h3.held j hj),fun j hj=>Nat.lt_of_lt_of_le (h3.low j hj) e4⟩
theorem L6.apart{E:Array A1}(hM:∀j,M j->j<w.heap.size)(hB:B=w.heap.size+1)(q0:Bs=w.heap.size)(hD:D<w.heap.size)(hg:0<N->g<w.heap.size)(k X:Nat):Dy B (L6 L w wB D Bs g N B rv Tb Mb M wb cs E k X):=by
 intro W W' h e1 e2 e3 e4 e5;exact⟨Dn.apart hM hB q0 hD hg k W W' h.inv e1 e2 e3 e4 e5,h.ne,(e5 X (A3.1 h.blk).1 h.ne.1 h.ne.2).trans h.blk⟩
theorem Dn.turn{k:Nat}{c:Clo}{W:AS}(hM:∀j,M j->j<w.heap.size)(q0:¬ M D)(q4:0<N -> ¬ M g)(hB:B=w.heap.size+1)(q6:Bs=w.heap.size)(hD:D<w.heap.size)(hg:0<N->g<w.heap.size)(hl:B+1<W.heap.size)
  (h:Dn L w wB D Bs g N B rv Tb Mb M wb cs k W) (hc:cs.reverse[k]? = some c):
  Ent c.1/\Dp AI c.1 c.2 W fun e W'=>e=.returned (.tuple #[])/\Two B W W'/\Dn L w wB D Bs g N B rv Tb Mb M wb cs (k+1) W':=by
 obtain⟨Tk,Mk,wk,h1,h2,h3⟩:=h.back;obtain⟨hk,q5⟩:=List.getElem?_eq_some_iff.1 hc;rw[List.drop_eq_getElem_cons hk,q5] at h1;obtain⟨T0,M0,wk0,u1,u2,u3,u4,u5⟩:=h1;refine⟨u5,(u2 _ W (fun j hj=>?_) h3).mono ?_⟩
 ·have hs:=h.size;refine⟨fun hm=>?_,?_⟩
  ·have:=hM j (h2 j hm);rcases hj with rfl|rfl|⟨hN,rfl⟩|rfl|rfl
   ·exact q0 (h2 _ hm)
   ·omega
   ·exact q4 hN (h2 _ hm)
   ·omega
   ·omega
  ·rcases hj with rfl|rfl|⟨hN,rfl⟩|rfl|rfl
   ·omega
   ·omega
   ·have:=hg hN;omega
   ·omega
   ·omega
 ·rintro e W' ⟨rfl,t1,k1,k2,k3,k4,k5⟩;refine⟨rfl,⟨k5 _ (by simp),k5 _ (by simp)⟩,(k5 _ (by simp)).trans h.box,fun hN=>(k5 _ (A4 (A4 (BY ⟨hN,rfl⟩)))).trans (h.row hN),(k5 _ (by simp)).trans h.doc,k1.trans h.os,k2.trans h.tape,k3.trans h.output,D2 h.size k4,T0,M0,wk0,u1,fun j hj=>h2 j (u3 j hj),t1⟩
end
theorem Mh{L:Nat}{w:AS}{D:Nat}{rv jn iv:A1}{ch:Bool}{Tb T:Zf}{Mb M:Nat->Prop}{wb:AS}{js:List Zk}(h:Bm L w D rv jn iv ch Tb Mb wb T M js)(qr:∀k,Mb k->k≠D/\k<w.heap.size):
  Dp AI 118 #[.pointer (some ⟨D,0,none⟩)] w fun e w'=>e=.returned (.tuple #[])/\DB w' D rv (.slice none 0 0) ch iv/\BG L rv Tb Mb (fun k=>k=D) wb w'/\w'.os=w.os/\w'.tape=w.tape/\w'.output=w.output/\w.heap.size<=w'.heap.size:=by
 obtain⟨xs,cs,qk,qh,qz,qi⟩:=h.ex;obtain⟨z6,hl,ao,cap,g,qy,hg⟩:=JA qh;obtain⟨qw,q5⟩:=qz.at
 obtain⟨N,hN⟩:∃N,N=js.length:=⟨_,rfl⟩
 rw[<- hN] at z6 hg qw qy hl;subst qy;have qm:=qk.lt;have hM:∀j,M j->j<w.heap.size:=fun j hj=>(h.low j hj).1;obtain⟨c,hc⟩:∃c:Nat->A1,c=fun j=>xs[j]?.getD .nilFunc:=⟨_,rfl⟩
 obtain⟨wB,qj⟩:∃wB,wB=w.alloc (.cells #[.slice ao N cap] 112):=⟨_,rfl⟩
 have qt:wB.heap[w.heap.size]? = some (.cells #[.slice ao N cap] 112 (0,0)):=by rw[qj];exact A5 w _
 have zk:wB.heap.size=w.heap.size+1:=by rw[qj];simp
 have q7:D1 w.heap.size w wB:=by rw[qj];exact (CD _ _).alloc (CL _) _
 obtain⟨B,hB⟩:∃B,B=w.heap.size+1:=⟨_,rfl⟩
 have qn:0<N->g<w.heap.size:=fun hp=>(hg hp).2.2.1;have qx:0<N -> ¬ M g:=fun hp=>(h.jM g (hg hp).2.1).1;have h0:Dn L w wB D w.heap.size g N B rv Tb Mb M wb cs 0 wB:=by
  refine⟨rfl,fun hp=>q7.block g (qn hp),q7.block D qm,q7.os,q7.tape,q7.output,by omega,T,M,w,qi,fun _ hj=>hj,⟨T,rfl,h.tr.bel q7,h.nd,fun k hk=>⟨fun hm=>(h.low k hm).2 hk,fun hn=>?_⟩⟩,fun k hk=>q7.block k (hM k hk),fun k hk=>by have:=hM k hk;omega⟩;have zo:=h.tr.lt k hk;rcases hn with rfl|rfl|⟨hp,rfl⟩|rfl|rfl
  ·exact h.dD.1 hk
  ·omega
  ·exact (h.jM _ (hg hp).2.1).2 hk
  ·omega
  ·omega
 have qg:=Ab (fun (k:Nat) (cc:Clo) (W:AS) (zn:B+1<W.heap.size) (hI:Dn L w wB D w.heap.size g N B rv Tb Mb M wb cs k W) (zl:cs.reverse[k]? = some cc)=>Dn.turn hM h.dD.2 qx hB rfl qm qn zn hI zl);have HI:=Ab (fun k=>Dn.apart (L:=L) (w:=w) (wB:=wB) (D:=D) (Bs:=w.heap.size) (g:=g) (N:=N) (B:=B) (rv:=rv) (Tb:=Tb) (Mb:=Mb) (M:=M) (wb:=wb) (cs:=cs) hM hB rfl qm qn k);have HA:=Ab (fun (E:Array A1) (k X:Nat)=>L6.apart (L:=L) (w:=w) (wB:=wB) (D:=D) (Bs:=w.heap.size) (g:=g) (N:=N) (B:=B) (rv:=rv) (Tb:=Tb) (Mb:=Mb) (M:=M) (wb:=wb) (cs:=cs) (E:=E) hM hB rfl qm qn k X);have qf:=Ab (fun (k:Nat) (hk:k<N)=>(show ∃ (fn:Nat) (caps:Array A1) (kk:Int) (pa:Option Addr) (pl pc:Nat) (x:Option Addr),cs.reverse[k]? = some (fn,caps)/\c ((N-1-k)*5)=.func (.func fn) #[] caps/\c ((N-1-k)*5+1)=.int .i64 kk/\c ((N-1-k)*5+2)=.slice pa pl pc/\c ((N-1-k)*5+3)=.slice none 0 0/\c ((N-1-k)*5+4)=.pointer x from by
  have h1:N-1-k<cs.length:=by omega
  obtain⟨kv,pv,fv,vv,q0,q1,q2,q3,q4,o1,_,o2,o3,o4⟩:=q5 (N-1-k) (by omega) h1;obtain⟨pa,pl,pc,rfl⟩:∃pa pl pc,pv=.slice pa pl pc:=by
   rcases o2 with⟨_,a,c,e,_⟩|⟨g,o,cap,e,_⟩
   ·exact⟨_,_,_,e⟩
   ·exact⟨_,_,_,e⟩
  obtain⟨x,rfl⟩:∃x,vv=.pointer x:=by
   rcases o4 with⟨_,e⟩|⟨_,hr⟩
   ·exact⟨_,e⟩
   ·obtain⟨b,e,_⟩:=hr;exact⟨_,e⟩
  subst o1;subst o3;refine⟨cs[N-1-k].1,cs[N-1-k].2,(((js[N-1-k]'(by omega)).1:Nat):Int),pa,pl,pc,x,?_,?_,?_,?_,?_,?_⟩
  ·rw[List.getElem?_reverse (by omega),A2 (by omega)];congr 2;omega
  ·rw[hc];simp only[q0];rfl
  ·rw[hc];simp only[q1];rfl
  ·rw[hc];simp only[q2];rfl
  ·rw[hc];simp only[q3];rfl
  ·rw[hc];simp only[q4];rfl))
 have qe:=Ab (fun (hp:0<N)=>(show ∀j,j<N*5->w.cell? ⟨g,j,none⟩=some (c j) from fun j hj=>by
  rw[(hg hp).2.2.2 j (by omega),hc];simp[A2 (show j<xs.length by omega)]))
 have z7:=Ab (fun (hp:0<N)=>(hg hp).1);have H0:=Ab h0;have qo:=Ab (fun (W:AS) (hI:Dn L w wB D w.heap.size g N B rv Tb Mb M wb cs N W)=>(show BG L rv Tb Mb (fun j=>j=D\/j=w.heap.size\/(0<N/\j=g)\/j=B\/j=B+1) wb W from by
  obtain⟨Tk,Mk,wk,u1,_,u3⟩:=hI.back;rw[List.drop_eq_nil_of_le (by simp;omega)] at u1;exact u1 _ W u3))
 have zc:=Ab qr;have zb:=Ab qk;have c1:=qk.c1;have z8:=Ab qt;have qb:=Ab zk;have zj:N<=maxLen:=hl;clear h qh qz qi z6 hg qw q5 hM qx h0 qk qt q7 qr hl hN hc;have q6:=Ab hB;have ze:=Ab qj;clear hB qj;refine (C1 (n:=0)).1 (callsIn_of_wp_marks func118 rfl trivial ?_ rfl);simp only[ntmps118,List.size_toArray,List.length_cons,List.length_nil,Nat.reduceAdd,Nat.reduceSub,Array.replicate_succ,Array.replicate_zero,List.push_toArray,List.append_toArray,List.nil_append,List.cons_append]
 gi_wp2_with (refine⟨trivial,rfl,?_⟩;gi_at_call 158;refine (C1.2 LC).mono ?_;rintro e w' ⟨rfl,rfl⟩)
 rw[<- Aa ze];refine FU (gf:=204) (lb:=#[.pointer (some ⟨w.heap.size,0,none⟩)]) rfl (Fv func204 (by kernel_rfl) rfl) N (fun k=>#[.int .i64 ((N-1-k:Nat):Int),GL c (N-1-k)]) (fun _=>rfl) (Dn L w wB D w.heap.size g N B rv Tb Mb M wb cs)
  (fun k a' W=>∃X,L6 L w wB D w.heap.size g N B rv Tb Mb M wb cs #[c ((N-1-k)*5),c ((N-1-k)*5+1),c ((N-1-k)*5+2),c ((N-1-k)*5+3),c ((N-1-k)*5+4)] k X W/\a'={ tmps:=#[.pointer (some ⟨D,0,none⟩),Dt,Dt,.pointer (some ⟨X,0,none⟩),.pointer (some ⟨D,0,none⟩),.pointer (some ⟨D,0,none⟩),.pointer (some ⟨D,1,none⟩),.slice ao N cap,.func (.func 204) #[] #[.pointer (some ⟨w.heap.size,0,none⟩)],.int .i64 ((N-1-k:Nat):Int),GL c (N-1-k),Dt,Dt,Dt,Dt,Dt,Dt],defers:=[] })
  ?hI ?hA (Aa H0) ?hiter ?hassign ?hbody ?hdone
 case hI=>
  rw[Aa qb,<- Aa q6];exact Aa HI
 case hA=>
  rw[Aa qb,<- Aa q6];rintro k a' W W' ⟨X,hX,e⟩ e1 e2 e3 e4 e5;exact⟨X,Aa HA _ k X W W' hX e1 e2 e3 e4 e5,e⟩
 case hiter=>
  intro l J W zh hY zg;refine NI (cap:=cap) zj (Aa z7) (fun k W hj=>?_) hY zg;have hi:=zh k W hj;refine⟨?_,fun j zm=>?_⟩
  ·have:=hi.box.trans (Aa z8);simp[AT,this]
  ·have hp:0<N:=by omega
   rw[World.cell?_of_block (w:=w) (hi.row hp)];exact Aa qe hp j zm
 case hassign=>
  intro l k W hk hi hsz;rw[Aa qb,<- Aa q6] at hsz |-;have q9:=Ab hi;obtain⟨fn,caps,kk,pa,pl,pc,x,_,e0,e1,e2,e3,e4⟩:=Aa qf k hk;clear hi;unfold GL;rw[e0,e1,e2,e3,e4];clear e0 e1 e2 e3 e4
  gi_wp2
  have hb:=(CD W.heap.size W).alloc (CL _) (.cells #[.func (.func fn) #[] caps,.int .i64 kk,.slice pa pl pc,.slice none 0 0,.pointer x] 230);exact⟨⟨hb.block B (by omega),hb.block (B+1) (by omega)⟩,⟨Aa HI k W _ (Aa q9) hb.os hb.tape hb.output hb.size fun j hj _ _=>hb.block j hj,⟨by omega,by omega⟩,A5 W _⟩⟩
 case hbody=>
  rintro l k a' W hk ⟨X,hX,rfl⟩ hsz -;rw[Aa qb,<- Aa q6] at hsz |-;obtain⟨fn,caps,kk,pa,pl,pc,x,qu,qv,e1,e2,e3,e4⟩:=Aa qf k hk;obtain⟨q5,q8⟩:=Aa qg k (fn,caps) W hsz hX.inv qu;have x0:W.cell? ⟨X,0,none⟩=some (.func (.func fn) #[] caps):=by
   have:=hX.blk;rw[qv] at this;simp[AT,this]
  have qp:=Ab q5;have qd:=Ab q8;clear q5 q8 qu qv hX e1 e2 e3 e4
  gi_wp2
  rw[Aa qp,Oper.uponIn_enter];refine⟨trivial,fun hh=>(by cases hh),((C1 (n:=0)).2 (Aa qd)).mono ?_⟩;rintro e W' ⟨rfl,ht,hI2⟩
  gi_wp2
 case hdone=>
  intro W hI hK;rw[Aa qb,<- Aa q6] at hK |-;have hW:=Aa qo W hI;have qq:=Aa q6;have hd:=(Aa zb).kept hI.doc;have d1:=hd.c1;have dz:W.frozen? ⟨D,1,none⟩=false:=by simp[World.frozen?,show W.heap[D]? = _ from hd]
  have HW:=Ab hW;have za:=Ab hd;have q9:=Ab hI;clear hW hd hI qq
  gi_wp2
  have qq:=Aa q6;have zi:(W.setCell ⟨D,1,none⟩ (.slice none 0 0)).heap[B]? = some (.deferred (some [])):=(CR _ _ _ _ (by have:=Aa q6;show B≠D;omega)).trans hK;refine⟨by simp,.inl ⟨_,_,rfl,run_takeDeferred zi,?_⟩⟩;refine⟨_,results_none rfl _ _ _,rfl,?_⟩;have zf:DB (W.setCell ⟨D,1,none⟩ (.slice none 0 0)) D rv (.slice none 0 0) ch iv:=(Aa za).set1 _;have z1:∀j,j≠D->j≠B->((W.setCell ⟨D,1,none⟩ (.slice none 0 0)).putObj B (.deferred none)).heap[j]? = W.heap[j]?:=fun j h1 h2=>(A6 (by omega)).trans (CR _ _ _ _ h1);obtain⟨T',r1,r2,r3,r4⟩:=(Aa HW).tree;refine⟨(A6 (by omega)).trans zf,⟨⟨T',r1,r2.move fun j hj=>z1 j (fun e=>(r4 j hj).2 (BY e)) (fun e=>(r4 j hj).2 (by rw[e];simp)),r3,fun j hj=>⟨(r4 j hj).1,fun e=>(r4 j hj).2 (BY e)⟩⟩,fun j hj=>?_,fun j hj=>?_⟩,(Aa q9).os,(Aa q9).tape,(Aa q9).output,?_⟩
  ·obtain⟨m1,m2⟩:=Aa zc j hj;exact (z1 j m1 (by omega)).trans ((Aa HW).held j hj)
  ·have:=(Aa HW).low j hj;simpa[D3,DD] using this
  ·have:=(Aa q9).size;simp[D3,DD];omega
end
section
attribute [local go_sem] CB
section
variable{w:AS}{D k:Nat}{pa fa y wp:Option Addr}{pl pc fl fc:Nat}
def opF(k:Nat):Nat:=[151,152,153,154,155,156].getD k 0
theorem Xt{k:Nat}(hk:k<6):∀args w,(callFunc (opF k) args).run AI w=.ok (.enter (opF k) args) w:=by
 intro args w
 match k,hk with
 | 0,_=>exact Ca func151 (by kernel_rfl) rfl args w
 | 1,_=>exact Ca func152 (by kernel_rfl) rfl args w
 | 2,_=>exact Ca func153 (by kernel_rfl) rfl args w
 | 3,_=>exact Ca func154 (by kernel_rfl) rfl args w
 | 4,_=>exact Ca func155 (by kernel_rfl) rfl args w
 | 5,_=>exact Ca func156 (by kernel_rfl) rfl args w
theorem WT{Q:Nat->AS->Prop}(hk:k<6)(hC:∀w1,D1 w.heap.size w w1->Dp AI (opF k) #[.pointer (some ⟨D,0,none⟩),opV k pa pl pc fa fl fc y] w1 fun e w'=>∃c:Nat,e=.returned (.int .i64 c)/\Hid (Q c w')):
  Dp AI 116 #[.pointer (some ⟨D,0,none⟩),opV k pa pl pc fa fl fc y] w fun e w'=>∃c:Nat,e=.returned (.int .i64 c)/\Q c w':=by
 have HC:=Ab hC;have q9:=Ab (Xt hk);obtain⟨w6,q5⟩:∃w6,w6=(w.alloc (.cells #[.int .i64 k,.slice pa pl pc,.slice fa fl fc,.pointer y] 178)).alloc (.cells #[.func (.func 151) #[.pointer (some ⟨D,0,none⟩)] #[],.func (.func 152) #[.pointer (some ⟨D,0,none⟩)] #[],.func (.func 153) #[.pointer (some ⟨D,0,none⟩)] #[],.func (.func 154) #[.pointer (some ⟨D,0,none⟩)] #[],.func (.func 155) #[.pointer (some ⟨D,0,none⟩)] #[],.func (.func 156) #[.pointer (some ⟨D,0,none⟩)] #[]] 225):=⟨_,rfl⟩
 have hob:OpB (w.alloc (.cells #[.int .i64 k,.slice pa pl pc,.slice fa fl fc,.pointer y] 178)) w.heap.size k pa pl pc fa fl fc y:=A5 w _;have q6:=(CD w.heap.size w).alloc (CL _) (.cells #[.int .i64 k,.slice pa pl pc,.slice fa fl fc,.pointer y] 178);have q4:OpB w6 w.heap.size k pa pl pc fa fl fc y:=by rw[q5];exact hob.low ((CD _ _).alloc (CL _) _)
 have q0:w6.heap[w.heap.size+1]? = some (.cells #[.func (.func 151) #[.pointer (some ⟨D,0,none⟩)] #[],.func (.func 152) #[.pointer (some ⟨D,0,none⟩)] #[],.func (.func 153) #[.pointer (some ⟨D,0,none⟩)] #[],.func (.func 154) #[.pointer (some ⟨D,0,none⟩)] #[],.func (.func 155) #[.pointer (some ⟨D,0,none⟩)] #[],.func (.func 156) #[.pointer (some ⟨D,0,none⟩)] #[]] 225 (0,0)):=by
  have:=A5 (w.alloc (.cells #[.int .i64 k,.slice pa pl pc,.slice fa fl fc,.pointer y] 178)) (.cells #[.func (.func 151) #[.pointer (some ⟨D,0,none⟩)] #[],.func (.func 152) #[.pointer (some ⟨D,0,none⟩)] #[],.func (.func 153) #[.pointer (some ⟨D,0,none⟩)] #[],.func (.func 154) #[.pointer (some ⟨D,0,none⟩)] #[],.func (.func 155) #[.pointer (some ⟨D,0,none⟩)] #[],.func (.func 156) #[.pointer (some ⟨D,0,none⟩)] #[]] 225);rw[World.size_alloc] at this;rw[q5];exact this
 have q8:D1 w.heap.size w w6:=by rw[q5];exact q6.alloc q6.size _
 have c0:=q4.c0;have c1:=q4.c1;have c2:=q4.c2;have c3:=q4.c3;have cf:w6.cell? ⟨w.heap.size+1,k,none⟩=some (.func (.func (opF k)) #[.pointer (some ⟨D,0,none⟩)] #[]):=by
  match k,hk with
  | 0,_=>simp[AT,q0];rfl
  | 1,_=>simp[AT,q0];rfl
  | 2,_=>simp[AT,q0];rfl
  | 3,_=>simp[AT,q0];rfl
  | 4,_=>simp[AT,q0];rfl
  | 5,_=>simp[AT,q0];rfl
 have HB:=Ab q8;have q7:=Ab q5;have qb:(k:Int)<6:=by omega
 have hk2:(0:Int)<=(k:Int):=by omega
 generalize opF k=fk at *;clear hC hob q6 q4 q0 q8 q5
 go_enter func116,ntmps116
 go_wp2_with (fail);rw[<- Aa q7]
 clear q7
 go_region_with (first
  | (rw[Aa q9,Oper.upon_enter];refine (Aa HC _ ?_).mono ?_;exact⟨(Aa HB).os,(Aa HB).tape,(Aa HB).output,(Aa HB).size,(Aa HB).block⟩;rintro e w2 ⟨c,rfl,hq⟩))
 all_goals (
  go_wp2_with (fail)
  go_ret;exact⟨c,rfl,Aa hq⟩)
end
end
section
variable{w:AS}{D R:Nat}{wp:Option Addr}{jn iv:A1}{ch:Bool}{Tb T a:Zf}{Mb M:Nat->Prop}{wb:AS}{v xv:To}{js:List Zk}{y:Option Addr}{F:Nat->Prop}{d x:Int}{B:Nat}
 {k:Nat} {pa fa:Option Addr} {pl pc fl fc:Nat} {p q:List By}
def GR(w:AS)(G:Nat->Prop)(o:ZT)(pa:Option Addr)(pl pc:Nat)(fa:Option Addr)(fl fc:Nat)(y:Option Addr):Prop:=
 o.1<6/\Au w G (.slice pa pl pc) o.2.1/\((o.1=3\/o.1=4)->Au w G (.slice fa fl fc) o.2.2.1)/\((o.1=0\/o.1=2\/o.1=5)->Rep top G w (.pointer y) o.2.2.2)
def bN(d x:Int)(B:Nat)(o:ZT):Prop:=Z2 o.2.1/\((o.1=3\/o.1=4)->Z2 o.2.2.1)/\((o.1=0\/o.1=2\/o.1=5)->Zx d x B o.2.2.2)
theorem XT{o:ZT}(h:JS w D R wp jn iv ch Tb Mb wb T a v M js)(hT:Af w)(q5:∀k,k<NG->M k)(hv:Zx d x B v)(hB:B<=900000000)(hl:js.length<=900000000)(ho:GR w (GA (top+1) Tb wb M) o pa pl pc fa fl fc y)(q6:bN d x B o):
  Dp AI 116 #[.pointer (some ⟨D,0,none⟩),opV o.1 pa pl pc fa fl fc y] w fun e w'=>AM D R iv ch Tb Mb wb M js w (aX v o) e w':=by
 have hM:∀k,M k->k<w.heap.size:=fun k hk=>(h.j.low k hk).1;obtain⟨k,p,q,xv⟩:=o;obtain⟨o1,o2,o3,o4⟩:=ho;obtain⟨k1,k2,k3⟩:=q6;simp only at o1 o2 o3 o4 k1 k2 k3 |-;refine (WT (Q:=fun c w'=>AM D R iv ch Tb Mb wb M js w (aX v (k,p,q,xv)) (.returned (.int .i64 c)) w') o1 fun w1 hb1=>?_).mono ?_
 ·have q0:∀ {r:Except Nat (To×List Zk)} {f:Nat},aX v (k,p,q,xv)=r->Dp AI f #[.pointer (some ⟨D,0,none⟩),opV k pa pl pc fa fl fc y] w1 (fun e w'=>AM D R iv ch Tb Mb wb M js w1 r e w') ->
    Dp AI f #[.pointer (some ⟨D,0,none⟩),opV k pa pl pc fa fl fc y] w1 (fun e w'=>∃c:Nat,e=.returned (.int .i64 c)/\Hid (AM D R iv ch Tb Mb wb M js w (aX v (k,p,q,xv)) (.returned (.int .i64 c)) w')):=by
   intro r f hr hc;refine hc.mono ?_;rintro e w' he;obtain⟨c,rfl,h2⟩:=he.form;rw[hr];exact⟨c,rfl,AM.below hb1 hM (Aa h2)⟩
  have hJ:=h.bel hb1;have q4:=hT.bel hb1;have p1:=o2.at hb1
  match k,o1 with
  | 0,_=>exact q0 rfl (SF hJ q4 hv (k3 (BY rfl)) hB (by omega) ((o4 (BY rfl)).bel hb1) p1 k1)
  | 1,_=>exact q0 rfl (Nu hJ q4 hv hB (by omega) p1 k1)
  | 2,_=>exact q0 rfl (LQ hJ q4 hv (k3 (A4 (BY rfl))) hB (by omega) ((o4 (A4 (BY rfl))).bel hb1) p1 k1)
  | 3,_=>exact q0 rfl (Qm hJ q4 q5 hv hB hl p1 k1 ((o3 (BY rfl)).at hb1) (k2 (BY rfl)))
  | 4,_=>exact q0 rfl (Qp hJ q4 hv hB (by omega) p1 k1 ((o3 (A4 rfl)).at hb1) (k2 (A4 rfl)))
  | 5,_=>exact q0 rfl (Qk hJ q4 ((o4 (A4 (A4 rfl))).bel hb1) p1 k1)
 ·rintro e w' ⟨c,rfl,h2⟩;exact h2
end
def GT(f:Nat)(F:Nat->Prop)(w:AS)(v:A1)(o:Option To):Prop:=match o with
 | none=>v=.pointer none
 | some d=>Rep f F w v d
theorem GT.ptr{f:Nat}{F:Nat->Prop}{w:AS}{v:A1}{o:Option To}(h:GT f F w v o):∃p,v=.pointer p:=by
 cases o with
 | none=>exact⟨_,h⟩
 | some d=>obtain⟨b,e,_⟩:=Rep.ptr h;exact⟨_,e⟩
theorem GT.bel{f:Nat}{F:Nat->Prop}{w w':AS}{v:A1}{o:Option To}(h:GT f F w v o)(hb:D1 w.heap.size w w'):GT f F w' v o:=by
 cases o with
 | none=>exact h
 | some d=>exact Rep.bel h hb
theorem Rs{d:To}(h:∀es,d ≠ .map es)(k:By):A0 d k=none:=by
 unfold A0;split
 ·rename_i es;exact absurd rfl (h es)
 ·rfl
theorem Mz{f:Nat}{F:Nat->Prop}{w:AS}{v:A1}{d:To}(h:Rep (f+1) F w v d):∃b n x s sl mv,v=.pointer (some ⟨b,0,none⟩)/\VB w b x n s sl mv /\
  ∀key:By,key.length<=1048576 -> ∃y,GT f F w y (A0 d key) /\ ∀w',D1 w.heap.size w w' ->
   (CH 109 mv (.string ⟨key.toArray⟩) true).run AI w'=.ok (.tuple #[y,.bool (A0 d key).isSome]) w' /\
   (CH 109 mv (.string ⟨key.toArray⟩) false).run AI w'=.ok y w':=by
 have q4:∀key:By,key.length<=1048576->(∀es,d ≠ .map es) -> ∃y,GT f F w y (A0 d key) /\ ∀w',D1 w.heap.size w w' ->
   (CH 109 (.map none) (.string ⟨key.toArray⟩) true).run AI w'=.ok (.tuple #[y,.bool (A0 d key).isSome]) w' /\
   (CH 109 (.map none) (.string ⟨key.toArray⟩) false).run AI w'=.ok y w':=by
  intro key hk hd;rw[Rs hd];exact⟨_,rfl,fun w' _=>⟨D0 true Bw underlying109 (B0 w') (Ee key hk),D0 false Bw underlying109 (B0 w') (Ee key hk)⟩⟩
 obtain⟨b,rfl,hb,h⟩:=h;rcases h with⟨k,_,rfl,h⟩|⟨n,rfl,h,_⟩|⟨s,rfl,h⟩|⟨es,sl,ps,rfl,h,_⟩|⟨es,m,n,D,rfl,h,qb,ho,hp⟩
 ·exact⟨b,_,_,_,_,_,rfl,h,fun key hk=>q4 key hk (by simp[AO])⟩
 ·exact⟨b,_,_,_,_,_,rfl,h,fun key hk=>q4 key hk (by simp[Bv])⟩
 ·exact⟨b,_,_,_,_,_,rfl,h,fun key hk=>q4 key hk (by simp[Aq])⟩
 ·exact⟨b,_,_,_,_,_,rfl,h,fun key hk=>q4 key hk (by simp[Ap])⟩
 ·refine⟨b,_,_,_,_,_,rfl,h,fun key hk=>?_⟩;have q7:=A7 ho;have q0:=Ee key hk;have hh:=hp.has (.string key);cases hc:has (.map D:DataW A1) (.string key) with
  | false=>
   have e1:A0 (Ay es) key=none:=by
    unfold A0 Ay;simp only;rw[if_neg (by rw[<- hh,hc];simp)]
   rw[e1];refine⟨.pointer none,rfl,fun w' q6=>?_⟩;have q5:=Aj ho (q6.block m q7);obtain⟨v1,q8,r1,q1⟩:=q5.look_ok Bw underlying109 (B0 w') (zd:=.held (.pointer none)) (zp:=[]) rfl q0;obtain⟨v2,q9,r2,q2⟩:=q5.lookup Bw underlying109 (B0 w') (zd:=.held (.pointer none)) (zp:=[]) rfl q0;obtain⟨rfl,_⟩:=Cb q1 (C2 hc _);obtain⟨rfl,_⟩:=Cb q2 (C2 hc _);rw[hc] at r1;exact⟨r1,r2⟩
  | true=>
   obtain⟨x,e4,hx⟩:=hp.at (.string key) hc;have e1:A0 (Ay es) key=some ((DataW.map es).atKey (.string key) .nil):=by
    unfold A0 Ay;simp only;rw[if_pos (by rw[<- hh,hc])]
   rw[e1];refine⟨x,hx,fun w' q6=>?_⟩;have q5:=Aj ho (q6.block m q7);obtain⟨v1,q8,r1,q1⟩:=q5.look_ok Bw underlying109 (B0 w') (zd:=.held (.pointer none)) (zp:=[]) rfl q0;obtain⟨v2,q9,r2,q2⟩:=q5.lookup Bw underlying109 (B0 w') (zd:=.held (.pointer none)) (zp:=[]) rfl q0;obtain⟨rfl,_⟩:=Cb q1 (e4 _);obtain⟨rfl,_⟩:=Cb q2 (e4 _);rw[hc] at r1;exact⟨r1,r2⟩
section
variable{f:Nat}{F:Nat->Prop}{w:AS}{v:A1}{o:Option To}
def PA(r:Option By):A1:=.tuple #[.string ⟨(r.getD []).toArray⟩,.bool r.isSome]
theorem OM(h:GT f F w v o):Dp AI 149 #[v] w fun e w'=>e=.returned (PA (B7 o))/\w'=w:=by
 cases o with
 | none=>
  obtain rfl:v=.pointer none:=h
  go_enter func149,ntmps149
  go_wp2_with (fail)
  go_ret2
  exact⟨rfl,rfl⟩
 | some d=>
  cases f with
  | zero=>exact h.elim
  | succ f=>
   obtain⟨b,rfl,hb,h⟩:=h;obtain⟨x,n,s,sl,mv,hv,hx⟩:∃ (x:Nat) (n:Nm) (s:By) (sl mv:A1),VB w b x n s sl mv/\((x=4/\B7 (some d)=some s)\/(x≠4/\B7 (some d)=none)):=by
    rcases h with⟨k,hk,rfl,h⟩|⟨n,rfl,h,_⟩|⟨s,rfl,h⟩|⟨es,sl,ps,rfl,h,_⟩|⟨es,m,n,D,rfl,h,_⟩
    ·exact⟨k,_,_,_,_,h,A4 ⟨by omega,rfl⟩⟩
    ·exact⟨3,_,_,_,_,h,A4 ⟨by omega,rfl⟩⟩
    ·exact⟨4,_,_,_,_,h,BY ⟨rfl,rfl⟩⟩
    ·exact⟨5,_,_,_,_,h,A4 ⟨by omega,rfl⟩⟩
    ·exact⟨6,_,_,_,_,h,A4 ⟨by omega,rfl⟩⟩
   have c0:=hv.c0;have c4:=hv.c4;clear h hb hv;rcases hx with⟨rfl,e⟩|⟨q0,e⟩
   ·rw[e];clear e
    go_enter func149,ntmps149
    go_wp2_with (fail)
    go_ret2
    exact⟨rfl,rfl⟩
   ·rw[e];have e1:((x:Int) != 4)=true:=by rw[bne_iff_ne];omega
    have e2:((x:Int)==4)=false:=by rw[beq_eq_false_iff_ne];omega
    clear e q0 c4
    go_enter func149,ntmps149
    go_wp2_with (fail)
    go_ret2
    exact⟨rfl,rfl⟩
end
section
variable{f:Nat}{F:Nat->Prop}{w:AS}{v:A1}{o:Option To}
theorem OU(h:GT f F w v o)(hs:∀s,B7 o=some s->s.length<=1048576)(hT:Af w):
  Dp AI 148 #[v] w fun e w'=>Ga w.heap.size (Cf o) e w'/\D1 w.heap.size w w':=by
 have HC:=Ab (OM h);obtain⟨p,rfl⟩:=h.ptr;unfold Cf;clear h;cases hp:B7 o with
 | none=>
  rw[hp] at HC;clear hp hs hT
  go_enter func148,ntmps148
  go_wp2_with (fail);refine (Aa HC).mono ?_
  rintro e w' ⟨rfl,rfl⟩;unfold PA;simp only[Option.getD_none,Option.isSome_none]
  go_wp2_with (fail)
  go_ret2
  exact⟨rfl,CD _ _⟩
 | some s=>
  rw[hp] at HC;have HR:=Ab (La (hs s hp) hT hT.pesc hT.mx);clear hp hs hT
  go_enter func148,ntmps148
  go_wp2_with (fail);refine (Aa HC).mono ?_
  rintro e w' ⟨rfl,rfl⟩;unfold PA;simp only[Option.getD_some,Option.isSome_some]
  go_wp2_with (fail);refine (Aa HR).mono ?_
  rintro e w2 ⟨hn,hb⟩;cases ht:ZW s with
  | none=>
   rw[ht] at hn;obtain rfl:e=.returned (.tuple #[.slice none 0 0,.bool false]):=hn
   go_wp2_with (fail)
   go_ret2
   refine⟨?_,hb⟩;show Ga _ (ZW s) _ _;rw[ht];rfl
  | some ks=>
   rw[ht] at hn;obtain⟨u,rfl,h1,h2⟩:=hn;have H:=Ab (show Ga _ (some ks) (.returned (.tuple #[u,.bool true])) w2/\_ from⟨⟨u,rfl,h1,h2⟩,hb⟩);have q0:=Ab ht;clear h1 h2 hb ht
   go_wp2_with (fail)
   go_ret2
   refine⟨?_,(Aa H).2⟩;show Ga _ (ZW s) _ _;rw[Aa q0];exact (Aa H).1
end
end Go.Proofs.YtdpomdelmdofmaaGreatDoor
