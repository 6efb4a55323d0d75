import Derived.Test.YtdpomdelmdofmaaGreatDoorRea26
open Go.Proofs.Tryz renaming prog->AI
open Go.DataW renaming map->AS,held->G3
open Go renaming World->AT,Value->A6,heap_alloc_new->CD,DataW->CH,Calls->F1,callsIn_wide->F2,undef->F7,maxLen->G0
open Go.World renaming cell?->A1,putObj_heap_other->D0,cell?_of_block->E0
open Go.Maps renaming has->A2,Canon->D1
open List renaming dropLast_concat_getLast->A3,getLast?_concat->A4,any_eq_true->A5,dropLast_concat->Dp,nodup_cons->F5
open Nat renaming le_trans->BY,le_refl->C2
open Go.WideAt renaming sameKey_eq->CL,atKey_mem->CR
open Go.RowKit.Below renaming refl->Dt,heap_setCell->FD
open Or renaming inr->DD,inl->Ft
open Go.RowKit renaming Below->D3
set_option maxRecDepth 100000
set_option maxHeartbeats 8000000
namespace Go.Proofs.YtdpomdelmdofmaaGreatDoor
open Go.Proofs.Tryz Go.RowKit Go.Maps
variable{o:fO}{f cnt:Nat}{v':To}{j:List dX}{wr:AT}{es:List (Lit×To)}{left:Lit->Bool}{kl:Lit}
section
theorem CO(w:AT)(a:Addr)(m:Mode)(f:Fn)(b c:Array A6):(store a (.func f b c) m).run AI w=stored AI w a (.func f b c) m:=run_store AI w a _ m rfl
attribute [local go_sem] Oper.semAt_some CO
theorem Kz{w:AT}{B e n:Nat}{v:A6}{xs:List A6}(h:w.ownsRow B e 5 v n xs):xs.length=n*5/\n<=G0 /\ ∃ao cap g,v=.slice ao n cap/\(0<n->ao=some ⟨g,0,none⟩/\v.ownBlock=some g/\g<w.heap.size /\ ∀k (hk:k<xs.length),w.cell? ⟨g,k,none⟩=some xs[k]):=by
 obtain⟨q0,h⟩:=h;rcases h with⟨h1,h0⟩|⟨g,cap,cur,h1,_,h3,h4,h5,h6,h7⟩
 ·simp_all
 ·refine⟨q0,by omega,some ⟨g,0,none⟩,cap,g,h1,fun _=>⟨rfl,by rw[h1];rfl,by grind,fun k hk=>?_⟩⟩;have q4:k<cur.size:=by omega
  have e:w.cell? ⟨g,k,none⟩=cur[k]?:=by simp[A1,h3]
  grind
theorem Jrn.at{w:AT}{G:Nat->Prop}:∀ {xs:List A6} {cs:List Clo} {js:List dX},Jrn w G xs cs js->cs.length=js.length /\ ∀i (h:i<js.length) (h2:i<cs.length),∃kv pv fv vv,xs[i*5]? = some (F8 cs[i])/\xs[i*5+1]? = some kv/\xs[i*5+2]? = some pv/\xs[i*5+3]? = some fv/\xs[i*5+4]? = some vv/\Fp w G kv pv fv vv js[i]
 | [],[],[],_=>⟨rfl,fun i h=>by cases h⟩
 | cv::kv::pv::fv::vv::r,c::s,o::t,⟨e,a,b⟩=>by
  obtain⟨h1,h2⟩:=Jrn.at b;refine⟨by simp[h1],fun i h h'=>?_⟩;cases i with
  | zero=>grind
  | succ i=>
   obtain⟨q7,q8,q6,q9,q0,q1,q2,q3,q4,q5⟩:=h2 i (by grind) (by grind)
   grind
structure DL(L:Nat)(w wB:AT)(D Bs g N B:Nat)(rv:A6)(Tb:dS)(Mb M:Nat->Prop)(wb:AT)(cs:List Clo)(k:Nat)(W:AT):Prop where
 box:W.heap[Bs]? = wB.heap[Bs]?
 row:0<N->W.heap[g]? = w.heap[g]?
 doc:W.heap[D]? = w.heap[D]?
 os:W.os=w.os
 tape:W.tape=w.tape
 output:W.output=w.output
 size:B<=W.heap.size
 back:∃Tk Mk wk,Und L w.heap.size rv Tb Mb wb (cs.reverse.drop k) Tk Mk wk/\(∀j,Mk j->M j)/\BP L rv Tk Mk (fun j=>j=D\/j=Bs\/(0<N/\j=g)\/j=B\/j=B+1) wk W
structure ND(L:Nat)(w wB:AT)(D Bs g N B:Nat)(rv:A6)(Tb:dS)(Mb M:Nat->Prop)(wb:AT)(cs:List Clo)(E:Array A6)(k X:Nat)(W:AT):Prop where
 inv:DL L w wB D Bs g N B rv Tb Mb M wb cs k W
 ne:X≠B/\X≠B+1
 blk:W.heap[X]? = some (.cells E 230 (0,0))
section
variable{L:Nat}{w wB:AT}{D Bs g N B:Nat}{rv:A6}{Tb:dS}{Mb M:Nat->Prop}{wb:AT}{cs:List Clo}
theorem DL.apart(hM:∀j,M j->j<w.heap.size)(hB:B=w.heap.size+1)(q0:Bs=w.heap.size)(hD:D<w.heap.size)(hg:0<N->g<w.heap.size)(k:Nat):DU B (DL L w wB D Bs g N B rv Tb Mb M wb cs k):=by
 intro W W' h e1 e2 e3 e4 e5;have hs:=h.size;obtain⟨Tk,Mk,wk,h1,h2,h3⟩:=h.back;refine⟨(e5 Bs (by omega) (by omega) (by omega)).trans h.box,fun hN=>(e5 g (by omega) (by omega) (by omega)).trans (h.row hN),(e5 D (by omega) (by omega) (by omega)).trans h.doc,e1.trans h.os,e2.trans h.tape,e3.trans h.output,BY hs e4,Tk,Mk,wk,h1,h2,?_⟩;obtain⟨T',r1,r2,r3,r4⟩:=h3.tree;refine⟨⟨T',r1,r2.move fun j hj=>e5 j (r2.lt j hj) (by grind) (by grind),r3,r4⟩,fun j hj=>(e5 j (h3.low j hj) (by grind) (by grind)).trans (h3.held j hj),by grind⟩
theorem ND.apart{E:Array A6}(hM:∀j,M j->j<w.heap.size)(hB:B=w.heap.size+1)(q0:Bs=w.heap.size)(hD:D<w.heap.size)(hg:0<N->g<w.heap.size)(k X:Nat):DU B (ND L w wB D Bs g N B rv Tb Mb M wb cs E k X):=by
 intro W W' h e1 e2 e3 e4 e5;exact⟨DL.apart hM hB q0 hD hg k W W' h.inv e1 e2 e3 e4 e5,h.ne,(e5 X (Array.getElem?_eq_some_iff.1 h.blk).1 h.ne.1 h.ne.2).trans h.blk⟩
theorem DL.turn{k:Nat}{c:Clo}{W:AT}(hM:∀j,M j->j<w.heap.size)(q5:¬ M D)(q6:0<N -> ¬ M g)(hB:B=w.heap.size+1)(q4:Bs=w.heap.size)(hD:D<w.heap.size)(hg:0<N->g<w.heap.size)(hl:B+1<W.heap.size)(h:DL L w wB D Bs g N B rv Tb Mb M wb cs k W)(hc:cs.reverse[k]? = some c):
  Ent c.1/\F1 AI c.1 c.2 W fun e W'=>e=.returned (.tuple #[])/\Two B W W'/\DL L w wB D Bs g N B rv Tb Mb M wb cs (k+1) W':=by
 obtain⟨Tk,Mk,wk,h1,h2,h3⟩:=h.back;obtain⟨hk,q0⟩:=List.getElem?_eq_some_iff.1 hc;rw[List.drop_eq_getElem_cons hk,q0] at h1;obtain⟨T0,M0,wk0,u1,u2,u3,u4,u5⟩:=h1;refine⟨u5,(u2 _ W (fun j hj=>?_) h3).mono ?_⟩
 ·grind
 ·rintro e W' ⟨rfl,t1,k1,k2,k3,k4,k5⟩;refine⟨rfl,⟨k5 _ (by simp),k5 _ (by simp)⟩,(k5 _ (by simp)).trans h.box,fun hN=>(k5 _ (by omega)).trans (h.row hN),(k5 _ (by simp)).trans h.doc,k1.trans h.os,k2.trans h.tape,k3.trans h.output,BY h.size k4,T0,M0,wk0,u1,by grind,t1⟩
end
theorem NP{L:Nat}{w:AT}{D:Nat}{rv jn iv:A6}{ch:Bool}{Tb T:dS}{Mb M:Nat->Prop}{wb:AT}{js:List dX}(h:Bv L w D rv jn iv ch Tb Mb wb T M js)(qr:∀k,Mb k->k≠D/\k<w.heap.size):
  F1 AI 118 #[.pointer (some ⟨D,0,none⟩)] w fun e w'=>e=.returned (.tuple #[])/\DB w' D rv (.slice none 0 0) ch iv/\BP L rv Tb Mb (fun k=>k=D) wb w'/\w'.os=w.os/\w'.tape=w.tape/\w'.output=w.output/\w.heap.size<=w'.heap.size:=by
 obtain⟨xs,cs,qj,qh,qy,qi⟩:=h.ex;obtain⟨qz,hl,ao,cap,g,qx,hg⟩:=Kz qh;obtain⟨hcl,q5⟩:=qy.at
 obtain⟨N,hN⟩:∃N,N=js.length:=⟨_,rfl⟩
 rw[<- hN] at qz hg hcl qx hl;subst qx;have qk:=qj.lt;have hM:∀j,M j->j<w.heap.size:=fun j hj=>(h.low j hj).1;obtain⟨c,hc⟩:∃c:Nat->A6,c=fun j=>xs[j]?.getD .nilFunc:=⟨_,rfl⟩
 obtain⟨wB,qn⟩:∃wB,wB=w.alloc (.cells #[.slice ao N cap] 112):=⟨_,rfl⟩
 have qt:wB.heap[w.heap.size]? = some (.cells #[.slice ao N cap] 112 (0,0)):=by rw[qn];exact CD w _
 have zi:wB.heap.size=w.heap.size+1:=by simp_all
 have q6:D3 w.heap.size w wB:=by rw[qn];exact (Dt _ _).alloc (C2 _) _
 obtain⟨B,hB⟩:∃B,B=w.heap.size+1:=⟨_,rfl⟩
 have qm:0<N->g<w.heap.size:=fun hp=>(hg hp).2.2.1;have qw:0<N -> ¬ M g:=fun hp=>(h.jM g (hg hp).2.1).1;have h0:DL L w wB D w.heap.size g N B rv Tb Mb M wb cs 0 wB:=by
  refine⟨rfl,fun hp=>q6.block g (qm hp),q6.block D qk,q6.os,q6.tape,q6.output,by omega,T,M,w,qi,fun _ hj=>hj,⟨T,rfl,h.tr.bel q6,h.nd,fun k hk=>⟨fun hm=>(h.low k hm).2 hk,fun hn=>?_⟩⟩,fun k hk=>q6.block k (hM k hk),by grind⟩;have zm:=h.tr.lt k hk;rcases hn with rfl|rfl|⟨hp,rfl⟩|rfl|rfl
  ·exact h.dD.1 hk
  ·omega
  ·exact (h.jM _ (hg hp).2.1).2 hk
  ·omega
  ·omega
 have qg:=Ab (fun (k:Nat) (cc:Clo) (W:AT) (zl:B+1<W.heap.size) (hI:DL L w wB D w.heap.size g N B rv Tb Mb M wb cs k W) (zj:cs.reverse[k]? = some cc)=>DL.turn hM h.dD.2 qw hB rfl qk qm zl hI zj);have HI:=Ab (fun k=>DL.apart (L:=L) (w:=w) (wB:=wB) (D:=D) (Bs:=w.heap.size) (g:=g) (N:=N) (B:=B) (rv:=rv) (Tb:=Tb) (Mb:=Mb) (M:=M) (wb:=wb) (cs:=cs) hM hB rfl qk qm k);have HA:=Ab (fun (E:Array A6) (k X:Nat)=>ND.apart (L:=L) (w:=w) (wB:=wB) (D:=D) (Bs:=w.heap.size) (g:=g) (N:=N) (B:=B) (rv:=rv) (Tb:=Tb) (Mb:=Mb) (M:=M) (wb:=wb) (cs:=cs) (E:=E) hM hB rfl qk qm k X);have qf:=Ab (fun (k:Nat) (hk:k<N)=>(show ∃ (fn:Nat) (caps:Array A6) (kk:Int) (pa:Option Addr) (pl pc:Nat) (x:Option Addr),cs.reverse[k]? = some (fn,caps)/\c ((N-1-k)*5)=.func (.func fn) #[] caps/\c ((N-1-k)*5+1)=.int .i64 kk/\c ((N-1-k)*5+2)=.slice pa pl pc/\c ((N-1-k)*5+3)=.slice none 0 0/\c ((N-1-k)*5+4)=.pointer x from by
  have h1:N-1-k<cs.length:=by omega
  obtain⟨kv,pv,fv,vv,q0,q1,q2,q3,q4,o1,_,o2,o3,o4⟩:=q5 (N-1-k) (by omega) h1;obtain⟨pa,pl,pc,rfl⟩:∃pa pl pc,pv=.slice pa pl pc:=by
   rcases o2 with⟨_,a,c,e,_⟩|⟨g,o,cap,e,_⟩
   ·grind
   grind
  obtain⟨x,rfl⟩:∃x,vv=.pointer x:=by
   rcases o4 with⟨_,e⟩|⟨_,hr⟩
   ·grind
   ·obtain⟨b,e,_⟩:=hr
    grind
  subst o1;subst o3;refine⟨cs[N-1-k].1,cs[N-1-k].2,(((js[N-1-k]'(by omega)).1:Nat):Int),pa,pl,pc,x,?_,?_,?_,?_,?_,?_⟩
  ·grind
  ·rw[hc];simp only[q0];rfl
  ·grind
  ·grind
  ·grind
  grind))
 have qe:=Ab (fun (hp:0<N)=>(show ∀j,j<N*5->w.cell? ⟨g,j,none⟩=some (c j) from fun j hj=>by
  rw[(hg hp).2.2.2 j (by omega),hc];simp[List.getElem?_eq_getElem (show j<xs.length by omega)]))
 have z1:=Ab (fun (hp:0<N)=>(hg hp).1);have H0:=Ab h0;have qo:=Ab (fun (W:AT) (hI:DL L w wB D w.heap.size g N B rv Tb Mb M wb cs N W)=>(show BP L rv Tb Mb (fun j=>j=D\/j=w.heap.size\/(0<N/\j=g)\/j=B\/j=B+1) wb W from by
  obtain⟨Tk,Mk,wk,u1,_,u3⟩:=hI.back;rw[List.drop_eq_nil_of_le (by simp;omega)] at u1;exact u1 _ W u3))
 have za:=Ab qr;have z8:=Ab qj;have c1:=qj.c1;have z6:=Ab qt;have qb:=Ab zi;have zh:N<=G0:=hl;clear h qh qy qi qz hg hcl q5 hM qw h0 qj qt q6 qr hl hN hc;have q8:=Ab hB;have zb:=Ab qn;clear hB qn;refine (F2 (n:=0)).1 (callsIn_of_wp_marks func118 rfl trivial ?_ rfl);simp only[ntmps118,List.size_toArray,List.length_cons,List.length_nil,Nat.reduceAdd,Nat.reduceSub,Array.replicate_succ,Array.replicate_zero,List.push_toArray,List.append_toArray,List.nil_append,List.cons_append]
 gi_wp2_with (refine⟨trivial,rfl,?_⟩;gi_at_call 158;refine (F2.2 Nb).mono ?_;rintro e w' ⟨rfl,rfl⟩)
 rw[<- Aa zb];refine Gx (gf:=204) (lb:=#[.pointer (some ⟨w.heap.size,0,none⟩)]) rfl (F3 func204 (by kernel_rfl) rfl) N (fun k=>#[.int .i64 ((N-1-k:Nat):Int),Hr c (N-1-k)]) (fun _=>rfl) (DL L w wB D w.heap.size g N B rv Tb Mb M wb cs)
  (fun k a' W=>∃X,ND L w wB D w.heap.size g N B rv Tb Mb M wb cs #[c ((N-1-k)*5),c ((N-1-k)*5+1),c ((N-1-k)*5+2),c ((N-1-k)*5+3),c ((N-1-k)*5+4)] k X W/\a'={ tmps:=#[.pointer (some ⟨D,0,none⟩),F7,F7,.pointer (some ⟨X,0,none⟩),.pointer (some ⟨D,0,none⟩),.pointer (some ⟨D,0,none⟩),.pointer (some ⟨D,1,none⟩),.slice ao N cap,.func (.func 204) #[] #[.pointer (some ⟨w.heap.size,0,none⟩)],.int .i64 ((N-1-k:Nat):Int),Hr c (N-1-k),F7,F7,F7,F7,F7,F7],defers:=[] })
  ?hI ?hA (Aa H0) ?hiter ?hassign ?hbody ?hdone
 case hI=>
  rw[Aa qb,<- Aa q8];exact Aa HI
 case hA=>
  rw[Aa qb,<- Aa q8];rintro k a' W W' ⟨X,hX,e⟩ e1 e2 e3 e4 e5;exact⟨X,Aa HA _ k X W W' hX e1 e2 e3 e4 e5,e⟩
 case hiter=>
  intro l J W zf hY ze;refine Pk (cap:=cap) zh (Aa z1) (fun k W hj=>?_) hY ze;have hi:=zf k W hj;refine⟨?_,fun j zk=>?_⟩
  ·have:=hi.box.trans (Aa z6);simp[A1,this]
  ·have hp:0<N:=by omega
   rw[E0 (w:=w) (hi.row hp)];exact Aa qe hp j zk
 case hassign=>
  intro l k W hk hi hsz;rw[Aa qb,<- Aa q8] at hsz |-;have q9:=Ab hi;obtain⟨fn,caps,kk,pa,pl,pc,x,_,e0,e1,e2,e3,e4⟩:=Aa qf k hk;clear hi;unfold Hr;rw[e0,e1,e2,e3,e4];clear e0 e1 e2 e3 e4
  gi_wp2
  have hb:=(Dt W.heap.size W).alloc (C2 _) (.cells #[.func (.func fn) #[] caps,.int .i64 kk,.slice pa pl pc,.slice none 0 0,.pointer x] 230);exact⟨⟨hb.block B (by omega),hb.block (B+1) (by omega)⟩,⟨Aa HI k W _ (Aa q9) hb.os hb.tape hb.output hb.size fun j hj _ _=>hb.block j hj,⟨by omega,by omega⟩,CD W _⟩⟩
 case hbody=>
  rintro l k a' W hk ⟨X,hX,rfl⟩ hsz -;rw[Aa qb,<- Aa q8] at hsz |-;obtain⟨fn,caps,kk,pa,pl,pc,x,qu,qv,e1,e2,e3,e4⟩:=Aa qf k hk;obtain⟨q5,q7⟩:=Aa qg k (fn,caps) W hsz hX.inv qu;have x0:W.cell? ⟨X,0,none⟩=some (.func (.func fn) #[] caps):=by
   have:=hX.blk;rw[qv] at this;simp[A1,this]
  have qp:=Ab q5;have qd:=Ab q7;clear q5 q7 qu qv hX e1 e2 e3 e4
  gi_wp2
  rw[Aa qp,Oper.uponIn_enter];refine⟨trivial,fun hh=>(by cases hh),((F2 (n:=0)).2 (Aa qd)).mono ?_⟩;rintro e W' ⟨rfl,ht,hI2⟩
  gi_wp2
 case hdone=>
  intro W hI hK;rw[Aa qb,<- Aa q8] at hK |-;have hW:=Aa qo W hI;have qq:=Aa q8;have hd:=(Aa z8).kept hI.doc;have d1:=hd.c1;have dz:W.frozen? ⟨D,1,none⟩=false:=by simp[World.frozen?,show W.heap[D]? = _ from hd]
  have HW:=Ab hW;have z7:=Ab hd;have q9:=Ab hI;clear hW hd hI qq
  gi_wp2
  have qq:=Aa q8;have zg:(W.setCell ⟨D,1,none⟩ (.slice none 0 0)).heap[B]? = some (.deferred (some [])):=(FD _ _ _ _ (by grind)).trans hK;refine⟨by simp,.inl ⟨_,_,rfl,run_takeDeferred zg,?_⟩⟩;refine⟨_,results_none rfl _ _ _,rfl,?_⟩;have zc:DB (W.setCell ⟨D,1,none⟩ (.slice none 0 0)) D rv (.slice none 0 0) ch iv:=(Aa z7).set1 _;have hne:∀j,j≠D->j≠B->((W.setCell ⟨D,1,none⟩ (.slice none 0 0)).putObj B (.deferred none)).heap[j]? = W.heap[j]?:=fun j h1 h2=>(D0 (by omega)).trans (FD _ _ _ _ h1);obtain⟨T',r1,r2,r3,r4⟩:=(Aa HW).tree;refine⟨(D0 (by omega)).trans zc,⟨⟨T',r1,r2.move (by grind),r3,by grind⟩,fun j hj=>?_,fun j hj=>?_⟩,(Aa q9).os,(Aa q9).tape,(Aa q9).output,?_⟩
  ·obtain⟨m1,m2⟩:=Aa za j hj;exact (hne j m1 (by omega)).trans ((Aa HW).held j hj)
  ·have:=(Aa HW).low j hj
   simp_all
  ·have:=(Aa q9).size;simp[World.putObj,World.setCell];omega
end
section
attribute [local go_sem] CO
section
variable{w:AT}{D k:Nat}{pa fa y wp:Option Addr}{pl pc fl fc:Nat}
def opF(k:Nat):Nat:=[151,152,153,154,155,156].getD k 0
theorem ZT{k:Nat}(hk:k<6):∀args w,(callFunc (opF k) args).run AI w=.ok (.enter (opF k) args) w:=by
 intro args w
 match k,hk with
 | 0,_=>exact Cf func151 (by kernel_rfl) rfl args w
 | 1,_=>exact Cf func152 (by kernel_rfl) rfl args w
 | 2,_=>exact Cf func153 (by kernel_rfl) rfl args w
 | 3,_=>exact Cf func154 (by kernel_rfl) rfl args w
 | 4,_=>exact Cf func155 (by kernel_rfl) rfl args w
 | 5,_=>exact Cf func156 (by kernel_rfl) rfl args w
theorem Zj{Q:Nat->AT->Prop}(hk:k<6)(hC:∀w1,D3 w.heap.size w w1->F1 AI (opF k) #[.pointer (some ⟨D,0,none⟩),opV k pa pl pc fa fl fc y] w1 fun e w'=>∃c:Nat,e=.returned (.int .i64 c)/\Hid (Q c w')):
  F1 AI 116 #[.pointer (some ⟨D,0,none⟩),opV k pa pl pc fa fl fc y] w fun e w'=>∃c:Nat,e=.returned (.int .i64 c)/\Q c w':=by
 have HC:=Ab hC;have q9:=Ab (ZT hk);obtain⟨w6,q5⟩:∃w6,w6=(w.alloc (.cells #[.int .i64 k,.slice pa pl pc,.slice fa fl fc,.pointer y] 178)).alloc (.cells #[.func (.func 151) #[.pointer (some ⟨D,0,none⟩)] #[],.func (.func 152) #[.pointer (some ⟨D,0,none⟩)] #[],.func (.func 153) #[.pointer (some ⟨D,0,none⟩)] #[],.func (.func 154) #[.pointer (some ⟨D,0,none⟩)] #[],.func (.func 155) #[.pointer (some ⟨D,0,none⟩)] #[],.func (.func 156) #[.pointer (some ⟨D,0,none⟩)] #[]] 225):=⟨_,rfl⟩
 have hob:OpB (w.alloc (.cells #[.int .i64 k,.slice pa pl pc,.slice fa fl fc,.pointer y] 178)) w.heap.size k pa pl pc fa fl fc y:=CD w _;have q6:=(Dt w.heap.size w).alloc (C2 _) (.cells #[.int .i64 k,.slice pa pl pc,.slice fa fl fc,.pointer y] 178);have q4:OpB w6 w.heap.size k pa pl pc fa fl fc y:=by rw[q5];exact hob.low ((Dt _ _).alloc (C2 _) _)
 have q0:w6.heap[w.heap.size+1]? = some (.cells #[.func (.func 151) #[.pointer (some ⟨D,0,none⟩)] #[],.func (.func 152) #[.pointer (some ⟨D,0,none⟩)] #[],.func (.func 153) #[.pointer (some ⟨D,0,none⟩)] #[],.func (.func 154) #[.pointer (some ⟨D,0,none⟩)] #[],.func (.func 155) #[.pointer (some ⟨D,0,none⟩)] #[],.func (.func 156) #[.pointer (some ⟨D,0,none⟩)] #[]] 225 (0,0)):=by
  have:=CD (w.alloc (.cells #[.int .i64 k,.slice pa pl pc,.slice fa fl fc,.pointer y] 178)) (.cells #[.func (.func 151) #[.pointer (some ⟨D,0,none⟩)] #[],.func (.func 152) #[.pointer (some ⟨D,0,none⟩)] #[],.func (.func 153) #[.pointer (some ⟨D,0,none⟩)] #[],.func (.func 154) #[.pointer (some ⟨D,0,none⟩)] #[],.func (.func 155) #[.pointer (some ⟨D,0,none⟩)] #[],.func (.func 156) #[.pointer (some ⟨D,0,none⟩)] #[]] 225);rw[World.size_alloc] at this;rw[q5];exact this
 have q8:D3 w.heap.size w w6:=by rw[q5];exact q6.alloc q6.size _
 have c0:=q4.c0;have c1:=q4.c1;have c2:=q4.c2;have c3:=q4.c3;have cf:w6.cell? ⟨w.heap.size+1,k,none⟩=some (.func (.func (opF k)) #[.pointer (some ⟨D,0,none⟩)] #[]):=by
  match k,hk with
  | 0,_=>simp[A1,q0];rfl
  | 1,_=>simp[A1,q0];rfl
  | 2,_=>simp[A1,q0];rfl
  | 3,_=>simp[A1,q0];rfl
  | 4,_=>simp[A1,q0];rfl
  | 5,_=>simp[A1,q0];rfl
 have HB:=Ab q8;have q7:=Ab q5;have qb:(k:Int)<6:=by omega
 have hk2:(0:Int)<=(k:Int):=by omega
 generalize opF k=fk at *;clear hC hob q6 q4 q0 q8 q5
 go_enter func116,ntmps116
 go_wp2_with (fail);rw[<- Aa q7]
 clear q7
 go_region_with (first
  | (rw[Aa q9,Oper.upon_enter];refine (Aa HC _ ?_).mono ?_;exact⟨(Aa HB).os,(Aa HB).tape,(Aa HB).output,(Aa HB).size,(Aa HB).block⟩;rintro e w2 ⟨c,rfl,hq⟩))
 all_goals (
  go_wp2_with (fail)
  go_ret;exact⟨c,rfl,Aa hq⟩)
end
end
section
variable{w:AT}{D R:Nat}{wp:Option Addr}{jn iv:A6}{ch:Bool}{Tb T a:dS}{Mb M:Nat->Prop}{wb:AT}{v xv:To}{js:List dX}{y:Option Addr}{F:Nat->Prop}{d x:Int}{B:Nat}
 {k:Nat} {pa fa:Option Addr} {pl pc fl fc:Nat} {p q:List By}
def H8(w:AT)(G:Nat->Prop)(o:fO)(pa:Option Addr)(pl pc:Nat)(fa:Option Addr)(fl fc:Nat)(y:Option Addr):Prop:=
 o.1<6/\Aw w G (.slice pa pl pc) o.2.1/\((o.1=3\/o.1=4)->Aw w G (.slice fa fl fc) o.2.2.1)/\((o.1=0\/o.1=2\/o.1=5)->Rep top G w (.pointer y) o.2.2.2)
def jA(d x:Int)(B:Nat)(o:fO):Prop:=fZ o.2.1/\((o.1=3\/o.1=4)->fZ o.2.2.1)/\((o.1=0\/o.1=2\/o.1=5)->eG d x B o.2.2.2)
theorem aL(h:JS w D R wp jn iv ch Tb Mb wb T a v M js)(hT:Ai w)(q5:∀k,k<NG->M k)(hv:eG d x B v)(hB:B<=900000000)(hl:js.length<=900000000)(ho:H8 w (GA (top+1) Tb wb M) o pa pl pc fa fl fc y)(q6:jA d x B o):
  F1 AI 116 #[.pointer (some ⟨D,0,none⟩),opV o.1 pa pl pc fa fl fc y] w fun e w'=>AO D R iv ch Tb Mb wb M js w (gW v o) e w':=by
 have hM:∀k,M k->k<w.heap.size:=fun k hk=>(h.j.low k hk).1;obtain⟨k,p,q,xv⟩:=o;obtain⟨o1,o2,o3,o4⟩:=ho;obtain⟨k1,k2,k3⟩:=q6;simp only at o1 o2 o3 o4 k1 k2 k3 |-;refine (Zj (Q:=fun c w'=>AO D R iv ch Tb Mb wb M js w (gW v (k,p,q,xv)) (.returned (.int .i64 c)) w') o1 fun w1 hb1=>?_).mono ?_
 ·have q0:∀ {r:Except Nat (To×List dX)} {f:Nat},gW v (k,p,q,xv)=r->F1 AI f #[.pointer (some ⟨D,0,none⟩),opV k pa pl pc fa fl fc y] w1 (fun e w'=>AO D R iv ch Tb Mb wb M js w1 r e w') ->
    F1 AI f #[.pointer (some ⟨D,0,none⟩),opV k pa pl pc fa fl fc y] w1 (fun e w'=>∃c:Nat,e=.returned (.int .i64 c)/\Hid (AO D R iv ch Tb Mb wb M js w (gW v (k,p,q,xv)) (.returned (.int .i64 c)) w')):=by
   intro r f hr hc;refine hc.mono ?_;rintro e w' he;obtain⟨c,rfl,h2⟩:=he.form;rw[hr];exact⟨c,rfl,AO.below hb1 hM (Aa h2)⟩
  have hJ:=h.bel hb1;have q4:=hT.bel hb1;have p1:=o2.at hb1
  match k,o1 with
  | 0,_=>exact q0 rfl (US hJ q4 hv (k3 (Ft rfl)) hB (by omega) ((o4 (Ft rfl)).bel hb1) p1 k1)
  | 1,_=>exact q0 rfl (O6 hJ q4 hv hB (by omega) p1 k1)
  | 2,_=>exact q0 rfl (Nr hJ q4 hv (k3 (DD (Ft rfl))) hB (by omega) ((o4 (DD (Ft rfl))).bel hb1) p1 k1)
  | 3,_=>exact q0 rfl (Si hJ q4 q5 hv hB hl p1 k1 ((o3 (Ft rfl)).at hb1) (k2 (Ft rfl)))
  | 4,_=>exact q0 rfl (Sl hJ q4 hv hB (by omega) p1 k1 ((o3 (DD rfl)).at hb1) (k2 (DD rfl)))
  | 5,_=>exact q0 rfl (Sg hJ q4 ((o4 (DD (DD rfl))).bel hb1) p1 k1)
 ·rintro e w' ⟨c,rfl,h2⟩;exact h2
end
section
theorem Gq{d x:Int}{dU:Int}{v e:To}{t:By}(h:dY d x (f+1) dU v)(hc:Aq v t=.ok e):∃i,gH v t=some i/\(Bi v)[i]? = some e:=by
 obtain⟨_,h⟩:=h;rcases h with⟨k,hk,rfl⟩|⟨s,hs,rfl⟩|⟨n,h1,h2,h3,rfl⟩|⟨es,h,rfl⟩|⟨es,h1,h2,rfl⟩
 ·cases hc
 ·cases hc
 ·cases hc
 ·obtain⟨i,_,h2,h3⟩:=Ij hc;exact⟨i,h3,h2⟩
 ·have hp:∀ (es:List (Lit×To)),Pt (fun _ _=>True) (es.map fun p=>(p.1,G3 (Value.pointer none))) es:=by
   intro es;induction es with
   | nil=>exact trivial
   | cons a r ih=>exact⟨⟨rfl,_,rfl,trivial⟩,ih⟩
  have q0:Aq (Ap es) t=(if A2 (.map es:To) (.string t)=true then .ok ((AS es).atKey (.string t) .nil) else .error 11):=rfl;rw[q0] at hc;split at hc
  ·rename_i hh;injection hc with hc;have q4:=(hp es).has (.string t);obtain⟨i,key,c,_,e1,e2,e3,_,_⟩:=(hp es).first (.string t) (q4.trans hh)
   refine⟨i,e1,?_⟩;show (es.map Prod.snd)[i]? = some e;rw[List.getElem?_map,e2,<- hc,B2,e3];rfl
  ·cases hc
theorem OU{d x:Int}:∀ {s:List By} {f:Nat} {dU:Int} {v n:To},dY d x f dU v->Ah v s=.ok n -> ∃q f',f'+1+q.length=f/\A8 v s=some q/\Bj q v=some n
 | [],f,dU,v,n,h,hf=>by
  injection hf with hf;subst hf;cases f with
  | zero=>exact h.elim
  | succ f=>exact⟨[],f,rfl,rfl,rfl⟩
 | t::r,f,dU,v,n,h,hf=>by
  cases f with
  | zero=>exact h.elim
  | succ f=>
   rw[Ah] at hf;cases hc:Aq v t with
   | error c=>rw[hc] at hf;cases hf
   | ok e=>
    rw[hc] at hf;obtain⟨i,h1,h2⟩:=Gq h hc;obtain⟨q,f',e1,e2,e3⟩:=OU (FV h h2) hf;refine⟨i::q,f',by simp;omega,?_,?_⟩
    ·rw[A8,h1];simp only[h2,e2];rfl
    ·rw[Bj,h2];exact e3
variable{d d' x:Int}{B B':Nat}{v n e xv:To}{s p q:List By}{t:By}
theorem Co(hv:eG d x B v)(hf:Ah v s=.ok n):∃q f,f+1+List.length q=top/\A8 v s=some q/\Bj q v=some n/\dY d x (f+1) (1+q.length) n/\dT (f+1) n<=B/\1+(q.length:Int)<=d/\1000<=f:=by
 obtain⟨q,f,h1,h2,h3⟩:=OU hv.gd hf;have hg:dY d x (f+1+q.length) 1 v:=by rw[h1];exact hv.gd
 have g1:=OQ hg h3;have g2:=NQ hg h3;rw[h1] at g2;have g3:=Fv g1;have:=hv.sz;have:=hv.dd;have:=E1;exact⟨q,f,h1,h2,h3,g1,by omega,g3,by omega⟩
theorem eG.mono(h:eG d x B v)(hd:d<=d')(h5:d'<=500)(hB:B<=B'):eG d' x B' v:=⟨CS hd h.gd,h5,BY h.sz hB⟩
theorem FZ(hv:eG d x B v)(hf:Ah v s=.ok n):eG d x B n:=by
 obtain⟨q,f,h1,h2,h3,h4,h5,h6,h7⟩:=Co hv hf;have g1:=Fa (s:=-(q.length:Int)) h4;rw[show (1:Int)+q.length + -(q.length:Int)=1 by omega] at g1;have g2:dY d x (f+1) 1 n:=CS (by omega) g1;refine⟨Ci g2 (by have:=hv.dd;have:=E1;omega),hv.dd,?_⟩;rw[Fs g2 (by omega)];exact h5
theorem GT{qq:List Nat}{n':To}(hv:eG d x B v)(h1:f+1+qq.length=top)(h3:Bj qq v=some n)(hd:d<=d')(h5:d'<=500)(hg:dY d' x (f+1) (1+qq.length) n')(hs:dT (f+1) n'<=dT (f+1) n+B'):eG d' x (B+B') (As qq n' v):=by
 have q0:dY d' x (f+1+qq.length) 1 v:=by rw[h1];exact CS hd hv.gd
 have g1:=KW q0 h3 hg;have g2:=Kn (n':=n') q0 h3;rw[h1] at g1 g2;have:=hv.sz;exact⟨g1,h5,by omega⟩
theorem XJ{k:Nat}(hx:eG d' x B' xv)(hk:1+(k:Int)<=d)(h5:d+d'<=500)(hf:1000<=f):dY (d+d') x f (1+(k:Int)+1) xv/\dT f xv<=B':=by
 have g1:=Fa (s:=1+(k:Int)) hx.gd;have g2:=CS (D:=d+d') (by omega) g1;rw[show (1:Int)+(1+(k:Int))=1+(k:Int)+1 by omega] at g2;refine⟨Ci g2 (by omega),?_⟩;have g3:=Ci (f:=f) hx.gd (by have:=hx.dd;omega);have h9:=hx.sz;by_cases q0:f<=top
 ·rw[Fs g3 q0] at h9;exact h9
 ·rw[Fs hx.gd (by omega)];exact h9
theorem Qn(h:fZ p)(ht:t∈p):(Ag t).length<=600002:=by
 have:=EN t;have:=h.tok t ht;omega
theorem EZ:Ut iY:=⟨[],(fun c h=>by cases h),rfl⟩
def GC(d x:Int)(B:Nat)(o:dX):Prop:=(o.2.1.map fun t=>t.length+1).sum<=200000/\(o.1≠1->eG d x B o.2.2)
theorem EF(s:List By)(t:By):((s++[t]).map fun t=>t.length+1).sum=(s.map fun t=>t.length+1).sum+(t.length+1):=by simp
theorem KR(i:Nat)(h:i<=1000000000000):(Lib.itoa (i:Int)).length<=1000:=by
 have:=Lib.itoa_length_le (i:Int) (by omega) (by omega);omega
theorem J7(hv:eG d x B v)(hx:eG d' x B' xv)(hp:fZ p)(h5:d+d'<=500)(hB:B<=900000000)(h:Cq v p xv=.ok (v',j)):eG (d+d') x (B+(B'+600004)) v' /\ ∀o∈j,GC d x B o:=by
 have q7:=Fv hv.gd;have q8:=Fv hx.gd;unfold Cq DO at h;cases hl:p.getLast? with
 | none=>
  rw[hl] at h;injection h with h;injection h with e1 e2;subst e1;subst e2;refine⟨hx.mono (by omega) h5 (by omega),fun o ho=>?_⟩;obtain rfl:o=(2,[],v):=by simpa using ho
  exact⟨by simp,fun _=>hv⟩
 | some t=>
  have hne:p≠[]:=by rintro rfl;cases hl
  obtain⟨s,t',rfl⟩:∃s t,p=s++[t]:=⟨p.dropLast,p.getLast hne,(A3 hne).symm⟩
  rw[A4] at hl;injection hl with hl;subst hl;simp only[A4,Dp] at h;cases hf:Ah v s with
  | error c=>rw[hf] at h;cases h
  | ok n=>
   rw[hf] at h;simp only at h;obtain⟨qq,f,h1,h2,h3,h4,q6,h6,h7⟩:=Co hv hf;obtain⟨g1,g2⟩:=XJ (d:=d) hx h6 h5 h7;have hq:=Qn hp (show t'∈s++[t'] by simp);have q5:Ut t':=hp.2 t' (by simp);have q4:=hp.1;rw[EF] at q4;have q0:=CS (D:=d+d') (by omega) h4;unfold De at h;split at h
   ·rename_i es;split at h
    ·rename_i hh;injection h with h;injection h with e1 e2;subst e1;subst e2;rw[Dh h2];refine⟨GT hv h1 h3 (by omega) h5 (Uq q0 q5 g1) ?_,fun o ho=>?_⟩
     ·have:=S8 (f:=f) (i:=0) (k:=t') (c:=xv) (v:=.map es);omega
     ·obtain rfl:o=(2,s++[t'],(AS es).atKey (.string t') .nil):=by simpa using ho
      refine⟨by rw[EF];omega,fun _=>?_⟩;have hch:Ah v (s++[t'])=.ok ((AS es).atKey (.string t') .nil):=by
       rw[BQ,hf];show (if A2 (.map es:To) (.string t')=true then Except.ok ((AS es).atKey (.string t') .nil) else .error 11)=_;rw[if_pos hh]
      exact FZ hv hch
    ·injection h with h;injection h with e1 e2;subst e1;subst e2;rw[Dh h2];refine⟨GT hv h1 h3 (by omega) h5 (Us q0 q5 g1) ?_,fun o ho=>?_⟩
     ·have:=Tc (f:=f) (i:=0) (k:=t') (c:=xv) (v:=.map es);omega
     ·obtain rfl:o=(1,s++[t'],.nil):=by simpa using ho
      exact⟨by rw[EF];omega,fun hh=>absurd rfl hh⟩
   ·rename_i es y;split at h
    ·cases h
    ·rename_i i hi;injection h with h;injection h with e1 e2;subst e1;subst e2;rw[Dh h2];have q9:=Qk hi;have hk:=GQ (f:=f) (v:=.slice es y);have hk2:es.length<=B:=BY hk q6;refine⟨GT hv h1 h3 (by omega) h5 (Us q0 EZ g1) ?_,fun o ho=>?_⟩
     ·have:=Tc (f:=f) (i:=i) (k:=iY) (c:=xv) (v:=.slice es y);have e9:(Ag iY).length=2:=rfl;omega
     ·obtain rfl:o=(1,s++[Lib.itoa (i:Int)],.nil):=by simpa using ho
      refine⟨?_,fun hh=>absurd rfl hh⟩;have:=KR i (by omega);rw[EF];omega
   ·cases h
theorem MU(hv:eG d x B v)(hp:fZ p)(h:CU v p=.ok (v',j)):eG d x B v' /\ ∀o∈j,GC d x B o:=by
 unfold CU DO at h;cases hl:p.getLast? with
 | none=>rw[hl] at h;cases h
 | some t=>
  have hne:p≠[]:=by rintro rfl;cases hl
  obtain⟨s,t',rfl⟩:∃s t,p=s++[t]:=⟨p.dropLast,p.getLast hne,(A3 hne).symm⟩
  simp only[A4,Dp] at h;cases hf:Ah v s with
  | error c=>rw[hf] at h;cases h
  | ok n=>
   rw[hf] at h;simp only at h;cases hc:Aq n t' with
   | error c=>rw[hc] at h;cases h
   | ok e=>
    rw[hc] at h;simp only at h;injection h with h;injection h with e1 e2;subst e1;subst e2;obtain⟨qq,f,h1,h2,h3,h4,q0,h6,h7⟩:=Co hv hf;rw[Dh h2];have h8:=GT (B':=0) hv h1 h3 (Int.le_refl _) hv.dd (Ur (i:=(eZ t').getD 0) (k:=t') h4) (by have:=S9 (f:=f) (i:=(eZ t').getD 0) (k:=t') (v:=n);omega);refine⟨h8,fun o ho=>?_⟩;obtain rfl:o=(0,s++[t'],e):=by simpa using ho
    exact⟨by have:=hp.1;simp only;omega,fun _=>FZ hv (by rw[BQ,hf];exact hc)⟩
theorem W8(hv:eG d x B v)(hx:eG d' x B' xv)(hp:fZ p)(h5:d+d'<=500)(h:EO v p xv=.ok (v',j)):eG (d+d') x (B+(B'+600004)) v' /\ ∀o∈j,GC d x B o:=by
 have q6:=Fv hv.gd;have q7:=Fv hx.gd;unfold EO DO at h;cases hl:p.getLast? with
 | none=>
  rw[hl] at h;injection h with h;injection h with e1 e2;subst e1;subst e2;refine⟨hx.mono (by omega) h5 (by omega),fun o ho=>?_⟩;obtain rfl:o=(2,[],v):=by simpa using ho
  exact⟨by simp,fun _=>hv⟩
 | some t=>
  have hne:p≠[]:=by rintro rfl;cases hl
  obtain⟨s,t',rfl⟩:∃s t,p=s++[t]:=⟨p.dropLast,p.getLast hne,(A3 hne).symm⟩
  simp only[A4,Dp] at h;cases hf:Ah v s with
  | error c=>rw[hf] at h;cases h
  | ok n=>
   rw[hf] at h;simp only at h;cases hc:Aq n t' with
   | error c=>rw[hc] at h;cases h
   | ok e=>
    rw[hc] at h;simp only at h;injection h with h;injection h with e1 e2;subst e1;subst e2;obtain⟨qq,f,h1,h2,h3,h4,q5,h6,h7⟩:=Co hv hf;obtain⟨g1,g2⟩:=XJ (d:=d) hx h6 h5 h7;have hq:=Qn hp (show t'∈s++[t'] by simp);have q4:Ut t':=hp.2 t' (by simp);have q0:=CS (D:=d+d') (by omega) h4;rw[Dh h2];refine⟨GT hv h1 h3 (by omega) h5 (Uq q0 q4 g1) ?_,fun o ho=>?_⟩
    ·have:=S8 (f:=f) (i:=(eZ t').getD 0) (k:=t') (c:=xv) (v:=n);omega
    ·obtain rfl:o=(2,s++[t'],e):=by simpa using ho
     exact⟨by have:=hp.1;simp only;omega,fun _=>FZ hv (by rw[BQ,hf];exact hc)⟩
theorem Zf(hv:eG d x 200000 v)(ho:jA (d+2) x 200000 o)(h5:d<=100)(h:gW v o=.ok (v',j)):eG (d+(d+2)) x 1100000 v'/\(∀o∈j,GC d x 200000 o)/\j.length<=2:=by
 obtain⟨k,p,q,xv⟩:=o;obtain⟨k1,k2,k3⟩:=ho;have q5:=Fv hv.gd;simp only at k1 k2 k3;have q0:∀ {w:To} {D:Int} {C:Nat},eG D x C w->D<=d+(d+2)->C<=1100000->eG (d+(d+2)) x 1100000 w:=fun hw h1 h2=>hw.mono h1 (by omega) h2;have one:∀ {p:List By} {xv v':To} {j:List dX},Cq v p xv=.ok (v',j)->j.length<=1:=by
  intro p xv v' j h;unfold Cq at h;split at h
  ·injection h with h;injection h with _ h;subst h;simp
  ·split at h
   ·cases h
   ·unfold De at h
    repeat' split at h
    all_goals first|(injection h with h;injection h with _ h;subst h;simp)|cases h
 unfold gW at h;simp only at h;split at h
 ·rename_i hk;obtain⟨r1,r2⟩:=J7 hv (k3 (Ft hk)) k1 (by omega) (by omega) h;exact⟨q0 r1 (by omega) (by omega),r2,BY (one h) (by omega)⟩
 ·split at h
  ·obtain⟨r1,r2⟩:=MU hv k1 h;refine⟨q0 r1 (by omega) (by omega),r2,?_⟩;unfold CU at h
   repeat' split at h
   all_goals first|(injection h with h;injection h with _ h;subst h;simp)|cases h
  ·split at h
   ·rename_i hk;obtain⟨r1,r2⟩:=W8 hv (k3 (DD (Ft hk))) k1 (by omega) h;refine⟨q0 r1 (by omega) (by omega),r2,?_⟩;unfold EO at h
    repeat' split at h
    all_goals first|(injection h with h;injection h with _ h;subst h;simp)|cases h
   ·split at h
    ·rename_i hk;have kq:=k2 (Ft hk);unfold K6 at h;cases hf:Ah v q with
     | error c=>rw[hf] at h;cases h
     | ok e=>
      rw[hf] at h;simp only at h;split at h
      ·injection h with h;injection h with e1 e2;subst e1;subst e2;exact⟨q0 hv (by omega) (by omega),(fun o ho=>by cases ho),by simp⟩
      ·split at h
       ·cases h
       ·cases hr:CU v q with
        | error c=>rw[hr] at h;cases h
        | ok vj=>
         obtain⟨v1,j1⟩:=vj;rw[hr] at h;simp only at h;obtain⟨r1,r2⟩:=MU hv kq hr;have q6:j1.length<=1:=by
          unfold CU at hr
          repeat' split at hr
          all_goals first|(injection hr with hr;injection hr with _ hr;subst hr;simp)|cases hr
         cases ha:Cq v1 p e with
         | error c=>rw[ha] at h;cases h
         | ok q4=>
          obtain⟨v2,j2⟩:=q4;rw[ha] at h;injection h with h;injection h with e1 e2;subst e1;subst e2;obtain⟨s1,s2⟩:=J7 r1 (FZ hv hf) k1 (by omega) (by omega) ha;have q7:j2.length<=1:=by
           unfold Cq at ha;split at ha
           ·injection ha with ha;injection ha with _ ha;subst ha;simp
           ·split at ha
            ·cases ha
            ·unfold De at ha
             repeat' split at ha
             all_goals first|(injection ha with ha;injection ha with _ ha;subst ha;simp)|cases ha
          exact⟨q0 s1 (by omega) (by omega),fun o ho=>(List.mem_append.1 ho).elim (r2 o) (s2 o),by simp;omega⟩
    ·split at h
     ·unfold Lb at h;cases hf:Ah v q with
      | error c=>rw[hf] at h;cases h
      | ok e=>
       rw[hf] at h;obtain⟨s1,s2⟩:=J7 hv (FZ hv hf) k1 (by omega) (by omega) h;exact⟨q0 s1 (by omega) (by omega),s2,BY (one h) (by omega)⟩
     ·unfold KZ at h;cases hf:Ah v p with
      | error c=>rw[hf] at h;cases h
      | ok e=>
       rw[hf] at h;simp only at h;split at h
       ·injection h with h;injection h with e1 e2;subst e1;subst e2;exact⟨q0 hv (by omega) (by omega),(fun o ho=>by cases ho),by simp⟩
       ·cases h
theorem Wj{D:Int}{C:Nat}(hv:eG D x C v)(h5:d<=100)(h:Fj d v=0):eG d x 40000 v/\(dZ top v).length<=20000:=by
 unfold Fj at h;split at h
 ·cases h
 ·split at h
  ·cases h
  ·rename_i h1 h2;have g:=OR hv.gd (show 1+eQ top v<=d+1 by omega);have:=(BT hv.gd).2;exact⟨⟨g,by omega,by omega⟩,by omega⟩
theorem aM{c:Nat}(h:gW v o=.error c):c≠0:=by
 have q0:∀ {v:To} {p:List By} {xv:To} {c:Nat},Cq v p xv=.error c->c≠0:=by
  intro v p xv c h;unfold Cq at h;split at h
  ·cases h
  ·split at h
   ·rename_i hf;injection h with h;subst h;exact Cj hf
   ·unfold De at h;split at h
    ·split at h<;>cases h
    ·split at h
     ·rename_i hs;injection h with h;subst h;exact NX hs
     ·cases h
    ·injection h with h;omega
 have hch:∀ {v:To} {t:By} {c:Nat},Aq v t=.error c->c≠0:=fun h=>by have:=Fe h;omega
 have q4:∀ {v:To} {p:List By} {c:Nat},CU v p=.error c->c≠0:=by
  intro v p c h;unfold CU at h;split at h
  ·injection h with h;omega
  ·split at h
   ·rename_i hf;injection h with h;subst h;exact Cj hf
   ·split at h
    ·rename_i hc;injection h with h;subst h;exact hch hc
    ·cases h
 unfold gW at h;split at h
 ·exact q0 h
 ·split at h
  ·exact q4 h
  ·split at h
   ·unfold EO at h;split at h
    ·cases h
    ·split at h
     ·rename_i hf;injection h with h;subst h;exact Cj hf
     ·split at h
      ·rename_i hc;injection h with h;subst h;exact hch hc
      ·cases h
   ·split at h
    ·unfold K6 at h;split at h
     ·rename_i hf;injection h with h;subst h;exact Cj hf
     ·split at h
      ·cases h
      ·split at h
       ·injection h with h;omega
       ·split at h
        ·rename_i hr;injection h with h;subst h;exact q4 hr
        ·split at h
         ·rename_i ha;injection h with h;subst h;exact q0 ha
         ·cases h
    ·split at h
     ·unfold Lb at h;split at h
      ·rename_i hf;injection h with h;subst h;exact Cj hf
      ·exact q0 h
     ·unfold KZ at h;split at h
      ·rename_i hf;injection h with h;subst h;exact Cj hf
      ·split at h
       ·cases h
       ·injection h with h;omega
end
def Pu(f:Nat)(a:To):Prop:=∀ (F:Nat->Prop) (w:AT) (v:A6),Rep f F w v a->F1 AI 161 #[v] w fun e w'=>∃p,e=.returned (.pointer (some p))/\D3 w.heap.size w w'/\Tr f w.heap.size w' (.pointer (some p)) (Bx f a)
theorem Dk{F:Nat->Prop}{w:AT}{v:A6}{d:To}(h:Rep f F w v d):∃b x n s sl mv,v=.pointer (some ⟨b,0,none⟩)/\VB w b x n s sl mv/\(x != 0) = !fY d/\(x != 6) = !fI d:=by
 cases f with
 | zero=>exact h.elim
 | succ f=>
  obtain⟨b,rfl,_,h⟩:=h;rcases h with⟨k,hk,rfl,h⟩|⟨n,rfl,h,_⟩|⟨s,rfl,h⟩|⟨es,sl,ps,rfl,h,_⟩|⟨es,m,n,D,rfl,h,_⟩
  ·refine⟨b,k,_,_,_,_,rfl,h,?_⟩
   match k,hk with
   | 0,_=>exact⟨rfl,rfl⟩
   | 1,_=>exact⟨rfl,rfl⟩
   | 2,_=>exact⟨rfl,rfl⟩
  ·exact⟨b,3,_,_,_,_,rfl,h,rfl,rfl⟩
  ·exact⟨b,4,_,_,_,_,rfl,h,rfl,rfl⟩
  ·exact⟨b,5,_,_,_,_,rfl,h,rfl,rfl⟩
  ·exact⟨b,6,_,_,_,_,rfl,h,rfl,rfl⟩
theorem Iu{d:To}(h:fI d=false):Bx (f+1) d=d:=by
 cases d<;>first|rfl|cases h
theorem PL{F:Nat->Prop}{w:AT}{v:A6}{d:To}(h:Rep (f+1) F w v d)(hd:fI d=false)(hn:iN (f+1) d):
  F1 AI 161 #[v] w fun e w'=>∃p,e=.returned (.pointer (some p))/\D3 w.heap.size w w'/\Tr (f+1) w.heap.size w' (.pointer (some p)) (Bx (f+1) d):=by
 obtain⟨b,x,n,s,sl,mv,rfl,hv,_,e6⟩:=Dk h;rw[hd] at e6;have e1:(x != 6)=true:=e6;have c0:=hv.c0;have HC:=Ab (G6 (f+1) d hn F w _ h);obtain⟨E,hE⟩:∃E,E=Bx (f+1) d:=⟨_,rfl⟩
 have HE:=Ab (show E=d by rw[hE,Iu hd]);rw[<- hE];clear h hd hn e6 hE hv
 go_enter func161,ntmps161
 go_wp2_with (fail);refine (Aa HC).mono ?_
 rintro e w' ⟨p,rfl,hb,ht⟩;have HB:=Ab hb;have HT:=Ab ht;clear hb ht
 go_wp2_with (fail)
 go_ret;refine⟨p,rfl,Aa HB,?_⟩
 rw[Aa HE];exact Aa HT
structure MrO(f:Nat)(w:AT)(es:List (Lit×To))(left:Lit->Bool)(cnt:Nat)(wr:AT):Prop where
 bel:D3 w.heap.size w wr
 sz:w.heap.size+2<=wr.heap.size
 el:∃n' D' es',n'+cnt<=es.length/\wr.ownsMap AI 9 RV w.heap.size n' (.map D')/\TrM f (w.heap.size+2) wr D' es' /\
  (∀k,A2 (.map es':CH Unit) k=(A2 (.map es:CH Unit) k && !left k && !fY ((AS es).atKey k .nil)))/\(∀k,A2 (.map es':CH Unit) k=true->(AS es').atKey k .nil=Bx f ((AS es).atKey k .nil))
theorem MrO.next{w w1:AT}(h:MrO f w es left cnt wr)(hg:wr.grownBy w1 (some (w.heap.size+1))):MrO f w es left cnt w1:=by
 have hs:=h.sz;have q0:=hg.size;have hk:∀j,j<wr.heap.size->j≠w.heap.size+1->w1.heap[j]? = wr.heap[j]?:=fun j h1 h2=>hg.block j h1 (by grind);refine⟨⟨hg.os.trans h.bel.os,hg.tape.trans h.bel.tape,hg.output.trans h.bel.output,by omega,fun j hj=>(hk j (by omega) (by omega)).trans (h.bel.block j hj)⟩,by omega,?_⟩;obtain⟨n',D',es',h1,h2,h3,h4,h5⟩:=h.el;exact⟨n',D',es',h1,An h2 (by grind),h3.move (by grind),h4,h5⟩
theorem Cn{k:Lit}(h:k≠kl):k.sameKey kl=false:=by
 cases hx:k.sameKey kl
 ·rfl
 ·exact absurd (CL hx) h
theorem MrO.skip{cnt1:Nat}{w:AT}(h:MrO f w es left cnt wr)(hc:cnt1<cnt)(hn:fY ((AS es).atKey kl .nil)=true):MrO f w es (fun z=>left z && !z.sameKey kl) cnt1 wr:=by
 obtain⟨n',D',es',h1,h2,h3,h4,h5⟩:=h.el;refine⟨h.bel,h.sz,n',D',es',by omega,h2,h3,fun k=>?_,h5⟩;rw[h4];by_cases hkk:k=kl
 ·grind
 ·rw[Cn hkk];simp
theorem MrO.step{cnt1:Nat}{w w1 w2:AT}(h:MrO f w es left cnt w1)(c:D1 (.map es:CH Unit))(hc:cnt1<cnt)(q9:es.length<G0){x:A6}(q0:keyOf AI 9 x=some kl)(hl:left kl=true)(hh:A2 (.map es:CH Unit) kl=true)(hn:fY ((AS es).atKey kl .nil)=false){p:Addr}(hb:D3 w1.heap.size w1 w2)(hv:Tr f w1.heap.size w2 (.pointer (some p)) (Bx f ((AS es).atKey kl .nil))):
  ∃w3,(Instr.mapUpdate 109 (.map (some w.heap.size)) x (.pointer (some p))).run AI w2=.ok () w3 /\
   MrO f w es (fun z=>left z && !z.sameKey kl) cnt1 w3/\w2.grownBy w3 (some w.heap.size):=by
 have hs:=h.sz;have hs2:=hb.size;obtain⟨n',D',es',h1,h2,h3,h4,h5⟩:=h.el;have q7:=An h2 (hb.block _ (Bg h2));obtain⟨w3,q4,q5,hg⟩:=q7.update BE underlying109 (by omega) q0 (val:=.pointer (some p)) (d:=.held (.pointer (some p))) (ps:=[]) rfl;have q8:=hg.size;have hk:∀j,j<w2.heap.size->j≠w.heap.size->w3.heap[j]? = w2.heap[j]?:=fun j h1 h2=>hg.block j h1 (by grind);refine⟨w3,q4,⟨⟨hg.os.trans (hb.os.trans h.bel.os),hg.tape.trans (hb.tape.trans h.bel.tape),hg.output.trans (hb.output.trans h.bel.output),by omega,fun j hj=>(hk j (by omega) (by omega)).trans ((hb.block j (by omega)).trans (h.bel.block j hj))⟩,by omega,?_⟩,hg⟩;have kk:=Jo c hh;obtain⟨D2,q6,e1,e2,ht⟩:=h3.put (k:=kl) (w6:=w3) hv (by omega) (fun j j1 j2=>(hk j (by omega) (by omega)).trans (hb.block j j2)) (by grind);rw[e1] at q5;refine⟨n'+1,D2,q6,by omega,q5,ht,?_,?_⟩
 ·intro k;rw[<- e2];by_cases hkk:k=kl
  ·subst hkk;rw[has_put_same ⟨_,rfl⟩ kk,hh,hl,WideAt.sameKey_self kk,hn];rfl
  ·rw[has_put_other hkk,h4,Cn hkk];simp
 ·intro k;rw[<- e2];by_cases hkk:k=kl
  ·subst hkk;intro _;rw[atKey_put_same ⟨_,rfl⟩ kk]
  ·rw[has_put_other hkk,atKey_put_other hkk];exact h5 k
def iD(f:Nat)(es:List (Lit×To)):List (Lit×To):=(es.filter fun q=>!fY q.2).map fun q=>(q.1,Bx f q.2)
theorem Jy(c:D1 (.map es:CH Unit)):D1 (.map (iD f es):CH Unit):=by
 obtain⟨_,he,hp,hk⟩:=c;injection he with he;subst he;refine⟨_,rfl,?_,fun p q0=>?_⟩
 ·unfold iD
  grind
 ·unfold iD at q0
  grind
theorem Iw(c:D1 (.map es:CH Unit))(k:Lit):A2 (.map (iD f es):CH Unit) k=(A2 (.map es:CH Unit) k && !fY ((AS es).atKey k .nil))/\(A2 (.map (iD f es):CH Unit) k=true->(AS (iD f es)).atKey k .nil=Bx f ((AS es).atKey k .nil)):=by
 have c2:=Jy (f:=f) c;obtain⟨_,he,hp,hk⟩:=c;injection he with he;subst he;have q4:=apart_of_rising hp;obtain⟨_,q6,q7,hk2⟩:=c2;injection q6 with q6;subst q6;have q5:=apart_of_rising q7;have key:∀q∈iD f es,∃p∈es,q.1=p.1/\fY p.2=false/\q.2=Bx f p.2:=fun q hq=>by
  unfold iD at hq
  grind
 constructor
 ·rw[Bool.eq_iff_iff,Bool.and_eq_true];constructor
  ·intro h;obtain⟨q,hq,hs⟩:=A5.1 (show (iD f es).any (fun q=>q.1.sameKey k)=true from h);obtain⟨p,q0,e1,e2,_⟩:=key q hq;have ek:p.1=k:=by rw[<- e1];exact CL hs
   refine⟨A5.2 (by grind),?_⟩;have:=CR .nil (hk p q0) q4 (by omega)
   grind
  ·rintro⟨h1,h2⟩;obtain⟨p,q0,hs⟩:=A5.1 (show es.any (fun q=>q.1.sameKey k)=true from h1);have ek:p.1=k:=CL hs;have:=CR .nil (hk p q0) q4 (by omega);rw[<- ek,this] at h2;exact A5.2 ⟨(p.1,Bx f p.2),List.mem_map.2 (by grind),hs⟩
 ·intro h;obtain⟨q,hq,hs⟩:=A5.1 (show (iD f es).any (fun q=>q.1.sameKey k)=true from h);obtain⟨p,q0,e1,e2,e3⟩:=key q hq;have ek:q.1=k:=CL hs;have h1:=CR .nil (hk2 q hq) q5 (by omega);have h2:=CR .nil (hk p q0) q4 (by omega)
  grind
theorem MrO.done{w w2:AT}(h:MrO f w es left cnt wr)(c:D1 (.map es:CH Unit))(hl:∀k,left k=false)(hb:D3 wr.heap.size wr w2)(hv:VB w2 wr.heap.size 6 n0 [] (.slice none 0 0) (.map (some w.heap.size))):Tr (f+1) w.heap.size w2 (.pointer (some ⟨wr.heap.size,0,none⟩)) (Bx (f+1) (.map es)):=by
 obtain⟨n',D',es',h1,h2,h3,h4,h5⟩:=h.el;have hs:=h.sz;have c':=h3.pt.canon (h2.canon BE);have e:es'=iD f es:=Om c' (Jy c) (fun k=>by rw[h4,hl,(Iw c k).1];simp) (fun k hk=>by
  rw[h5 k hk,(Iw c k).2 (by rw[(Iw c k).1];grind)])
 subst e;have q4:=h3.move (w':=w2) fun j _ hj=>hb.block j hj;obtain⟨al,g1,g2,g3,g4⟩:=h3;have hlt:=g1.lts;have q0:Pt (Ad f w2) D' al:=Pt.mem (fun u p hp hu=>hu.move fun k q5=>hb.block k (hlt k (by grind))) g1;refine⟨dW wr.heap.size w.heap.size (.map al),⟨wr.heap.size,w.heap.size,_,rfl,rfl,DD (DD (DD (DD ⟨al,n',D',rfl,hv,An h2 (hb.block _ (Bg h2)),q0⟩)))⟩,?_,?_,?_⟩
 ·rw[AX,g2];rfl
 ·grind [Bo,AX,F5]
 grind [Bo,AX,F5]
theorem RI{F:Nat->Prop}{w:AT}{b m n:Nat}{D:List (Lit×CH A6)}(hS:∀k,A2 (.map es:CH Unit) k=true->Pu f ((AS es).atKey k .nil))(h:VB w b 6 n0 [] (.slice none 0 0) (.map (some m)))(ho:w.ownsMap AI 9 RV m n (.map D))(hp:Pt (Rep f F w) D es)(qr:es.length<G0):
  F1 AI 161 #[.pointer (some ⟨b,0,none⟩)] w fun e w'=>∃p,e=.returned (.pointer (some p))/\D3 w.heap.size w w'/\Tr (f+1) w.heap.size w' (.pointer (some p)) (Bx (f+1) (.map es)):=by
 have qk:=BE;have zf:=@run_makeMap AI;have c0:=h.c0;have c6:=h.c6;have qw:=h.lt;have ze:=Bg ho;have hl:=hp.size;have hsz:Maps.size (.map D:CH A6)=es.length:=hl;have C1:=Ab (hp.canon (ho.canon qk));have qt:Hid ((w.alloc (.map #[] 0)).ownsMap AI 9 RV m n (.map D)):=Ab (ho.alloc _);have d6:(w.alloc (.map #[] 0)).cell? ⟨b,6,none⟩=some (.map (some m)):=(E0 (w:=w) (a:=⟨b,6,none⟩) (Below.heap_alloc w _ b qw)).trans c6;have q5:Hid (∀w0,(w.alloc (.map #[] 0)).grownBy w0 none->w0.heap.size=w.heap.size+2->MrO f w es (has (.map D:CH A6)) (Maps.size (.map D:CH A6)) w0):=by
  intro w0 hg hs;have qb:=World.ownsMap_made w AI 9 RV;have hk:∀j,j<w.heap.size+1->w0.heap[j]? = (w.alloc (.map #[] 0)).heap[j]?:=fun j hj=>hg.block j (by simp;omega) (by simp);have hb2:D3 w.heap.size w (w.alloc (.map #[] 0)):=(Dt _ _).alloc (C2 _) _;refine⟨⟨hg.os.trans hb2.os,hg.tape.trans hb2.tape,hg.output.trans hb2.output,by omega,fun j hj=>(hk j (by omega)).trans (hb2.block j hj)⟩,by omega,0,[],[],by omega,An qb (hk _ (by omega)),TrM.nil _ _ _,?_,?_⟩
  ·intro k;rw[hp.has k];cases A2 (.map es:CH Unit) k<;>rfl
  ·intro k hk;cases hk
 have HP:=Ab hp;have HS:=Ab hS;have qv:=Ab qr;obtain⟨E,hE⟩:∃E,E=Bx (f+1) (.map es):=⟨_,rfl⟩
 rw[<- hE];have HE:=Ab hE;clear hp hS h ho qr hl hE
 go_enter func161,ntmps161
 go_wp2_with (first
  | (at_range;refine wpList_range_own _ rfl _ 109 rfl 9 80 qk underlying109 RV m n _ rfl (Aa qt) ?_;intro w0 qe qo z1)
  | go_in)
 have e0:(w.alloc (.map #[] 0)).heap.size=w.heap.size+1:=by simp
 have hcl:=Ab (Aa q5 w0 qo (by omega));rw[e0] at qe;clear qo z1 q5;simp only[Act.put,List.setIfInBounds_toArray,List.set_cons_zero,List.set_cons_succ,e0]
 go_loopw [4] (fun _ wr=>∃ (left:Lit->Bool) (cnt:Nat),wr.ranges AI 9 RV m (w.heap.size+1) n (.map D) left cnt/\Hid (MrO f w es left cnt wr))
  (fun _ wr=>wr.rangeLeft m (w.heap.size+1))
 case atStart=>grind
 case round=>
  obtain⟨left,cnt,qh,G⟩:=hrel
  go_wp2_with (first
   | (at_next;refine wpList_next_ranges _ rfl _ rfl 9 qk RV id id (fun key _ _=>⟨key,rfl⟩) (fun v _ _=>⟨v,rfl⟩) m (w.heap.size+1) n _ _ _ rfl qh ?_ ?_)
   | go_in)
  ·intro _ hl0;have HD:=Ab (fun (w2:AT) (hb:D3 wr.heap.size wr w2) (hv:VB w2 wr.heap.size 6 n0 [] (.slice none 0 0) (.map (some w.heap.size)))=>(Aa G).done (Aa C1) hl0 hb hv);have HB:=Ab (Aa G).bel;clear qe qh
   go_wp2_with (fail)
   go_ret;have qd:∀o:Obj,D3 wr.heap.size wr (wr.alloc o):=fun o=>(Dt _ _).alloc (C2 _) _
   refine⟨_,rfl,(Aa HB).trans ((qd _).mono (Aa HB).size),?_⟩;rw[Aa HE];exact Aa HD _ (qd _) (CD wr _)
  ·intro x c kl yd yp w1 cnt1 q9 qq hv qj qf hlt qy zg zc;have qi:G3 c=yd:=congrArg Prod.fst (Option.some.inj hv);subst qi;have q6:A2 (.map D:CH A6) kl=true:=has_true_of_atKey qj
   obtain⟨c',e1,q4⟩:=(Aa HP).at kl q6;have e2:c'=c:=by
    simp_all
   subst e2;have q0:A2 (.map es:CH Unit) kl=true:=by rw[<- (Aa HP).has kl];exact q6
   have G1:=Ab ((Aa G).next qy);obtain⟨pb,pk,pn,ps,psl,pmv,qx,qg,q7,_⟩:=Dk q4;subst qx;have ck:w1.cell? ⟨pb,0,none⟩=some (.int .i64 pk):=(qg.kept ((Aa G1).bel.block pb qg.lt)).c0;have qu:=Ab q4;have z6:=Ab q0;have z8:=Ab q9;have zb:=Ab qq;have za:=Ab hlt;cases hnl:fY ((AS es).atKey kl .nil) with
   | true=>
    rw[hnl] at q7;have ek:(pk != 0)=false:=q7;have G2:=Ab ((Aa G1).skip hlt hnl);clear qj q4 q0 e1 q6 hv q7 hnl qg
    go_wp2_with (fail)
    go_roundw
    case rel=>grind
    case measure=>rw[qf.left_eq,qh.left_eq];exact hlt
   | false=>
    rw[hnl] at q7;have ek:(pk != 0)=true:=q7;have qn:=Ab (fun (w2:AT) (p:Addr) (hb:D3 w1.heap.size w1 w2) (hv:Tr f w1.heap.size w2 (.pointer (some p)) (Bx f ((AS es).atKey kl .nil)))=>(Aa G1).step (Aa C1) hlt (Aa qv) q9 qq q0 hnl hb hv);have HC:=Ab (Aa HS kl q0 F w1 _ (q4.bel (Aa G1).bel));clear qj q4 q0 e1 q6 hv q7 hnl qg
    go_wp2_with (fail);refine (Aa HC).mono ?_
    rintro e w2 ⟨p,rfl,hb2,qi⟩;obtain⟨w3,qz,q8,qp⟩:=Aa qn w2 p hb2 qi;have qm:=(qf.kept (Bh hb2) (by simp) (by simp)).kept qp (by grind) (by grind);have z7:=Ab q8;clear hb2 qi q8 qp HC qn
    go_wp2_with (fail)
    go_roundw
    case rel=>grind
    case measure=>rw[qm.left_eq,qh.left_eq];omega
theorem KJ:∀ (f:Nat) (a:To),iN f a->Pu f a
 | 0,_,_=>fun _ _ _ h=>h.elim
 | f+1,a,hn=>fun F w v h=>by
  cases hob:fI a with
  | false=>exact PL h hob hn
  | true=>
   obtain⟨es,rfl⟩:∃es,a=.map es:=by
    cases a<;>first|exact⟨_,rfl⟩|cases hob
   obtain⟨b,rfl,_,h⟩:=h;obtain⟨n1,n2⟩:=hn;rcases h with⟨k,_,e,_⟩|⟨n,e,_⟩|⟨s,e,_⟩|⟨es',sl,ps,e,_⟩|⟨es',m,n,D,e,hv,_,ho,hp⟩
   ·cases e
   ·cases e
   ·cases e
   ·cases e
   ·injection e with e;subst e;exact RI (fun k hk=>by
     obtain⟨p,q0,e⟩:=Pl hk;rw[e];exact KJ f _ (n2 p q0)) hv ho hp (by unfold G0;omega)
end Go.Proofs.YtdpomdelmdofmaaGreatDoor
